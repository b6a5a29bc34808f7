import PyProof.Rows.All
import Wide.All
import OpenK.AllK
import Wide.FinOn
import Lean
import PyProof.EqAt
import PyProof.EqKinds
import PyProof.TupleCall
import PyProof.Rows.SetFrom
import KE.KDictList
import KE.KMinKey
import PyProof.ListRange
import KE.KRevIter
import PyProof.TupleOfGen
import PyProof.StrBlockL
import PySem.Challenge.RW_leastasks_k37_whole_depth_between
set_option Elab.async false
set_option linter.all false
set_option maxRecDepth 100000
set_option maxHeartbeats 4000000
set_option genSizeOf false
set_option genInjectivity false
open Option renaming some→a3,none→a7,getD_some→dE,isSome_some→eV,join_some→iJ,getD_none→iK,map_some→iX,bind→kn
open Bool renaming false→a4,true→a6,or_eq_true→cA,eq_iff_iff→eC,false_and→gj,and_false→gn,true_and→gE,or_false→gG,false_or→gH,not_eq_true'→js,and_true→kq
open PySem renaming wpAny_bind→a5,Value→a8,starEach→a9,Addr→aa,Shared→af,wpAny_pure→ah,Str→aj,Expr→ao,wpAny→aq,sizeLine→ar,mainGlobals→au,Program→av,model→ay,World→az,eval→aA,Around→aC,Heap→aD,wpAny_Call_Name_kw→aF,behindInMarks→aG,foldedSetIterable→aH,codeAny_builtin→aI,argBest→aL,wpAny_newObj_type→aM,wpAny_tryCatch→aN,Pos→aO,plainId_quiet→aP,FuncData→aQ,compareOp→aR,wpAny_holding→aT,cellsFrom→aU,cLine→aX,backTo→aY,swapsWith→aZ,wpAny_truthy_bool→b7,wpAny_pyIter_list→b8,wpAny_seqItems→ba,attributeBase→bf,wpAny_pyNext_list_item→bg,bootBuiltins→bh,binaryOp→bj,Stmt→bp,Scope→br,Keyword→bx,wpAny_updateSeq→bA,codeAny_mono→bB,wpAny_letGo→bC,keywordEach→bD,wpAny_mono→bE,assignEach→bF,NameKind→bG,holding→bL,wpAny_call_entry→bM,wpAny_callSpecial?_slot→bN,wpAny_typeNameOfWhole_valiter→bR,seqItems?→bW,wpAny_pyNext_list_end→bX,codeAny→c8,pyNext→ck,call_meets→cq,wpAny_typeNameOf_valiter→cG,backToKw→cH,wpAny_field→cO,assign→cX,wpAny_of_eq→d6,sliceBounds→d7,richCompare→d8,wpAny_passesOwn→dn,strKind→dy,Obj→dz,BindsTo→dA,Arguments→dC,closureFor→dJ,builtinsNs→dM,Env→dS,Builtin→dU,swapsWithSole→dX,swappedStores→dY,rawInt→dZ,draw→eJ,boot_len→eK,wpAny_call→eR,sysModules→eS,wpAny_loadPart'→eT,letOwnedTupleGo→eU,wpAny_isOneOf_valiter→f9,call→fb,wpAny_setField→ff,recursionLimit→fg,intItems→fh,firstArgMember→fi,bindArgs→fj,Result→fm,JoinOk→fq,IsPart→fv,GenState→fA,updateSeq→fC,tupleKind→fD,intKind→fE,codeAmong→fF,wpAny_standAt→fL,wpAny_newList→fM,wpAny_pyIter_tuple→fP,typeIs_int→fQ,isTrue→fR,defaultsOf→fT,wpAny_dictEntries→fZ,standAt→g6,concat_meets→g9,callerA→gb,CmpOp→gc,scanBound→gu,noFill_tuple_add→gv,PassesOwn→gw,DictEntry→gx,numAt→gC,wpAny_execs_nil→gK,wpAny_dictEpoch→gL,Tok→gO,typeIs_str→i3,pyIter→i4,newFunctionEnv→i5,wpAny_binaryOp_repeat_ref→ir,wpAny_comprehension_free→iC,seq_tuple_add→iD,pushCells→iF,bindL→iG,bindC→iH,again→iI,spliced→iR,seqSlot_of→iS,seqIndex_neg→iT,richCompare_meets_room→iU,getItem→iV,wpAny_isTrue_Compare1→jC,sizeLine_eq→jJ,seqIndex_of→jK,lookup_relabel_local→jL,intItems_at→jM,atKey→jN,Operator→jO,wpAny_Name→k9,tupleKind_room_in1→ka,rule→kc,entryOfKey→ke,wpAny_pyIter_enum→ky,wpAny_assign_Name→kz,wpAny_Return_some→kA,call_sum_walkAnyS→kB,Model→kC,Meets→kD,ItemsOf→kE,wpAny_forIn_list→kW,wpAny_execs_cons→kX,lastMarks→kY,pushCells_keeps→lJ,codeAny_of_tree→lK,wpAny_runValue→lS,wpAny_fieldsOf→lT,wpAny_Compare1→lU,newExc→lV,Params→lW,wpAny_handled→m9,wpAny_attempt→ma,intBits_le_64→md,evalPart_none→mf,call_list_seq→mh,Sem→mi
open List renaming replicate→ae,range→ax,drop_eq_getElem_cons→cg,filterMap_cons→cj,filter_append→cB,getElem?_replicate→cE,filter_cons_of_pos→cF,getElem?_set→cL,take_length→cP,length→cR,nil_append→cV,getD_cons_zero→cY,map_nil→d4,length_zipIdx→df,getElem?_append_right→dh,foldl→di,any_cons→dF,not_mem_nil→dN,getElem?_cons_succ→dO,filter_cons_of_neg→dP,cons_append→dQ,of_mem_zip→eB,length_singleton→eF,nodup_nil→eO,drop_zero→eP,toList_toArray→eW,mem_map_of_mem→eX,getD_cons_succ→eY,set_eq_take_append_cons_drop→fB,pairwise_map→fG,range_add→gh,all_cons→gD,getElem?_set_self→gW,take_append_drop→i9,getLast?_append→iu,getElem?_set_ne→iw,getElem?_mapIdx→iy,zip_cons_cons→iL,countP_append→iM,reverse_cons→iY,getLast?_map→iZ,any_eq_false→ja,nodup_range→jE,mem_flatMap→jF,drop_length→jG,any_toArray→jH,range_succ→jR,mem_zipIdx→jS,find?_cons→jT,filter_map→jU,countP_nil→jV,countP_map→jW,any_map→kF,all_map→kH
open Option.some renaming inj→aw
open PySem.Value renaming ref→aB,none→aV,int→bo,bool→bJ,str→bO,type→bV,notImplemented→gY,isInt→ku
open PySem.Builtin.Str renaming strSliceIndices→aE,tooLong→cN,occurrences→fK,glued→lR
open PySem.Builtin.Builtins renaming bindParams→aJ
open PySem.Str renaming ofString→aK,cps→kJ,length→lQ
open PySem.Obj renaming mapSeq→aS,data_mapFields→dk,mapFields→gJ,isFreed_of_fields→ie,cls_mapFields→jv
open False renaming elim→aW
open PySem.Builtin.SmallTypes renaming nextOf→b9
open PyProof.Rows renaming seqObj→bc,envOfC→bI,get?_update_seq→cK,IntsAre→cZ,AllBare→dW,boot_min→i6,IsTup→i7,subscriptTail_builtinR→iW,callWith_builtin_kwB→jP,slot_tuple_getitem→kg,size_push'→ki,boot_isinstance→lL,tail_any→lX,slicePart_none→lY,kmk_tree→lZ,boot_max→m8,subscriptTail→mj,Constant_none→mq
open PySem.Builtin.Tuple renaming tupleExact→be,tupleCompareSizes→eE,tupleTooMany→f6,tupleItemsOf→kS
open Or renaming inl→bq,inr→bH
open PySem.NameKind renaming free→bu,cell→bK
open PySem.Builtin.Slice renaming slicePlaces→bP,sliceAdjust→cQ,sliceApplied→f7,slicePartIndex→kT,sliceFields→kU
open PyProof.Rows.F renaming plain_set_update_loop→bQ,entry_set_update_loop→dD
open PySem.Txt renaming slice→bS,join→eQ,mul→iO
open PySem.Builtin.List renaming listTooLong→bT,listExtendWith→lI
open Classical renaming byContradiction→bU,propDecidable→dr
open Int renaming pow_pos→bY,ediv_eq_zero_of_lt→cM,zero_add→de,emod_lt_of_pos→dq,one_mul→dG,natCast_add→eG,add_mul_ediv_left→eL,toNat_of_nonneg→fc,mul_le_mul_of_nonneg_right→fU,fdiv_eq_ediv_of_nonneg→gy,pow_succ→ia,ne_of_gt→ib,le_of_lt→ic,mul_nonneg→ko,mul_assoc→kI,mul_comm→l6,le_trans→l7,mul_one→lN,add_mul→lO
open PySem.PassesOwn renaming never→bZ,leaving→gQ
open PySem.AutoSeq1 renaming wpAny_loadPart'→c7,sub_tuple_tuple→fW
open ForInStep renaming yield→c9
open Array renaming getElem?_eq_getElem→cb,length_toList→cW,append_inj_right→gP,getElem?_toList→gX,toList→kr
open PySem.F renaming slot_tuple_iterator_next→cc,entry_max_loop→cC,args_tuple_add_2→dm,plainAttrs_list→du,entry_tuple_add→dw,slot_tuple_add→dH,slot_int_rmul→eN,args_dict_valueiterator_next_1→fO,entry_dict_valueiterator_next→fV,args_tuple_lt_2→gf,entry_tuple_lt→gp,args_tuple_iterator_next_1→gr,slot_tuple_lt→gz,entry_tuple_iterator_next→gB,slot_tuple_count→gZ,slot_list_extend→hJ,slot_list_append→hV,slot_dict_values→hW,slot_list_count→ig,slot_dict_values_iter→ij,plain_min→ik,plain_max→il,entry_min→ip,entry_max→iq,kind_min→iA,kind_max→iB,slot_str_join→iE,args_object_init_2→iP,args_tuple_mul_2→jI,plain_tuple_new→jX,plain_list_iadd→jY,entry_tuple_mul→jZ,args_int_rmul_2→k5,slot_tuple_mul→k7,entry_int_rmul→k8,fills_int_mul→kv
open PySem.Builtin renaming bitAnd→cf,bitXor→iQ
open PySem.Builtin.Dict_items renaming ownsTuple→cw,newIterator→jA,dictOf→jB
open PySem.W renaming nsIn→cy,OpenLaw→dB,KdlSrc→fN,WalkO→iz,CodeHd→iN,Frag→lP
open Nat renaming lt_of_le_of_lt→cD,pow_le_pow_right→cT,le_of_lt→d9,mul_comm→eA,not_lt_zero→gd,lt_or_ge→i8,lt_trichotomy→jD,testBit_zero→jQ,min_eq_left→k6,succ_mul→kZ,sub_zero→l0,min_self→l5,pow_pos→lM
open PySem.Heap renaming SameBut→cJ,get?_update_self→eD,ExtBut→eM,get?_update_other→gR
open Ne renaming symm→cS
open List.Sublist renaming refl→cU
open PySem.SeqAt renaming EqAt→d5,RcAt→fX
open Function renaming comp→dj
open PySem.Calls renaming callWith_builtin→dR,spliced_cons→eZ,spliced_nil→fe,Name_function_global→fY,evalArgs_plain→hZ
open Sum renaming inr→fH,inl→fJ
open PySem.EqMixed renaming ne_str_int→kK,ne_str_bool→kL,ne_int_str→kM,ne_bool_str→kN,eq_str_int→kO,eq_str_bool→kP,eq_int_str→kQ,eq_bool_str→kR
open PySem.EqNone renaming ne_str_none→l9,ne_none_str→lh,ne_none_none→lj,ne_none_int→lq,ne_none_bool→lr,ne_int_none→lz,ne_bool_none→lA,eq_str_none→lB,eq_none_str→lC,eq_none_none→lD,eq_none_int→lE,eq_none_bool→lF,eq_int_none→lG,eq_bool_none→lH
def kh:=@List.getElem?_eq_getElem
def kj:=@List.getD_eq_getElem?_getD
def km:=@PySem.Heap.get?_push_of_some
def xf:=@List.mem_cons_of_mem
def xg:=@List.length_map
def xj:=@List.mem_singleton
def xm:=@Bool.false_ne_true
def xn:=@List.mem_cons
def xq:=@List.mem_cons_self
def xr:=@List.mem_map
def xu:=@PySem.Heap.get?_push_size
def xx:=@Nat.le_refl
def X3:=@List.length_cons
def X4:=@PySem.Heap.lt_size
def X5:=@List.mem_range
def X6:=@List.getElem?_map
def X7:=@List.size_toArray
def X8:=@List.getElem?_eq_some_iff
def Xa:=@List.map_cons
def Xb:=@List.mem_append_right
def Xc:=@Int.toNat_natCast
def Xd:=@Nat.ne_of_lt
def Xe:=@List.map_map
def Xf:=@List.length_append
def Xg:=@Bool.and_eq_true
def Xh:=@List.mem_filter
def Xi:=@Nat.lt_of_lt_of_le
def Xj:=@Nat.le_trans
def Xk:=@PySem.F.plain_min_loop
def Xl:=@List.lookup_cons
def Xm:=@List.getElem_mem
def Xn:=@List.nodup_cons
def Xo:=@PySem.Around.under_plainId
def Xp:=@Bool.false_eq_true
def Xq:=@List.countP_cons
def Xr:=@List.mem_of_getElem?
def Xu:=@List.append_nil
def Xv:=@List.mem_append_left
def Xw:=@List.mem_iff_getElem
def Xx:=@PySem.Heap.SameBut.update
def Xy:=@List.mem_append
def Xz:=@Nat.lt_irrefl
def ph:=@List.length_replicate
def pq:=@List.replicate_succ
def P0:=@List.length_take
def Pa:=@List.length_range
def Pb:=@Option.map_eq_some_iff
def Pg:=@Option.isSome_iff_exists
def Ph:=@List.length_set
def Pj:=@List.getElem?_eq_none
def Pk:=@Nat.le_succ
def Pn:=@PySem.F.plain_max_loop
def Pq:=@List.map_append
def Pr:=@Nat.lt_trans
def Pu:=@List.map_congr_left
def Px:=@PySem.mem_of_lookup
def Py:=@Nat.ne_of_gt
def Pz:=@List.foldl_cons
def t6:=@Int.le_refl
def t7:=@List.set_cons_succ
def t8:=@Nat.zero_add
def tu:=@List.append_assoc
def T3:=@List.getElem?_range
def T4:=@List.getElem?_append_left
def T5:=@List.length_nil
def T6:=@PySem.F.slot_dict_valueiterator_next
def T7:=@List.all_eq_true
def T8:=@List.set_cons_zero
def T9:=@Nat.lt_succ_self
def Tc:=@List.flatten_cons
def Td:=@List.range_succ_eq_map
def Te:=@List.take_of_length_le
def Tf:=@PySem.F.entry_min_loop
def Tg:=@List.mem_filterMap
def Th:=@List.length_filter_le
def Ti:=@Nat.zero_le
def Tj:=@Array.toList_append
def Tn:=@List.length_drop
def Tp:=@PySem.Heap.size_push
def Tq:=@List.countP_eq_length_filter
def Tt:=@List.mem_replicate
def Tv:=@Nat.pow_succ
def Tw:=@Int.emod_nonneg
def su:=@PySem.W.mg_of
def sy:=@List.ext_getElem?
def S5:=@Nat.lt_succ_of_lt
def S6:=@Nat.lt_of_succ_le
def S7:=@List.take_add_one
def k8l:=@And.intro
abbrev k8m:=lP
abbrev k8n:=a8→af→Prop
abbrev k8o:=List (aa×dz)
abbrev k8p:=aj→Option a8
abbrev k8q:=("__debug__":aj)
abbrev k8r:=("__classdict__":aj)
local macro_rules | `(tactic| omega)=>`(tactic| first | with_reducible assumption | with_reducible exact Nat.le_of_lt (by assumption) | with_reducible exact Nat.le_refl _ | lia)
local macro_rules | `(nofun)=>`(by omega)
section
namespace L2
open PySem PySem.Spec PyProof.Rows
noncomputable abbrev Key:=Sum Int aj
noncomputable def jao:Key->a8->Bool
 |.inl k,v=>ku k v
 |.inr x,v=>Value.isStrOf x v
noncomputable def jlr(w:az):Key->Int
 |.inl k=>hashInt k
 |.inr x=>hashStr w x
theorem vd:∀{k:Key}{v:a8},jao k v=a6->(∃i t,k=fJ i/\v=bo i t)\/(∃x t,k=fH x/\v=bO x t)
 |.inl i,v,h=>by obtain⟨t,e⟩:=Value.isInt_shape (k:=i) (v:=v) h;exact .inl ⟨i,t,rfl,e⟩
 |.inr x,v,h=>by obtain⟨t,e⟩:=Value.isStrOf_shape (x:=x) (v:=v) h;exact .inr ⟨x,t,rfl,e⟩
theorem jgl(a b:Int):decide ((fJ a:Key)=fJ b)=(a==b):=by
 by_cases e:a=b
 .subst e;simp
 .have h:¬(fJ a:Key)=fJ b:=λq=>e (Sum.inl.inj q);rw[decide_eq_false h];exact(beq_eq_false_iff_ne.mpr e).symm
theorem jgi(a b:aj):decide ((fH a:Key)=fH b)=decide (a=b):=by
 by_cases e:a=b
 .subst e;simp
 .have h:¬(fH a:Key)=fH b:=λq=>e (Sum.inr.inj q);rw[decide_eq_false h,decide_eq_false e]
theorem jgk(a:Int)(b:aj):decide ((fJ a:Key)=fH b)=a4:=decide_eq_false (λq=>nomatch q)
theorem jgj(a:aj)(b:Int):decide ((fH a:Key)=fJ b)=a4:=decide_eq_false (λq=>nomatch q)
noncomputable def j2q(prog:av)(w:az):PySem.KeyKind prog w Key where
 is:=jao
 hash:=jlr w
 inj:=λv a b ha hb=>by
  rcases vd ha with ⟨i,t,rfl,rfl⟩|⟨x,t,rfl,rfl⟩
  .rcases vd hb with ⟨j,u,rfl,e⟩|⟨y,u,rfl,e⟩
   .injection e with e1 _;rw[e1]
   .exact nomatch e
  .rcases vd hb with ⟨j,u,rfl,e⟩|⟨y,u,rfl,e⟩
   .exact nomatch e
   .injection e with e1 _;rw[e1]
 byValue:=λk v h=>by rcases vd h with ⟨i,t,rfl,rfl⟩|⟨x,t,rfl,rfl⟩<;>rfl
 pyHash:=λhv h=>by
  rcases vd hv with ⟨i,t,rfl,rfl⟩|⟨x,t,rfl,rfl⟩
  .exact wpAny_pyHash_int h
  .exact wpAny_pyHash_str h
 eqBool:=λhu hv h=>by
  rcases vd hu with ⟨i,t,rfl,rfl⟩|⟨x,t,rfl,rfl⟩
  .rcases vd hv with ⟨j,u,rfl,rfl⟩|⟨y,u,rfl,rfl⟩
   .rw[jgl]at h;exact wpAny_eqBool_int h
   .rw[jgk]at h;exact SeqAt.EqAt.int_str i t y u _ _ _ _ h
  .rcases vd hv with ⟨j,u,rfl,rfl⟩|⟨y,u,rfl,rfl⟩
   .rw[jgj]at h;exact SeqAt.EqAt.str_int x t j u _ _ _ _ h
   .rw[jgi]at h;exact wpAny_eqBool_str h
 «strs»:=λk x t v h=>by
  rcases vd h with ⟨i,u,rfl,e⟩|⟨y,u,rfl,e⟩
  .exact nomatch e
  .injection e with e1 _;subst e1;cases v<;>rfl
set_option genInjectivity true in
inductive V where
 |non|bl (b:Bool)|int (i:Int)|str (x:aj)|byt (b:Array UInt8)|flt (b:UInt64)|ref (a:aa)|ty (n:String)
 deriving DecidableEq
def RelV:V->a8->Prop
 |.non,u=>u=aV
 |.bl b,u=>u=bJ b
 |.int i,u=>∃t,u=bo i t
 |.str x,u=>∃t,u=bO x t
 |.byt b,u=>∃t,u=Value.bytes b t
 |.flt b,u=>∃t,u=Value.float b t
 |.ref a,u=>u=aB a
 |.ty n,u=>u=bV n
abbrev Vals:List V->List a8->Prop:=Paired RelV
theorem Vals.length{xs:List V}{us:List a8}(r:Vals xs us):xs.length=us.length:=Paired.length r
theorem Vals.get:∀{xs:List V}{us:List a8}{i:Nat}{x:V},Vals xs us->xs[i]?=a3 x->∃u,us[i]?=a3 u/\RelV x u
 |_,_,_,_,.nil,e=>by simp at e
 |_,_,0,_,.cons r _,e=>by simp at e;subst e;exact⟨_,rfl,r⟩
 |_,_,i+1,x,.cons _ t,e=>by obtain⟨u,h1,h2⟩:=Vals.get (i:=i) (x:=x) t (by simpa using e);exact⟨u,by simpa using h1,h2⟩
theorem Vals.set{x:V}{u:a8}(r:RelV x u):∀{xs:List V}{us:List a8}(i:Nat),Vals xs us->Vals (xs.set i x) (us.set i u)
 |_,_,_,.nil=>.nil
 |_,_,0,.cons _ t=>.cons r t
 |_,_,i+1,.cons q t=>.cons q (Vals.set r i t)
theorem Vals.append:∀{xs ys:List V}{us ws:List a8},Vals xs us->Vals ys ws->Vals (xs++ys) (us++ws)
 |_,_,_,_,.nil,s=>s
 |_,_,_,_,.cons r t,s=>.cons r (Vals.append t s)
theorem Vals.take:∀{xs:List V}{us:List a8}(n:Nat),Vals xs us->Vals (xs.take n) (us.take n)
 |_,_,0,_=>.nil
 |_,_,_+1,.nil=>.nil
 |_,_,n+1,.cons r t=>.cons r (Vals.take n t)
theorem Vals.drop:∀{xs:List V}{us:List a8}(n:Nat),Vals xs us->Vals (xs.drop n) (us.drop n)
 |_,_,0,r=>r
 |_,_,_+1,.nil=>.nil
 |_,_,n+1,.cons _ t=>Vals.drop n t
def ji6:Option V->Option a8->Prop
 |some v,a3 u=>RelV v u
 |none,a7=>True
 |_,_=>False
def KV{κ:Type}:List (κ×V)->List (κ×a8)->Prop:=Paired λ(p:κ×V) (q:κ×a8)=>p.1=q.1/\RelV p.2 q.2
noncomputable def kV:Key->V
 |.inl i=>.int i
 |.inr x=>.str x
inductive HO where
 |lst (xs:List V)
 |tup (xs:List V)
 |dK (kvs:List (Key×V))|dT (kvs:List (List Key×V))
 |dI (xs:List (List Int×aa×a8)) (ep:Nat)
 |set (S:Int->Bool) (n:Nat)
 |ins (C dx:aa) (fs:List (aj×V))
 |own (x:aa)
 |xd (fs:List (aj×V))
 |met (f x:aa)
 |rng (lo hi:Int)
 |frz (o:dz) (u:HO)
 |tbl (ps:Array a8)
 |cod (q:aj)
 |ext (φ:aD->Prop)
noncomputable abbrev Hp:=aa->Option HO
noncomputable def upd(H:Hp)(a:aa)(o:HO):Hp:=λb=>if b=a then a3 o else H b
theorem jc{H:Hp}{a:aa}{o:HO}:upd H a o a=a3 o:=by unfold upd;rw[if_pos rfl]
theorem jk{H:Hp}{a b:aa}{o:HO}(h:b≠a):upd H a o b=H b:=by unfold upd;rw[if_neg h]
theorem v8{H:Hp}{a b:aa}{o:HO}(h:H a=a3 o)(h':H b=a7):a≠b:=by intro e;subst e;rw[h]at h';cases h'
def Zx(h:aD)(a:aa):Prop:=∀o,h.get? a=a3 o->o.dict=a7
theorem Zx.new(h:aD)(xs:Array a8):Zx (h.push { cls:=.type "tuple",data:=.seq xs }) h.objs.size:=λo e=>by have z:(h.push { cls:=.type "tuple",data:=.seq xs }).get? h.objs.size=a3 { cls:=.type "tuple",data:=.seq xs }:=xu _ rfl;rw[z]at e;cases e;rfl
theorem Zx.of{h:aD}{a:aa}{d:Data}{c:a8}(e:h.get? a=a3 { cls:=c,data:=d }):Zx h a:=λo e'=>by rw[e]at e';cases e';rfl
def Mv(o:dz)(q:aj):Prop:=∃(vs:Array a8)(t:gO),o.data=.fields vs/\vs[1]?=a3 (.str q t)
section
variable(P:av)(w:az)
def jh(H:Hp)(h:aD)(a:aa):HO->Prop
 |.lst xs=>xs.length<=ar/\∃(its:List a8)(n:Nat),Vals xs its/\h.get? a=a3 { cls:=.type "list",data:=.seq its.toArray n }
 |.tup xs=>xs.length<=ar/\∃its:List a8,Vals xs its/\i7 h a its.toArray/\Zx h a
 |.dK kvs=>kvs.length<=ar/\(a==eS)=a4/\∃vs,KV kvs vs/\h.DictOf (j2q P w) a vs
 |.dT kvs=>kvs.length<=ar/\(a==eS)=a4/\∃xs:List (List Key×aa×a8),
   Paired (λ(p:List Key×V) (q:List Key×aa×a8)=>p.1=q.1/\H q.2.1=a3 (.tup (p.1.map kV))/\RelV p.2 q.2.2) kvs xs /\
   ∃o es ep,h.get? a=a3 o/\o.ExactDict/\o.data=.dict es ep/\es.toList=xs.map (ke (fD (j2q P w)))/\(xs.map (·.1)).Nodup
 |.dI xs ep=>xs.length<=ar/\(a==eS)=a4/\(xs.map λx=>x.1).Nodup/\∃(o:dz)(es:Array gx),h.get? a=a3 o/\o.ExactDict/\o.data=.dict es ep/\es.toList=xs.map (ke (fD (fE P w)))
 |.set S n=>h.SetOf (fE P w) a S n
 |.ins C dx fs=>H dx=a3 (.own a)/\fs.length<=1000/\dx≠a/\h.get? a=a3 (W.instObj C dx) /\
   ∃mA,h.Ns1 dx mA/\(∀f,ji6 (fs.lookup f) (mA f))/\PySem.Within mA (fs.map (·.1))
 |.own _=>∃o,h.get? a=a3 o
 |.xd fs=>∃mA,h.Ns1 a mA/\∀f,ji6 (fs.lookup f) (mA f)
 |.rng lo hi=>∃t u v,h.get? a=a3 { cls:=.type "range",data:=.fields #[.int lo t,.int hi u,.int 1 v] }
 |.frz o u=>h.get? a=a3 o/\jh H h a u
 |.tbl ps=>h.get? a=a3 { cls:=.none,data:=.fields ps }
 |.cod q=>∃ps:Array a8,h.get? a=a3 (W.tabObj ps)/\TriplesOk ps.toList/\∀pos cv,fF pos ps.toList=a3 cv->∃(c:aa)(oc:dz),cv=.ref c/\H c=a3 (.frz oc (.own 0))/\Mv oc q
 |.met f x=>h.get? a=a3 (W.methodObj (.ref f) (.ref x))
 |.ext φ=>φ h/\(∃o,h.get? a=a3 o)/\∀h1 h2:aD,φ h1->(∀o,h1.get? a=a3 o->h2.get? a=a3 o)->φ h2
def HOk(H:Hp)(h:aD):Prop:=∀a o,H a=a3 o->jh P w H h a o
end
section
variable{P:av}{w:az}{H H':Hp}{h h':aD}{a:aa}{o:HO}
theorem jh.lt(x:jh P w H h a o):a<h.objs.size:=by
 cases o with
 |lst xs=>obtain⟨_,_,_,_,e⟩:=x;exact X4 e
 |tup xs=>obtain⟨_,_,_,p,_⟩:=x;exact p.lt
 |dK kvs=>obtain⟨_,_,_,_,o,_,_,e,_⟩:=x;exact X4 e
 |dT kvs=>obtain⟨_,_,_,_,o,_,_,e,_⟩:=x;exact X4 e
 |dI xs ep=>obtain⟨_,_,_,o,_,e,_⟩:=x;exact X4 e
 |set S n=>obtain⟨o,_,_,_,e,_⟩:=x;exact X4 e
 |ins C dx fs=>obtain⟨_,_,_,e,_⟩:=x;exact X4 e
 |own y=>obtain⟨_,e⟩:=x;exact X4 e
 |xd fs=>obtain⟨_,⟨_,_,_,e,_⟩,_⟩:=x;exact X4 e
 |rng lo hi=>obtain⟨_,_,_,e⟩:=x;exact X4 e
 |frz ob u=>obtain⟨e,_⟩:=x;exact X4 e
 |tbl ps=>exact X4 (show h.get? a=a3 _ from x)
 |cod q=>obtain⟨_,e,_⟩:=x;exact X4 e
 |met f y=>exact X4 (show h.get? a=a3 _ from x)
 |ext φ=>obtain⟨_,⟨_,e⟩,_⟩:=x;exact X4 e
theorem Paired.mapP{α β:Type}{F G:α->β->Prop}:∀{l₁:List α}{l₂:List β},Paired F l₁ l₂->(∀a b,F a b->G a b)->Paired G l₁ l₂
 |_,_,.nil,_=>.nil
 |_,_,.cons r t,f=>.cons (f _ _ r) (Paired.mapP t f)
theorem jh.stay(x:jh P w H h a o)(k:∀b u,(b=a\/H b=a3 (.own a))->h.get? b=a3 u->h'.get? b=a3 u)
  (ho:∀b,H b=a3 (.own a)->H' b=a3 (.own a)) (ht:∀b xs,H b=a3 (.tup xs)->H' b=a3 (.tup xs)) (hz:∀b o,(∃vs,o.data=.fields vs)->H b=a3 (.frz o (.own 0))->H' b=a3 (.frz o (.own 0))):jh P w H' h' a o:=by
 induction o with
 |lst xs=>obtain⟨z,its,n,r,e⟩:=x;exact⟨z,its,n,r,k _ _ (.inl rfl) e⟩
 |tup xs =>obtain⟨z,its,r,⟨ob,e,c⟩,nd⟩:=x;refine⟨z,its,r,⟨ob,k _ _ (.inl rfl) e,c⟩,λo q=>?_⟩;rw[k _ _ (.inl rfl) e]at q;cases q;exact nd _ e
 |dK kvs=>obtain⟨z,y,vs,r,ob,es,ep,e,c⟩:=x;exact⟨z,y,vs,r,ob,es,ep,k _ _ (.inl rfl) e,c⟩
 |dT kvs =>obtain⟨z,y,xs,r,ob,es,ep,e,c⟩:=x;exact⟨z,y,xs,Paired.mapP r λp q z=>⟨z.1,ht _ _ z.2.1,z.2.2⟩,ob,es,ep,k _ _ (.inl rfl) e,c⟩
 |dI xs ep=>obtain⟨z,y,nd,ob,es,e,c⟩:=x;exact⟨z,y,nd,ob,es,k _ _ (.inl rfl) e,c⟩
 |set S n=>obtain⟨ob,es,ep,t,e,c⟩:=x;exact⟨ob,es,ep,t,k _ _ (.inl rfl) e,c⟩
 |ins C dx fs =>obtain⟨d,z,ne,e,mA,⟨od,es,ep,e2,c⟩,r⟩:=x;exact⟨ho _ d,z,ne,k _ _ (.inl rfl) e,mA,⟨od,es,ep,k _ _ (.inr d) e2,c⟩,r⟩
 |own y=>obtain⟨ob,e⟩:=x;exact⟨ob,k _ _ (.inl rfl) e⟩
 |xd fs=>obtain⟨mA,⟨od,es,ep,e,c⟩,r⟩:=x;exact⟨mA,⟨od,es,ep,k _ _ (.inl rfl) e,c⟩,r⟩
 |rng lo hi=>obtain⟨t,u,v,e⟩:=x;exact⟨t,u,v,k _ _ (.inl rfl) e⟩
 |frz ob u ih=>obtain⟨e,q⟩:=x;exact⟨k _ _ (.inl rfl) e,ih q⟩
 |tbl ps =>have e:h.get? a=a3 { cls:=.none,data:=.fields ps }:=x;show h'.get? a=a3 { cls:=.none,data:=.fields ps };exact k a _ (.inl rfl) e
 |cod q=>obtain⟨ps,e,t,c⟩:=x;exact⟨ps,k _ _ (.inl rfl) e,t,λpos cv z=>let ⟨c,oc,e1,e2,e3⟩:=c pos cv z;⟨c,oc,e1,hz _ _ (let ⟨vs,_,z,_⟩:=e3;⟨vs,z⟩) e2,e3⟩⟩
 |met f y =>have e:h.get? a=a3 (W.methodObj (.ref f) (.ref y)):=x;show h'.get? a=a3 (W.methodObj (.ref f) (.ref y));exact k a _ (.inl rfl) e
 |ext φ=>obtain⟨p,⟨o,e⟩,st⟩:=x;exact⟨st _ _ p λo q=>k _ _ (.inl rfl) q,⟨o,k _ _ (.inl rfl) e⟩,st⟩
theorem HOk.lt(x:HOk P w H h)(e:H a=a3 o):a<h.objs.size:=(x a o e).lt
theorem HOk.fresh(x:HOk P w H h)(e:h.objs.size<=a):H a=a7:=by
 cases q:H a with
 |none=>rfl
 |some u=>exact absurd (Xi (x.lt q) e) (Xz _)
theorem HOk.kept(x:HOk P w H h)(k:∀b u,h.get? b=a3 u->h'.get? b=a3 u):HOk P w H h':=λa o e =>(x a o e).stay (λb u _ q=>k b u q) (λ_ q=>q) (λ_ _ q=>q) λ_ _ _ q=>q
theorem HOk.laid(x:HOk P w H h)(k:∀b u,h.get? b=a3 u->h'.get? b=a3 u)(hp:h.objs.size<=a)(new:jh P w (upd H a o) h' a o):HOk P w (upd H a o) h':=λb u e=>by
 have hn:=x.fresh hp;by_cases hb:b=a
 .subst hb;rw[jc]at e;cases e;exact new
 .rw[jk hb]at e;exact(x b u e).stay (λc v _ q=>k c v q) (λc q=>by rw[jk (v8 q hn)];exact q) (λc xs q=>by rw[jk (v8 q hn)];exact q) λc _ _ q=>by rw[jk (v8 q hn)];exact q
end
def Rd(H:Hp)(a:aa)(u:HO):Prop:=H a=a3 u\/∃o,H a=a3 (.frz o u)
theorem Rd.ok{P:av}{w:az}{H:Hp}{h:aD}{a:aa}{u:HO}(r:Rd H a u)(x:HOk P w H h):jh P w H h a u:=by
 rcases r with r|⟨o,r⟩
 .exact x a u r
 .obtain⟨_,q⟩:=x a _ r;exact q
def Mut:Option HO->Prop
 |some (.lst _)=>True
 |some (.dK _)=>True
 |some (.dT _)=>True
 |some (.dI _ _)=>True
 |some (.set _ _)=>True
 |some (.ins _ _ _)=>True
 |some (.ext _)=>True
 |some (.cod _)=>True
 |_=>False
section
variable{P:av}{w:az}{H:Hp}{h h':aD}{x e:aa}{o':HO}
theorem HOk.write(ok:HOk P w H h)(mu:Mut (H x))(he:e=x\/H e=a3 (.own x))(k:∀b u,b≠e->h.get? b=a3 u->h'.get? b=a3 u)(heo:∃u,h'.get? e=a3 u)
  (new:jh P w (upd H x o') h' x o'):HOk P w (upd H x o') h':=λb u q=>by
 have nown:∀c y,H c=a3 (.own y)->c≠x:=λc y r z=>by subst z;rw[r]at mu;exact mu
 have ntup:∀c xs,H c=a3 (.tup xs)->c≠x:=λc xs r z=>by subst z;rw[r]at mu;exact mu
 have nfrz:∀c o u,H c=a3 (.frz o u)->c≠x:=λc o u r z=>by subst z;rw[r]at mu;exact mu
 by_cases hb:b=x
 .subst hb;rw[jc]at q;cases q;exact new
 .rw[jk hb]at q;by_cases hbe:b=e
  .have q':H b=a3 (.own x):=by
    rcases he with z|z
    .exact absurd (hbe.trans z) hb
    .rw[hbe];exact z
   rw[q]at q';cases q';obtain⟨v,hv⟩:=heo;exact⟨v,by rw[hbe];exact hv⟩
  .refine(ok b u q).stay (λc v hc r=>k c v ?_ r) (λc r=>by rw[jk (nown c b r)];exact r) (λc xs r=>by rw[jk (ntup c xs r)];exact r) λc o _ r=>by rw[jk (nfrz c o _ r)];exact r
   rcases hc with rfl|hc
   .exact hbe
   .rintro rfl;rcases he with z|z
    .exact nown c b hc z
    .rw[hc]at z;cases z;exact hb rfl
end
structure Un(fs ex:List aa)(H H':Hp)(h h':aD):Prop where
 keep:∀b o,h.get? b=a3 o->H b=a7->b∉fs->b∉ex->h'.get? b=a3 o
 slot:∀b o,h.get? b=a3 o->H b=a7->b∈fs->b∉ex->∃sl,h'.get? b=a3 { o with slots:=sl }
 free:∀b o,h.get? b=a3 o->H b=a7->b∉ex->H' b=a7
 there:∀b o,h.get? b=a3 o->b∉ex->∃o',h'.get? b=a3 o'
 tups:∀b xs,H b=a3 (.tup xs)->H' b=a3 (.tup xs)
 frzs:∀b o u,H b=a3 (.frz o u)->H' b=a3 (.frz o u)
 tbls:∀b ps,H b=a3 (.tbl ps)->∃more,H' b=a3 (.tbl (ps++more))
section
variable{fs fs' ex ex':List aa}{H H1 H2:Hp}{h h1 h2 h':aD}{a x e:aa}{o:HO}
theorem Un.any(u:Un fs ex H H1 h h1){b:aa}{ob:dz}(q:h.get? b=a3 ob)(n:H b=a7)(hx:b∉ex):∃sl,h1.get? b=a3 { ob with slots:=sl }:=by
 by_cases hb:b∈fs
 .exact u.slot b ob q n hb hx
 .exact⟨ob.slots,u.keep b ob q n hb hx⟩
theorem Un.kept(k:∀b u,h.get? b=a3 u->h'.get? b=a3 u):Un fs ex H H h h' :=
 ⟨λb ob q _ _ _=>k b ob q,λb ob q _ _ _=>⟨ob.slots,k b ob q⟩,λ_ _ _ n _=>n,λb ob q _=>⟨ob,k b ob q⟩,λ_ _ q=>q,λ_ _ _ q=>q,λ_ ps q=>⟨#[],by rw[q];simp⟩⟩
theorem Un.refl:Un fs ex H H h h:=Un.kept λ_ _ q=>q
theorem Un.laid(k:∀b u,h.get? b=a3 u->h'.get? b=a3 u)(hp:h.objs.size<=a)(hn:H a=a7):Un fs ex H (upd H a o) h h' where
 keep:=λb u q _ _ _=>k b u q
 slot:=λb u q _ _ _=>⟨u.slots,k b u q⟩
 free:=λb u q n _=>by rw[jk (Xd (Xi (X4 q) hp))];exact n
 there:=λb u q _=>⟨u,k b u q⟩
 tups:=λb xs q=>by rw[jk (v8 q hn)];exact q
 frzs:=λb u xs q=>by rw[jk (v8 q hn)];exact q
 tbls:=λb ps q=>⟨#[],by rw[jk (v8 q hn),q];simp⟩
theorem Un.write(mu:Mut (H x))(he:e=x\/H e=a3 (.own x))(k:∀b u,b≠e->h.get? b=a3 u->h'.get? b=a3 u)(heo:∃u,h'.get? e=a3 u):Un fs ex H (upd H x o) h h':=by
 have hx:∀b,H b=a7->b≠x:=λb n z=>by subst z;rw[n]at mu;exact mu
 have hb:∀b,H b=a7->b≠e:=λb n z=>by
  subst z;rcases he with r|r
  .exact hx b n r
  .rw[n]at r;cases r
 have hm:∀b u,H b=a3 u->¬Mut (a3 u)->b≠x:=λb u q nm z=>by subst z;rw[q]at mu;exact nm mu
 refine⟨λb u q n _ _=>k b u (hb b n) q,λb u q n _ _=>⟨u.slots,k b u (hb b n) q⟩,λb u q n _=>by rw[jk (hx b n)];exact n,λb u q _=>?_,
  λb xs q=>by rw[jk (hm b _ q λz=>z)];exact q,λb u xs q=>by rw[jk (hm b _ q λz=>z)];exact q,λb ps q=>⟨#[],by rw[jk (hm b _ q λz=>z),q];simp⟩⟩
 by_cases hbe:b=e
 .subst hbe;exact heo
 .exact⟨u,k b u hbe q⟩
end
noncomputable def trk(h:aD)(H:Hp):List aa:=(ax h.objs.size).filter λa=>(H a).isSome
noncomputable def W7(h:aD)(H:Hp):aD:=W.hideAll h (trk h H)
theorem j6h(h:aD)(H:Hp):(W7 h H).objs.size=h.objs.size:=W.hideAll_size _ _
theorem j92{h:aD}{H:Hp}{b:aa}{o:dz}(e:h.get? b=a3 o)(n:H b=a7):(W7 h H).get? b=a3 o :=
 W.hideAll_get _ e λhm=>by have q:(H b).isSome=a6:=(Xh.mp hm).2;rw[n]at q;simp at q
theorem jch{h:aD}{H:Hp}{b:aa}{o:dz}(e:(W7 h H).get? b=a3 o):h.get? b=a3 o/\H b=a7:=by
 have e':h.get? b=a3 o:=W.of_hideAll (trk h H) e;refine⟨e',?_⟩;cases q:H b with
 |none=>rfl
 |some x =>have hm:b∈trk h H:=Xh.mpr ⟨X5.mpr (X4 e'),by simp[q]⟩;have z:(W7 h H).get? b=a7:=W.hideAll_none (trk h H) hm;rw[z]at e;cases e
noncomputable def je8(g h:aD)(L:aa):List (aa×dz):=(ax h.objs.size).filterMap λa=>if a=L\/(g.get? a).isSome=a6 then a7 else(h.get? a).map λo=>(a,o)
noncomputable def rest(g h:aD)(L d:aa):List (aa×dz):=(je8 g h L).filter λp=>decide (p.1≠d)
structure Mod(K:k8m)(mg:k8p)(base:aD):Prop where
 kin:K.In base
 glob:base.Ns au mg
 blt:∃mb,base.Ns dM mb/\∀x:aj,x ≠ "__name__"->mb x=bh x
 nolimit:base.NoLimit
 bm:∃bm ob,mg "__builtins__" = a3 (.ref bm)/\bm≠dM/\base.get? bm=a3 ob/\ob.cls=.type "module"/\ob.dict=a3 dM/\ob.data=.plain
structure Cx where
 prog:av
 w:az
 K:k8m
 mg:aj->Option a8
 base:aD
 A:aC
 N:List aj
 s₀:af
 H₀:Hp
 env:dS
 outer:List dS
 stack:List dS
 ex:List aa
 fn:aj->Bool
 calm:Bool
 pn:List (aa×dz)
 xe:a8->af->Prop
noncomputable def frs(l:List dS):List aa:=l.filterMap (·.frame)
noncomputable abbrev Cx.fs(X:Cx):List aa:=frs X.outer
def Vis(sc:br)(x:aj):Prop:=sc.names.lookup x=a3 .local\/sc.names.lookup x=a3 .cell\/sc.names.lookup x=a3 .free
def Loc(sc:br)(x:aj):Prop:=sc.names.lookup x=a3 .local\/sc.names.lookup x=a3 .cell
def Look(env:dS)(h:aD)(m:k8p)(x:aj)(u:a8):Prop :=
 (env.kindOf x=a3 .local/\m x=a3 u)\/((env.kindOf x=a3 .cell\/env.kindOf x=a3 .free)/\∃c,env.cells.lookup x=a3 c/\h.IsCell c (a3 u))
structure Cx.Ok(X:Cx):Prop where
 mod:Mod X.K X.mg X.base
 kind:X.env.scope.kind=.function
 glob:X.env.globals=au
 blt:X.env.builtins=dM
 above:X.s₀.heap.objs.size<=X.env.locals
 inj:∀x y c,X.env.cells.lookup x=a3 c->X.env.cells.lookup y=a3 c->x=y
 has:∀x,(X.env.kindOf x=a3 .cell\/X.env.kindOf x=a3 .free)->∃c,X.env.cells.lookup x=a3 c
 cab:∀x c,X.fn x=a6->X.env.cells.lookup x=a3 c->X.s₀.heap.objs.size<=c
 hd:X.calm=a6->X.A.handled=a7
 frames:X.A.frames=a3 X.stack
 stk:X.stack=X.outer\/(X.stack=X.env::X.outer/\X.env.frame=a3 X.env.locals)
 exf:∀b∈X.ex,b≠X.env.locals/\∀x c,X.env.cells.lookup x=a3 c->c≠b
 bs:∀b o,X.base.get? b=a3 o->X.s₀.heap.get? b=a3 o/\X.H₀ b=a7
 bsz:X.base.objs.size<=X.s₀.heap.objs.size
 noex:∀b o,X.base.get? b=a3 o->b∉X.ex
 exfs:∀b∈X.ex,b∉X.fs
 funs:X.s₀.heap.FunFrames X.base X.outer
 frf:∀b∈X.fs,X.H₀ b=a7
structure Inv(X:Cx)(pins:k8o)(σ:List (Option V))(H:Hp)(s:af):Prop where
 ok:X.Ok
 os:s.os=X.s₀.os
 bare:dW s.gens
 base:Un X.fs X.ex X.H₀ H X.s₀.heap s.heap
 loc:∃m,s.heap.Ns X.env.locals m/\∀(i:Nat)(x:aj)(v:V),X.N[i]?=a3 x->σ[i]?=a3 (a3 v)->Vis X.env.scope x->∃u,RelV v u/\Look X.env s.heap m x u
 cell:∀x c,X.env.cells.lookup x=a3 c->∃v,s.heap.IsCell c v
 free:H X.env.locals=a7
 freeC:∀x c,X.env.cells.lookup x=a3 c->H c=a7
 pin:∀p∈X.pn++pins,s.heap.get? p.1=a3 p.2/\H p.1=a7/\p.1≠X.env.locals/\p.1∉X.fs/\∀v,p.2.data≠.cell v
 hok:HOk X.prog X.w H s.heap
 len:σ.length=X.N.length
section
variable{X:Cx}{pins:k8o}{σ:List (Option V)}{H H':Hp}{s:af}{h':aD}
theorem Cx.Ok.nofr(ok:X.Ok){b:aa}{o:dz}(e:X.base.get? b=a3 o):b∉X.fs:=λhb=>by have:=(ok.funs.mem hb).1;rw[e]at this;cases this
theorem Inv.bs(I:Inv X pins σ H s):∀b o,X.base.get? b=a3 o->s.heap.get? b=a3 o/\H b=a7:=λb o e =>⟨I.base.keep b o (I.ok.bs b o e).1 (I.ok.bs b o e).2 (I.ok.nofr e) (I.ok.noex b o e),I.base.free b o (I.ok.bs b o e).1 (I.ok.bs b o e).2 (I.ok.noex b o e)⟩
theorem Inv.bk(I:Inv X pins σ H s):∀b o,X.base.get? b=a3 o->s.heap.get? b=a3 o:=λb o e=>(I.bs b o e).1
theorem Inv.mod(I:Inv X pins σ H s):Mod X.K X.mg X.base:=I.ok.mod
theorem Inv.kIn(I:Inv X pins σ H s):X.K.In s.heap:=I.ok.mod.kin.keeps I.bk
theorem Inv.lt(I:Inv X pins σ H s):X.env.locals<s.heap.objs.size:=let ⟨_,hn,_⟩:=I.loc;hn.lt
theorem Inv.sz(I:Inv X pins σ H s):X.s₀.heap.objs.size<=s.heap.objs.size:=Xj I.ok.above (d9 I.lt)
theorem Inv.nofs(I:Inv X pins σ H s){a:aa}(h:s.heap.objs.size<=a):a∉X.fs:=λhb=>by obtain⟨_,o,ho,_⟩:=I.ok.funs.mem hb;exact absurd (Xi (X4 ho) (Xj I.sz h)) (Xz _)
theorem Inv.cne(I:Inv X pins σ H s):∀x c,X.env.cells.lookup x=a3 c->c≠X.env.locals:=λx c e z=>by obtain⟨v,o,ho,hd⟩:=I.cell x c e;obtain⟨m,⟨o',es,ep,ho',hd',_⟩,_⟩:=I.loc;rw[z,ho']at ho;cases ho;rw[hd']at hd;cases hd
theorem Inv.funs(I:Inv X pins σ H s):s.heap.FunFrames X.base X.outer:=by
 have all:∀(l:List dS),(∀b∈frs l,b∈X.fs)->X.s₀.heap.FunFrames X.base l->s.heap.FunFrames X.base l:=by
  intro l;induction l with
  |nil=>intro _ _;trivial
  |cons env r ih =>intro hs hl;obtain⟨hk,⟨L,o,hf,hn,ho,hd⟩,hr⟩:=hl;have hL:L∈X.fs:=hs L (by unfold frs;rw[cj,hf];exact xq);obtain⟨sl,e⟩:=I.base.slot L o ho (I.ok.frf L hL) hL λz=>I.ok.exfs L z hL;exact⟨hk,⟨L,_,hf,hn,e,hd⟩,ih (λb hb=>hs b (by unfold frs;rw[cj,hf];exact xf _ hb)) hr⟩
 exact all X.outer (λ_ hb=>hb) I.ok.funs
theorem Inv.stack(I:Inv X pins σ H s):s.heap.FunFrames X.base X.stack:=by
 rcases I.ok.stk with e|⟨e,hf⟩
 .rw[e];exact I.funs
 .rw[e];obtain⟨m,hn,_⟩:=I.loc;refine .cons (by rw[I.ok.kind];decide) hf hn ?_ I.funs;exact Heap.get?_none_of_le (Xj I.ok.bsz I.ok.above)
theorem Inv.stkSub(I:Inv X pins σ H s):∀b∈frs X.stack,b∈X.env.locals::X.fs:=λb hb=>by
 rcases I.ok.stk with e|⟨e,hf⟩
 .rw[e]at hb;exact xf _ hb
 .rw[e]at hb;unfold frs at hb;rw[cj,hf]at hb;exact hb
theorem Inv.stkFree(I:Inv X pins σ H s):∀b∈frs X.stack,H b=a7:=λb hb=>by
 rcases xn.mp (I.stkSub b hb)with e|hb
 .rw[e];exact I.free
 .obtain⟨_,o,ho,_⟩:=I.ok.funs.mem hb;exact I.base.free b o ho (I.ok.frf b hb) λz=>I.ok.exfs b z hb
theorem Inv.step{g':Array fA}{t':Nat}{d':Drawn}{ch:List aa}(I:Inv X pins σ H s)
  (hch:∀b∈ch,(b∈X.ex\/X.s₀.heap.objs.size<=b)/\b≠X.env.locals/\(∀x c,X.env.cells.lookup x=a3 c->c≠b)/\∀p∈X.pn++pins,p.1≠b)
  (keep:∀b o,b≠X.env.locals->b∉X.fs->b∉ch->s.heap.get? b=a3 o->H b=a7->h'.get? b=a3 o)
  (slot:∀b o,b≠X.env.locals->b∈X.fs->b∉ch->s.heap.get? b=a3 o->H b=a7->∃sl,h'.get? b=a3 { o with slots:=sl }) (free:∀b o,b∉ch->s.heap.get? b=a3 o->H b=a7->H' b=a7)
  (there:∀b o,b∉ch->s.heap.get? b=a3 o->∃o',h'.get? b=a3 o')
  (tups:∀b xs,H b=a3 (.tup xs)->H' b=a3 (.tup xs)) (frzs:∀b o u,H b=a3 (.frz o u)->H' b=a3 (.frz o u)) (tbls:∀b ps,H b=a3 (.tbl ps)->∃more,H' b=a3 (.tbl (ps++more)))
  (ns:∀m,s.heap.Ns X.env.locals m->h'.Ns X.env.locals m) (hok:HOk X.prog X.w H' h') (hg:dW g') :
  Inv X pins σ H' { s with heap:=h',gens:=g',drawn:=d',toks:=t' }:=by
 have neL:∀b o,X.s₀.heap.get? b=a3 o->b≠X.env.locals:=λb o e=>Xd (Xi (X4 e) I.ok.above);have neC:∀b o,X.s₀.heap.get? b=a3 o->b∉X.ex->b∉ch:=λb o e hx hb=>by
  rcases(hch b hb).1 with z|z
  .exact hx z
  .exact absurd (Xi (X4 e) z) (Xz _)
 have cellK:∀x c,X.env.cells.lookup x=a3 c->∀v,s.heap.IsCell c v->h'.IsCell c v:=λx c e v ⟨o,ho,hd⟩=>by
  have nch:c∉ch:=λz=>(hch c z).2.2.1 x c e rfl;by_cases hc:c∈X.fs
  .obtain⟨sl,q⟩:=slot c o (I.cne x c e) hc nch ho (I.freeC x c e);exact⟨_,q,hd⟩
  .exact⟨o,keep c o (I.cne x c e) hc nch ho (I.freeC x c e),hd⟩
 refine⟨I.ok,I.os,hg,⟨λb o e n hb hx=>?_,λb o e n hb hx=>?_,λb o e n hx=>?_,λb o e hx=>?_,λb xs e=>tups b xs (I.base.tups b xs e),λb o xs e=>frzs b o xs (I.base.frzs b o xs e),λb ps e=>?_⟩,?_,λx c e=>?_,?_,λx c e=>?_,λp hp=>?_,hok,I.len⟩
 .exact keep b o (neL b o e) hb (neC b o e hx) (I.base.keep b o e n hb hx) (I.base.free b o e n hx)
 .obtain⟨sl,e1⟩:=I.base.slot b o e n hb hx;obtain⟨sl',e2⟩:=slot b _ (neL b o e) hb (neC b o e hx) e1 (I.base.free b o e n hx);exact⟨sl',e2⟩
 .obtain⟨o',e1⟩:=I.base.there b o e hx;exact free b o' (neC b o e hx) e1 (I.base.free b o e n hx)
 .obtain⟨o',e1⟩:=I.base.there b o e hx;exact there b o' (neC b o e hx) e1
 .obtain⟨m1,e1⟩:=I.base.tbls b ps e;obtain⟨m2,e2⟩:=tbls b _ e1;exact⟨m1++m2,by rw[e2,Array.append_assoc]⟩
 .obtain⟨m,hn,hl⟩:=I.loc;refine⟨m,ns m hn,λi x v e1 e2 e3=>?_⟩;obtain⟨u,r,l⟩:=hl i x v e1 e2 e3;refine⟨u,r,?_⟩;rcases l with l|⟨k,c,e,z⟩
  .exact .inl l
  .exact .inr ⟨k,c,e,cellK x c e _ z⟩
 .obtain⟨v,z⟩:=I.cell x c e;exact⟨v,cellK x c e v z⟩
 .obtain⟨m,⟨o,_,_,ho,_⟩,_⟩:=I.loc;exact free _ o (λz=>(hch _ z).2.1 rfl) ho I.free
 .obtain⟨v,o,ho,hd⟩:=I.cell x c e;exact free c o (λz=>(hch c z).2.2.1 x c e rfl) ho (I.freeC x c e)
 .obtain⟨e,n,ne,nf,d⟩:=I.pin p hp;have nch:p.1∉ch:=λz=>(hch p.1 z).2.2.2 p hp rfl;exact⟨keep p.1 p.2 ne nf nch e n,free p.1 p.2 nch e n,ne,nf,d⟩
theorem Inv.un{t':Nat}(I:Inv X pins σ H s)(u:Un X.fs [] H H' s.heap h')(hok:HOk X.prog X.w H' h'):Inv X pins σ H' { s with heap:=h',toks:=t' }:=by
 obtain⟨m,⟨o,es,ep,ho,r⟩,_⟩:=id I.loc;obtain⟨sl,hL⟩:=u.any ho I.free (by simp);exact I.step (g':=s.gens) (d':=s.drawn) (ch:=[]) (λ_ z=>nomatch z) (λb o _ hb _ e n=>u.keep b o e n hb (by simp)) (λb o _ hb _ e n=>u.slot b o e n hb (by simp)) (λb o _ e n=>u.free b o e n (by simp)) (λb o _ e=>u.there b o e (by simp)) u.tups u.frzs u.tbls (λm' hm=>by
  obtain⟨o',es',ep',ho',r'⟩:=hm
  rw[ho]at ho';cases ho'
  exact⟨_,es',ep',hL,r'⟩) hok I.bare
theorem Inv.call{g':Array fA}{t':Nat}{d':Drawn}{ch:List aa}(I:Inv X pins σ H s)(u:Un (frs X.stack) ch H H' s.heap h')(hok:HOk X.prog X.w H' h')(hg:dW g')
  (hch:∀b∈ch,(b∈X.ex\/X.s₀.heap.objs.size<=b)/\b≠X.env.locals/\(∀x c,X.env.cells.lookup x=a3 c->c≠b)/\∀p∈X.pn++pins,p.1≠b) :
  Inv X pins σ H' { s with heap:=h',gens:=g',drawn:=d',toks:=t' }:=by
 obtain⟨m,⟨o,es,ep,ho,r⟩,_⟩:=id I.loc;obtain⟨sl,hL⟩:=u.any ho I.free λz=>(hch _ z).2.1 rfl;exact I.step (ch:=ch) hch (λb o hL hb hc e n=>u.keep b o e n (λz=>(xn.mp (I.stkSub b z)).elim hL hb) hc) (λb o _ _ hc e n=>u.any e n hc) (λb o hc e n=>u.free b o e n hc) (λb o hc e=>u.there b o e hc) u.tups u.frzs u.tbls (λm' hm=>by
  obtain⟨o',es',ep',ho',r'⟩:=hm
  rw[ho]at ho';cases ho'
  exact⟨_,es',ep',hL,r'⟩) hok hg
theorem Inv.turned{t':Nat}{it:aa}(I:Inv X pins σ H s)(k:∀b o,b≠it->s.heap.get? b=a3 o->h'.get? b=a3 o)(hn:H it=a7)(hL:it≠X.env.locals)
  (h1:it∈X.ex\/X.s₀.heap.objs.size<=it) (h2:∀x c,X.env.cells.lookup x=a3 c->c≠it) (h3:∀p∈X.pn++pins,p.1≠it):Inv X pins σ H { s with heap:=h',toks:=t' }:=by
 have nit:∀b u,H b=a3 u->b≠it:=λb u e z=>by rw[z,hn]at e;cases e
 refine I.step (g':=s.gens) (d':=s.drawn) (ch:=[it]) (λb hb=>?_) (λb o _ _ hc e _=>k b o (λz=>hc (by simp[z])) e) (λb o _ _ hc e _=>⟨o.slots,k b o (λz=>hc (by simp[z])) e⟩) (λ_ _ _ _ n=>n)
  (λb o hc e=>⟨o,k b o (λz=>hc (by simp[z])) e⟩) (λ_ _ e=>e) (λ_ _ _ e=>e) (λb ps e=>⟨#[],by rw[e];simp⟩) (λm hm=>?_) (λb u e=>?_) I.bare
 .have e:b=it:=by simpa using hb
  subst e;exact⟨h1,hL,h2,h3⟩
 .obtain⟨o,es,ep,ho,r⟩:=hm;exact⟨o,es,ep,k _ o (cS hL) ho,r⟩
 .refine(I.hok b u e).stay (λc v hc q=>k c v ?_ q) (λ_ q=>q) (λ_ _ q=>q) λ_ _ _ q=>q;rcases hc with z|z
  .rw[z];exact nit b u e
  .exact nit c _ z
theorem Inv.tok(I:Inv X pins σ H s)(t:Nat):Inv X pins σ H { s with toks:=t }:=I.un (h':=s.heap) (t':=t) Un.refl I.hok
theorem Inv.kept{t':Nat}(I:Inv X pins σ H s)(k:∀b u,s.heap.get? b=a3 u->h'.get? b=a3 u):Inv X pins σ H { s with heap:=h',toks:=t' }:=I.un (Un.kept k) (I.hok.kept k)
theorem Inv.laid{a:aa}{o:HO}{t':Nat}(I:Inv X pins σ H s)(k:∀b u,s.heap.get? b=a3 u->h'.get? b=a3 u)(hp:s.heap.objs.size<=a)(new:jh X.prog X.w (upd H a o) h' a o) :
  Inv X pins σ (upd H a o) { s with heap:=h',toks:=t' }:=I.un (Un.laid k hp (I.hok.fresh hp)) (I.hok.laid k hp new)
theorem Inv.write{x e:aa}{o:HO}{t':Nat}(I:Inv X pins σ H s)(mu:Mut (H x))(he:e=x\/H e=a3 (.own x))(k:∀b u,b≠e->s.heap.get? b=a3 u->h'.get? b=a3 u)(heo:∃u,h'.get? e=a3 u)
  (new:jh X.prog X.w (upd H x o) h' x o):Inv X pins σ (upd H x o) { s with heap:=h',toks:=t' }:=I.un (Un.write mu he k heo) (I.hok.write mu he k heo new)
theorem Inv.pins_of{pins':k8o}(I:Inv X pins σ H s)(h:∀p∈pins',s.heap.get? p.1=a3 p.2/\H p.1=a7/\p.1≠X.env.locals/\p.1∉X.fs/\∀v,p.2.data≠.cell v):Inv X pins' σ H s :=
 ⟨I.ok,I.os,I.bare,I.base,I.loc,I.cell,I.free,I.freeC,λp hp=>(Xy.mp hp).elim (λz=>I.pin p (Xv _ z)) (h p),I.hok,I.len⟩
theorem j0c{N:List aj}(hN:N.Nodup){i j:Nat}{x:aj}(a:N[i]?=a3 x)(b:N[j]?=a3 x):i=j:=by obtain⟨h1,e1⟩:=X8.mp a;obtain⟨h2,e2⟩:=X8.mp b;exact(List.getElem_inj hN).mp (e1.trans e2.symm)
theorem Lp{M:kC}{A:aC}{E:k8n}{i:Nat}{x:aj}{v:V}{u:a8}{Q:Unit->af->Prop}(I:Inv X pins σ H s)(hN:X.N.Nodup)(hi:X.N[i]?=a3 x)(hx:Loc X.env.scope x)(r:RelV v u)
  (h:∀s',Inv X pins (σ.set i (a3 v)) H s'->(∃a,cJ a s.heap s'.heap/\(a=X.env.locals\/X.env.cells.lookup x=a3 a))->Q () s') (hf:X.fn x=a6\/X.env.scope.names.lookup x=a3 .local:=by first|exact .inl rfl|exact .inr rfl|assumption):aq M A (storeName X.env x u) Q E s:=by
 obtain⟨m,hn,hl⟩:=id I.loc;have hcls:(X.env.scope.kind==.class || (X.env.scope.kind==.module&&X.env.locals != X.env.globals))=a4:=by rw[I.ok.kind];rfl
 have hiσ:i<σ.length:=by rw[I.len];exact(X8.mp hi).1
 have cne:=I.cne;have tracked:∀{a:aa}{h':aD},(∃o,s.heap.get? a=a3 o/\H a=a7)->cJ a s.heap h'->HOk X.prog X.w H h':=λ{a h'} ha hs b ob e=>by
  obtain⟨_,_,hfree⟩:=ha;refine(I.hok b ob e).stay (λc w' hc q=>(hs.2 c ?_).trans q) (λ_ q=>q) (λ_ _ q=>q) λ_ _ _ q=>q;rintro rfl;rcases hc with rfl|hc
  .rw[hfree]at e;cases e
  .rw[hfree]at hc;cases hc
 rcases hx with hk|hk
 .refine wpAny_storeName_local hk hn (λh' hn' hs=>?_) hcls;obtain⟨oL,_,_,hoL,_⟩:=id hn;refine h _ ⟨I.ok,I.os,I.bare,⟨λb o e n hb hx=>?_,λb o e n hb hx=>?_,I.base.free,λb o e hx=>?_,I.base.tups,I.base.frzs,I.base.tbls⟩,⟨_,hn',λj y v' e1 e2 e3=>?_⟩,λy c e=>?_,I.free,I.freeC,λp hp=>?_,tracked ⟨oL,hoL,I.free⟩ hs,by simpa using I.len⟩ ⟨_,hs,.inl rfl⟩
  .exact(hs.2 b (Xd (Xi (X4 e) I.ok.above))).trans (I.base.keep b o e n hb hx)
  .obtain⟨sl,e1⟩:=I.base.slot b o e n hb hx;exact⟨sl,(hs.2 b (Xd (Xi (X4 e) I.ok.above))).trans e1⟩
  .obtain⟨o',e1⟩:=I.base.there b o e hx;exact⟨o',(hs.2 b (Xd (Xi (X4 e) I.ok.above))).trans e1⟩
  .by_cases hj:j=i
   .subst hj;rw[hi]at e1;cases e1;rw[gW hiσ]at e2;cases e2;exact⟨u,r,.inl ⟨hk,by simp⟩⟩
   .rw[iw (cS hj)]at e2;obtain⟨u',r',q⟩:=hl j y v' e1 e2 e3;refine⟨u',r',?_⟩;rcases q with ⟨k,e⟩|⟨k,c,e,z⟩
    .refine .inl ⟨k,?_⟩;have:y≠x:=λe=>hj (j0c hN e1 (e▸hi));simp[this,e]
    .exact .inr ⟨k,c,e,z.sameBut hs (cne y c e)⟩
  .obtain⟨w',z⟩:=I.cell y c e;exact⟨w',z.sameBut hs (cne y c e)⟩
  .obtain⟨e,n,ne,nf,d⟩:=I.pin p hp;exact⟨(hs.2 p.1 ne).trans e,n,ne,nf,d⟩
 .have hfn:X.fn x=a6:=by
   rcases hf with z|z
   .exact z
   .rw[z]at hk;cases hk
  obtain⟨c,hc⟩:=I.ok.has x (.inl hk);obtain⟨w',z⟩:=I.cell x c hc;refine wpAny_storeName_cell I.ok.kind hk hc z (λh' hc' hs=>?_);obtain⟨oc,hoc,hocd⟩:=id z;refine h { s with heap:=h' } ⟨I.ok,I.os,I.bare,⟨λb o e n hb hx=>?_,λb o e n hb hx=>?_,I.base.free,λb o e hx=>?_,I.base.tups,I.base.frzs,I.base.tbls⟩,⟨m,hn.sameBut hs (cS (cne x c hc)),λj y v' e1 e2 e3=>?_⟩,λy c' e=>?_,I.free,I.freeC,λp hp=>?_,tracked ⟨oc,hoc,I.freeC x c hc⟩ hs,by simpa using I.len⟩ ⟨c,hs,.inr hc⟩
  .exact(hs.2 b (Xd (Xi (X4 e) (I.ok.cab x c hfn hc)))).trans (I.base.keep b o e n hb hx)
  .obtain⟨sl,e1⟩:=I.base.slot b o e n hb hx;exact⟨sl,(hs.2 b (Xd (Xi (X4 e) (I.ok.cab x c hfn hc)))).trans e1⟩
  .obtain⟨o',e1⟩:=I.base.there b o e hx;exact⟨o',(hs.2 b (Xd (Xi (X4 e) (I.ok.cab x c hfn hc)))).trans e1⟩
  .by_cases hj:j=i
   .subst hj;rw[hi]at e1;cases e1;rw[gW hiσ]at e2;cases e2;exact⟨u,r,.inr ⟨.inl hk,c,hc,hc'⟩⟩
   .rw[iw (cS hj)]at e2;obtain⟨u',r',q⟩:=hl j y v' e1 e2 e3;refine⟨u',r',?_⟩;rcases q with q|⟨k,c',e,z'⟩
    .exact .inl q
    .refine .inr ⟨k,c',e,z'.sameBut hs ?_⟩;rintro rfl;exact hj (j0c hN e1 (I.ok.inj _ _ _ e hc▸hi))
  .by_cases hcc:c'=c
   .subst hcc;exact⟨_,hc'⟩
   .obtain⟨w2,z2⟩:=I.cell y c' e;exact⟨w2,z2.sameBut hs hcc⟩
  .obtain⟨e,n,ne,nf,d⟩:=I.pin p hp;refine⟨(hs.2 p.1 ?_).trans e,n,ne,nf,d⟩;intro q;rw[q,hoc]at e;have q':oc=p.2:=aw e;exact d w' (by rw[<-q'];exact hocd)
theorem Eo{M:kC}{A:aC}{E:k8n}{i:Nat}{x:aj}{v:V}{u:a8}{Q:Unit->af->Prop}(I:Inv X pins σ H s)(hN:X.N.Nodup)(hi:X.N[i]?=a3 x)(hx:Loc X.env.scope x)(r:RelV v u)
  (h:∀s',Inv X pins (σ.set i (a3 v)) H s'->Q () s') (hf:X.fn x=a6\/X.env.scope.names.lookup x=a3 .local:=by first|exact .inl rfl|exact .inr rfl|assumption):aq M A (storeName X.env x u) Q E s :=
 Lp I hN hi hx r (λs' I' _=>h s' I') hf
theorem Inv.call'{s':af}{ch:List aa}(I:Inv X pins σ H s)(ho:s'.os=s.os)(u:Un (frs X.stack) ch H H' s.heap s'.heap)(hok:HOk X.prog X.w H' s'.heap)(hg:dW s'.gens)
  (hch:∀b∈ch,(b∈X.ex\/X.s₀.heap.objs.size<=b)/\b≠X.env.locals/\(∀x c,X.env.cells.lookup x=a3 c->c≠b)/\∀p∈X.pn++pins,p.1≠b):Inv X pins σ H' s':=by
 obtain⟨h',g',d',t',o'⟩:=s';have e:o'=s.os:=ho;subst e;exact I.call (g':=g') (t':=t') (d':=d') u hok hg hch
end
abbrev XK:=a8->Option aa->Hp->Prop
noncomputable abbrev St:=List (Option V)
abbrev VK:=V->Hp->Prop
abbrev TE:=St->Hp->VK->Prop
abbrev TT:=St->Hp->(Bool->Hp->Prop)->Prop
abbrev TA:=St->Hp->(List V->Hp->Prop)->Prop
structure Ends where
 nx:St->Hp->Prop
 rt:VK
 bk:St->Hp->Prop:=λ_ _=>False
 ct:St->Hp->Prop:=λ_ _=>False
abbrev TS:=Ends->St->Hp->Prop
def EP(X:Cx)(pins:k8o)(σ:St)(Q:VK)(u:a8)(s':af):Prop:=∃v H',Inv X pins σ H' s'/\RelV v u/\Q v H'
def TP(X:Cx)(pins:k8o)(σ:St)(Q:Bool->Hp->Prop)(b:Bool)(s':af):Prop:=∃H',Inv X pins σ H' s'/\Q b H'
def AP(X:Cx)(pins:k8o)(σ:St)(Q:List V->Hp->Prop)(us:List a8)(s':af):Prop:=∃vs H',Inv X pins σ H' s'/\Vals vs us/\Q vs H'
def Ext(X:Cx)(H1 H2:Hp)(s':af):Prop:=∀b,H2 b=H1 b\/∃x o v,X.env.cells.lookup x=a3 b/\X.fn x=a6/\H2 b=a3 (.frz o (.own 0))/\s'.heap.get? b=a3 o/\o.data=.cell v
theorem Ext.refl{X:Cx}{H:Hp}{s':af}:Ext X H H s':=λ_=>.inl rfl
def SP(X:Cx)(pins:k8o)(D:Ends)(f:Flow)(s':af):Prop :=
 match f with
 |.next=>∃σ' H',Inv X pins σ' H' s'/\D.nx σ' H'
 |.brk=>∃σ' H',Inv X pins σ' H' s'/\D.bk σ' H'
 |.cont=>∃σ' H',Inv X pins σ' H' s'/\D.ct σ' H'
 |.ret u=>∃v σ' H' H2,Inv X pins σ' H' s'/\RelV v u/\Ext X H' H2 s'/\D.rt v H2
def PE(X:Cx)(e:ao)(t:TE):Prop :=
 ∀(pins:k8o) (s:af) (σ:St) (H:Hp) (Q:VK),Inv X pins σ H s->t σ H Q->aq (ay X.prog X.w) X.A (aA e X.env) (EP X pins σ Q) X.xe s
def PT(X:Cx)(e:ao)(t:TT):Prop :=
 ∀(pins:k8o) (s:af) (σ:St) (H:Hp) (Q:Bool->Hp->Prop),Inv X pins σ H s->t σ H Q->aq (ay X.prog X.w) X.A (fR e X.env (aA e X.env)) (TP X pins σ Q) X.xe s
def PW(X:Cx)(e:ao)(t:TT):Prop :=
 ∀(whole:mi a8)(pins:k8o) (s:af) (σ:St) (H:Hp) (Q:Bool->Hp->Prop),Inv X pins σ H s->t σ H Q->aq (ay X.prog X.w) X.A (fR e X.env whole) (TP X pins σ Q) X.xe s
def PA(X:Cx)(es:List ao)(t:TA):Prop :=
 ∀(pos:aO)(pins:k8o) (s:af) (σ:St) (H:Hp) (Q:List V->Hp->Prop),Inv X pins σ H s->t σ H Q->aq (ay X.prog X.w) X.A (iR (aY pos (a9 es X.env))) (AP X pins σ Q) X.xe s
def PS(X:Cx)(st:bp)(t:TS):Prop :=
 ∀(pins:k8o) (s:af) (σ:St) (H:Hp) (D:Ends),Inv X pins σ H s->t D σ H->aq (ay X.prog X.w) X.A (exec st X.env) (SP X pins D) X.xe s
def PSs(X:Cx)(st:List bp)(t:TS):Prop :=
 ∀(pins:k8o) (s:af) (σ:St) (H:Hp) (D:Ends),Inv X pins σ H s->t D σ H->aq (ay X.prog X.w) X.A (execs st X.env) (SP X pins D) X.xe s
theorem thn{α:Type}{t:mi α}{Q Q':α->af->Prop}{M:kC}{A:aC}{E:k8n}{s:af}(h:aq M A t Q E s)(hQ:∀a s,Q a s->Q' a s):aq M A t Q' E s:=bE h hQ λ_ _ x=>x
section
variable{X:Cx}
theorem bin{a b:ao}{ta tb:TE}(ha:PE X a ta)(hb:PE X b tb){pins:k8o}{s:af}{σ:St}{H:Hp}{R:V->V->Hp->Prop}(I:Inv X pins σ H s)(h:ta σ H λx H1=>tb σ H1 λy H2=>R x y H2)
  {α:Type} {Q:α->af->Prop} {f:a8->a8->mi α}
  (hf:∀v u s2 x y H2,Inv X pins σ H2 s2->RelV x v->RelV y u->R x y H2->aq (ay X.prog X.w) X.A (f v u) Q X.xe s2) :
  aq (ay X.prog X.w) X.A (aA a X.env) (λv s₁=>aq (ay X.prog X.w) X.A (aA b X.env) (λu s₂=>aq (ay X.prog X.w) X.A (f v u) Q X.xe s₂) X.xe s₁) X.xe s:=by
 refine thn (ha pins s σ H _ I h) λv s1 ⟨x,H1,I1,r1,q1⟩=>?_;refine thn (hb pins s1 σ H1 _ I1 q1) λu s2 ⟨y,H2,I2,r2,q2⟩=>?_;exact hf v u s2 x y H2 I2 r1 r2 q2
def jl5(i:Nat):TE:=λσ H Q=>∃v,σ[i]?=a3 (a3 v)/\Q v H
def tC(v:V):TE:=λ_ H Q=>Q v H
theorem Ql {i:Nat} {x:aj} {pos:aO} (hN:X.N[i]?=a3 x) (hv:Vis X.env.scope x) (hd:(x==k8q)=a4:=by decide) (hcd:(x==k8r)=a4:=by decide):PE X (.Name x pos) (jl5 i):=by
 intro pins s σ H Q I h;obtain⟨v,e,h⟩:=h;obtain⟨m,hn,hl⟩:=I.loc;obtain⟨u,r,l⟩:=hl i x v hN e hv;have fin:EP X pins σ Q u s:=⟨v,H,I,r,h⟩
 rcases l with ⟨hk,hm⟩|⟨hk,c,hc,hcell⟩
 .exact k9 (wpAny_loadName_local I.ok.kind hk hn hm fin) hd
 .rcases hk with hk|hk
  .exact k9 (wpAny_loadName_cell I.ok.kind hk hc hcell fin) hd
  .exact k9 (wpAny_loadName_free I.ok.kind hk hc hcell fin hcd) hd
theorem j5n{i j pos}:PE X (.Constant (.int i) j pos) (tC (.int i)):=λ_ _ _ H _ I h=>wpAny_Constant_int ⟨.int i,H,I.tok _,⟨_,rfl⟩,h⟩
theorem jjk{b j pos}:PE X (.Constant (.bool b) j pos) (tC (.bl b)):=λ_ _ _ H _ I h=>Constant_bool ⟨.bl b,H,I,rfl,h⟩
theorem j08{j pos}:PE X (.Constant .none j pos) (tC .non):=λ_ _ _ H _ I h=>mq ⟨.non,H,I,rfl,h⟩
theorem j5k{x j pos}:PE X (.Constant (.str x) j pos) (tC (.str x)):=λ_ _ _ H _ I h=>Calls.Constant_str ⟨.str x,H,I.tok _,⟨_,rfl⟩,h⟩
def Gl(X:Cx)(x:aj):Prop:=X.env.kindOf x=a3 .globalImplicit
theorem Uu{E:k8n}{pins:k8o}{s:af}{σ:St}{H:Hp}{x:aj}{u:a8}{pos:aO}{Q:k8n}(I:Inv X pins σ H s)(hg:Gl X x)(hm:X.mg x=a3 u)(h:Q u s)
  (hd:(x==k8q)=a4:=by decide):aq (ay X.prog X.w) X.A (aA (.Name x pos) X.env) Q E s :=
 fY I.ok.kind hg (Calls.loadGlobal_global (by rw[I.ok.glob];exact I.mod.glob.keeps I.bk) hm h) hd
theorem Jq{E:k8n}{pins:k8o}{s:af}{σ:St}{H:Hp}{x:aj}{u:a8}{pos:aO}{Q:k8n}(I:Inv X pins σ H s)(hg:Gl X x)(hm:X.mg x=a7)(hv:bh x=a3 u)(h:Q u s)
  (hn:x ≠ "__name__":=by decide) (hd:(x==k8q)=a4:=by decide):aq (ay X.prog X.w) X.A (aA (.Name x pos) X.env) Q E s:=by
 obtain⟨mb,h1,h2⟩:=I.mod.blt;exact fY I.ok.kind hg (Calls.loadGlobal_builtin (by rw[I.ok.glob];exact I.mod.glob.keeps I.bk) hm (by rw[I.ok.blt];exact h1.keeps I.bk) ((h2 x hn).trans hv) h) hd
theorem j2k {x:aj} {v:V} {u:a8} {pos:aO} (hg:Gl X x) (hm:X.mg x=a3 u) (r:RelV v u) (hd:(x==k8q)=a4:=by decide):PE X (.Name x pos) (tC v) :=
 λ_ _ _ H _ I h=>Uu I hg hm ⟨v,H,I,r,h⟩ hd
theorem jcd {x:aj} {v:V} {u:a8} {pos:aO} (hg:Gl X x) (hm:X.mg x=a7) (hv:bh x=a3 u) (r:RelV v u) (hn:x ≠ "__name__":=by decide) (hd:(x==k8q)=a4:=by decide):PE X (.Name x pos) (tC v) :=
 λ_ _ _ H _ I h=>Jq I hg hm hv ⟨v,H,I,r,h⟩ hn hd
variable{a b:ao}{ta tb:TE}{pos:aO}
def PC(X:Cx)(op:gc)(a b:ao)(t:TE):Prop :=
 ∀(pins:k8o) (s:af) (σ:St) (H:Hp) (Q:VK),Inv X pins σ H s->t σ H Q ->
  aq (ay X.prog X.w) X.A (aA a X.env) (λv s₁=>aq (ay X.prog X.w) X.A (aA b X.env) (λu s₂=>aq (ay X.prog X.w) X.A (aR op v u) (EP X pins σ Q) X.xe s₂) X.xe s₁) X.xe s
theorem j0d(b:ao){op:gc}(h:op≠.In)(h2:op≠.NotIn):aG op b=a4:=by
 have e1:(op==CmpOp.In)=a4:=by cases op<;>first|rfl|exact absurd rfl h
 have e2:(op==CmpOp.NotIn)=a4:=by cases op<;>first|rfl|exact absurd rfl h2
 cases b<;>simp[aG,e1,e2]
def jlc(ta:TE):TE:=λσ H Q=>ta σ H λx H1=>Q (.bl (decide (x=.non))) H1
theorem RelV.none_iff{x:V}{v:a8}(r:RelV x v):(v==aV)=decide (x=.non):=by
 cases x with
 |non=>cases r;rfl
 |bl _=>cases r;rfl
 |int _=>obtain⟨t,rfl⟩:=r;rfl
 |str _=>obtain⟨t,rfl⟩:=r;rfl
 |byt _=>obtain⟨t,rfl⟩:=r;rfl
 |flt _=>obtain⟨t,rfl⟩:=r;rfl
 |ref _=>cases r;rfl
 |ty _=>cases r;rfl
theorem j5o{j pos'}(ha:PE X a ta):PC X .Is a (.Constant .none j pos') (jlc ta):=by intro pins s σ H Q I h;refine thn (ha pins s σ H _ I h) λv s1 ⟨x,H1,I1,r1,q1⟩=>?_;exact mq (is_none_gen ⟨.bl _,H1,I1,by rw[r1.none_iff];rfl,q1⟩)
def tB(t:TE):TT:=λσ H Q=>t σ H λx H1=>∃c,x=.bl c/\Q c H1
theorem jfn{op:gc}{t:TE}(h:PC X op a b t)(h1:aG op b=a4:=by first|exact j0d _ (by decide) (by decide)|rfl):PE X (.Compare a [op] [b] pos) t:=λpins s σ H Q I hw=>lU (h pins s σ H Q I hw) h1
theorem jfh{op:gc}{t:TE}(h:PC X op a b t)(h1:aG op b=a4:=by first|exact j0d _ (by decide) (by decide)|rfl):PT X (.Compare a [op] [b] pos) (tB t):=by intro pins s σ H Q I hw;refine jC (thn (h pins s σ H _ I hw) λv s1 h1=>thn h1 λu s2 h2=>thn h2 λc s3 ⟨x,H1,I1,r1,q1⟩=>?_) h1;obtain⟨d,rfl,q⟩:=q1;cases r1;exact b7 ⟨H1,I1,q⟩
theorem jff{e:ao}{t:TE}(h:PE X e t)(he:∀whole,fR e X.env whole=(do let v <-whole;g6 e.pos;bL [v] (truthy v)):=by intro _;rfl):PT X e (tB t):=by intro pins s σ H Q I hw;refine isTrue_plain (thn (h pins s σ H _ I hw) λv s1 ⟨x,H1,I1,r1,q1⟩=>?_) (he _);obtain⟨d,rfl,q⟩:=q1;cases r1;exact b7 ⟨H1,I1,q⟩
variable{tA tB':TT}{rest:List ao}
def jlf(t u:TT):TT:=λσ H Q=>t σ H λc H1=>if c=a6 then u σ H1 Q else Q a4 H1
def tOr(t u:TT):TT:=λσ H Q=>t σ H λc H1=>if c=a6 then Q a6 H1 else u σ H1 Q
def jl9(t:TT):TT:=λσ H Q=>t σ H λc H1=>Q (!c) H1
theorem jc5(ha:PT X a tA):PW X (.BoolOp .And [a] pos) tA:=by
 intro wh pins s σ H Q I h;refine isTrue_and (thn (ha pins s σ H Q I h) λc s1 e=>?_);cases c with
 |true=>exact isTrue_and_nil e
 |false=>exact e
theorem jfd(ha:PT X a tA):PW X (.BoolOp .Or [a] pos) tA:=by
 intro wh pins s σ H Q I h;refine isTrue_or (thn (ha pins s σ H Q I h) λc s1 e=>?_);cases c with
 |false=>exact isTrue_or_nil e
 |true=>exact e
theorem jfe(ha:PT X a tA)(hb:PW X (.BoolOp .And (b::rest) pos) tB'):PW X (.BoolOp .And (a::b::rest) pos) (jlf tA tB'):=by
 intro wh pins s σ H Q I h;refine isTrue_and (thn (ha pins s σ H _ I h) λc s1 ⟨H1,I1,q1⟩=>?_);cases c with
 |true=>exact hb wh pins s1 σ H1 Q I1 q1
 |false=>exact⟨H1,I1,q1⟩
theorem jjh(ha:PT X a tA)(hb:PW X (.BoolOp .Or (b::rest) pos) tB'):PW X (.BoolOp .Or (a::b::rest) pos) (tOr tA tB'):=by
 intro wh pins s σ H Q I h;refine isTrue_or (thn (ha pins s σ H _ I h) λc s1 ⟨H1,I1,q1⟩=>?_);cases c with
 |true=>exact⟨H1,I1,q1⟩
 |false=>exact hb wh pins s1 σ H1 Q I1 q1
theorem jfg(ha:PT X a tA):PT X (.UnaryOp .Not a pos) (jl9 tA):=by intro pins s σ H Q I h;exact isTrue_not (ha pins s σ H (λc H1=>Q (!c) H1) I h)
def jj1(ta tb:TE):TE:=λσ H Q=>ta σ H λx H1=>∃c,x=.bl c/\if c=a6 then tb σ H1 Q else Q (.bl a4) H1
theorem j5l{op}{t:TE}(h:PE X a t):PE X (.BoolOp op [a] pos) t:=λpins s σ H Q I hw=>BoolOp_one (h pins s σ H Q I hw)
theorem jfo(ha:PE X a ta)(hb:PE X (.BoolOp .And (b::rest) pos) tb):PE X (.BoolOp .And (a::b::rest) pos) (jj1 ta tb):=by
 intro pins s σ H Q I h;refine BoolOp_and (thn (ha pins s σ H _ I h) λv s1 ⟨x,H1,I1,r1,q1⟩=>?_);obtain⟨c,rfl,q1⟩:=q1;cases r1;refine b7 ?_;cases c with
 |true=>exact hb pins s1 σ H1 Q I1 q1
 |false=>exact⟨.bl a4,H1,I1,rfl,q1⟩
def tIf(t:TT)(ta tb:TE):TE:=λσ H Q=>t σ H λc H1=>if c=a6 then ta σ H1 Q else tb σ H1 Q
theorem j87{c:ao}(hc:PT X c tA)(ha:PE X a ta)(hb:PE X b tb):PE X (.IfExp c a b pos) (tIf tA ta tb):=by
 intro pins s σ H Q I h;refine wpAny_IfExp (thn (hc pins s σ H _ I h) λd s1 ⟨H1,I1,q1⟩=>?_);cases d with
 |true=>exact ha pins s1 σ H1 Q I1 q1
 |false=>exact hb pins s1 σ H1 Q I1 q1
end
def SqL(K:k8m)(H:Hp)(a:aa)(xs:List V):Prop :=
 Rd H a (.lst xs) \/
  ∃(o:dz)(its:Array a8)(n:Nat),K.lookup a=a3 o/\o.cls=.type "list"/\o.dict=a7/\o.data=.seq its n/\its.size<=ar/\Vals xs its.toList
def SqT(K:k8m)(H:Hp)(a:aa)(xs:List V):Prop :=
 Rd H a (.tup xs) \/
  ∃(o:dz)(its:Array a8)(n:Nat),K.lookup a=a3 o/\o.cls=.type "tuple"/\o.dict=a7/\o.data=.seq its n/\its.size<=ar/\Vals xs its.toList
noncomputable def jm2:a8->Option V
 |.none=>a3 .non
 |.bool b=>a3 (.bl b)
 |.int i _=>a3 (.int i)
 |.str x _=>a3 (.str x)
 |.bytes b _=>a3 (.byt b)
 |.float b _=>a3 (.flt b)
 |.ref a=>a3 (.ref a)
 |.type n=>a3 (.ty n)
 |_=>a7
theorem RelV.abs{x:V}{u:a8}(r:RelV x u):jm2 u=a3 x:=by
 cases x with
 |non=>cases r;rfl
 |bl _=>cases r;rfl
 |int _=>obtain⟨t,rfl⟩:=r;rfl
 |str _=>obtain⟨t,rfl⟩:=r;rfl
 |byt _=>obtain⟨t,rfl⟩:=r;rfl
 |flt _=>obtain⟨t,rfl⟩:=r;rfl
 |ref _=>cases r;rfl
 |ty _=>cases r;rfl
theorem RelV.inj{x y:V}{u:a8}(r:RelV x u)(q:RelV y u):x=y:=aw (r.abs.symm.trans q.abs)
theorem Vals.inj:∀{xs ys:List V}{us:List a8},Vals xs us->Vals ys us->xs=ys
 |_,_,_,.nil,.nil=>rfl
 |_,_,_,.cons r t,.cons r' t'=>by rw[r.inj r',Vals.inj t t']
section
variable{X:Cx}{pins:k8o}{σ:St}{H:Hp}{s:af}{a:aa}{xs ys:List V}
theorem Inv.list(I:Inv X pins σ H s)(h:SqL X.K H a xs):∃its:List a8,Vals xs its/\PlainL s.heap a its.toArray/\xs.length<=ar:=by
 rcases h with h|⟨o,its,n,hk,hc,hd,hs,hz,r⟩
 .obtain⟨z,its,n,r,e⟩:=h.ok I.hok;exact⟨its,r,⟨_,n,e,rfl,rfl,rfl⟩,z⟩
 .refine⟨its.toList,r,⟨o,n,I.kIn a o hk,hc,hd,by simpa using hs⟩,?_⟩;have e:=r.length;simp only[cW]at e;omega
theorem Inv.tuple(I:Inv X pins σ H s)(h:SqT X.K H a xs):∃its:List a8,Vals xs its/\i7 s.heap a its.toArray/\xs.length<=ar:=by
 rcases h with h|⟨o,its,n,hk,hc,hnd,hs,hz,r⟩
 .obtain⟨z,its,r,p,_⟩:=h.ok I.hok;exact⟨its,r,p,z⟩
 .refine⟨its.toList,r,⟨o,I.kIn a o hk,hc,n,by simpa using hs⟩,?_⟩;have e:=r.length;simp only[cW]at e;omega
theorem Inv.tupD(I:Inv X pins σ H s)(h:SqT X.K H a xs):Zx s.heap a:=by
 rcases h with h|⟨o,its,n,hk,hc,hnd,hs,hz,r⟩
 .obtain⟨z,its,r,p,q⟩:=h.ok I.hok;exact q
 .intro o' e;rw[I.kIn a o hk]at e;cases e;exact hnd
theorem Inv.list_inj(I:Inv X pins σ H s)(h:SqL X.K H a xs)(h':SqL X.K H a ys):xs=ys:=by
 obtain⟨its,r,⟨o,n,e,_,_,d⟩,_⟩:=I.list h;obtain⟨its',r',⟨o',n',e',_,_,d'⟩,_⟩:=I.list h';rw[e]at e';cases e';rw[d]at d';injection d' with d1 _;have:its=its':=by simpa using congrArg kr d1
 subst this;exact r.inj r'
theorem Inv.tuple_inj(I:Inv X pins σ H s)(h:SqT X.K H a xs)(h':SqT X.K H a ys):xs=ys:=by
 obtain⟨its,r,⟨o,e,_,n,d⟩,_⟩:=I.tuple h;obtain⟨its',r',⟨o',e',_,n',d'⟩,_⟩:=I.tuple h';rw[e]at e';cases e';rw[d]at d';injection d' with d1 _;have:its=its':=by simpa using congrArg kr d1
 subst this;exact r.inj r'
end
noncomputable abbrev Cx.wish(X:Cx)(E:k8n):Cx:={ X with xe:=E }
noncomputable abbrev Cx.nox(X:Cx):Cx:=X.wish λ_ _=>False
theorem Cx.Ok.wish{X:Cx}(ok:X.Ok)(E:k8n):(X.wish E).Ok :=
 ⟨ok.mod,ok.kind,ok.glob,ok.blt,ok.above,ok.inj,ok.has,ok.cab,ok.hd,ok.frames,ok.stk,ok.exf,ok.bs,ok.bsz,ok.noex,ok.exfs,ok.funs,ok.frf⟩
theorem Cx.Ok.unwish{X:Cx}{E:k8n}(ok:(X.wish E).Ok):X.Ok :=
 ⟨ok.mod,ok.kind,ok.glob,ok.blt,ok.above,ok.inj,ok.has,ok.cab,ok.hd,ok.frames,ok.stk,ok.exf,ok.bs,ok.bsz,ok.noex,ok.exfs,ok.funs,ok.frf⟩
section
variable{X:Cx}{pins:k8o}{σ:St}{H:Hp}{s:af}{E:k8n}
theorem Inv.wish(I:Inv X pins σ H s)(E:k8n):Inv (X.wish E) pins σ H s:=⟨I.ok.wish E,I.os,I.bare,I.base,I.loc,I.cell,I.free,I.freeC,I.pin,I.hok,I.len⟩
theorem Inv.unwish(I:Inv (X.wish E) pins σ H s):Inv X pins σ H s:=⟨I.ok.unwish,I.os,I.bare,I.base,I.loc,I.cell,I.free,I.freeC,I.pin,I.hok,I.len⟩
theorem SP.unwish{D:Ends}{f:Flow}{s':af}(h:SP (X.wish E) pins D f s'):SP X pins D f s':=by
 cases f with
 |next=>obtain⟨σ',H',I,q⟩:=h;exact⟨σ',H',I.unwish,q⟩
 |brk=>obtain⟨σ',H',I,q⟩:=h;exact⟨σ',H',I.unwish,q⟩
 |cont=>obtain⟨σ',H',I,q⟩:=h;exact⟨σ',H',I.unwish,q⟩
 |ret u=>obtain⟨v,σ',H',H2,I,r,x,q⟩:=h;exact⟨v,σ',H',H2,I.unwish,r,x,q⟩
theorem PSs.nox{st:List bp}{t:TS}(h:PSs X.nox st t):PSs X st t:=λpins s σ H D I hw =>bE (h pins s σ H D (I.wish _) hw) (λ_ _ q=>q.unwish) λ_ _ z=>aW z
end
section
variable{X:Cx}{st:bp}{rest:List bp}{t u:TS}{e:ao}{te:TE}{pos:aO}
def jix:TS:=λD σ H=>D.nx σ H
def jl7(t u:TS):TS:=λD σ H=>t { D with nx:=u D } σ H
theorem jc6:PSs X [] jix:=λ_ _ σ H _ I h=>gK ⟨σ,H,I,h⟩
theorem W2(h1:PS X st t)(h2:PSs X rest u):PSs X (st::rest) (jl7 t u):=by
 intro pins s σ H D I h;refine kX (thn (h1 pins s σ H { D with nx:=u D } I h) λf s1 q=>?_);cases f with
 |next =>obtain⟨σ',H',I',q⟩:=q;exact h2 pins s1 σ' H' D I' q
 |ret v=>exact q
 |brk=>exact q
 |cont=>exact q
theorem j2h(h1:PS X st t):PSs X [st] t:=by
 intro pins s σ H D I h;refine kX (thn (h1 pins s σ H D I h) λf s1 q=>?_);cases f with
 |next=>exact gK q
 |ret v=>exact q
 |brk=>exact q
 |cont=>exact q
theorem Inv.quiet{pins:k8o}{σ:St}{H:Hp}{s:af}(I:Inv X pins σ H s):interactive X.env=a4:=by simp[interactive,I.ok.kind]
def jiy(te:TE):TS:=λD σ H=>te σ H λ_ H1=>D.nx σ H1
theorem Rz(he:PE X e te)(hs:aZ e a7 pos.line X.env=pure a4:=by rfl):PS X (.Expr e pos) (jiy te):=by intro pins s σ H D I h;exact wpAny_Expr_any (thn (he pins s σ H _ I h) λv s1 ⟨x,H1,I1,r1,q1⟩=>⟨σ,H1,I1,q1⟩) I.quiet hs
def jl8(te:TE):TS:=λD σ H=>te σ H D.rt
theorem Wv(he:PE X e te):PS X (.Return (a3 e) pos) (jl8 te):=by intro pins s σ H D I h;exact kA (thn (he pins s σ H _ I h) λv s1 ⟨x,H1,I1,r1,q1⟩=>⟨x,σ,H1,H1,I1,r1,.refl,q1⟩)
def jld(c:TT)(t u:TS):TS:=λD σ H=>c σ H λb H1=>if b=a6 then t D σ H1 else u D σ H1
theorem jji{c:ao}{a b:List bp}{tc:TT}(hc:PT X c tc)(ha:PSs X a t)(hb:PSs X b u):PS X (.If c a b pos) (jld tc t u):=by
 intro pins s σ H D I h;refine wpAny_If (thn (hc pins s σ H _ I h) λd s1 ⟨H1,I1,q1⟩=>?_);cases d with
 |true=>exact ha pins s1 σ H1 D I1 q1
 |false=>exact hb pins s1 σ H1 D I1 q1
end
abbrev TG:=V->St->Hp->(St->Hp->Prop)->Prop
abbrev TGs:=List V->St->Hp->(St->Hp->Prop)->Prop
def PG(X:Cx)(target:ao)(t:TG):Prop :=
 ∀(pins:k8o) (s:af) (σ:St) (H:Hp) (v:V) (u:a8) (Q:St->Hp->Prop),Inv X pins σ H s->RelV v u->t v σ H Q ->
  aq (ay X.prog X.w) X.A (cX target X.env u) (λ_ s'=>∃σ' H',Inv X pins σ' H' s'/\Q σ' H') X.xe s
def PGs(X:Cx)(ts:List ao)(t:TGs):Prop :=
 ∀(pins:k8o) (s:af) (σ:St) (H:Hp) (vs:List V) (us:List a8) (Q:St->Hp->Prop),Inv X pins σ H s->Vals vs us->t vs σ H Q ->
  aq (ay X.prog X.w) X.A (assignInOrder ((bF ts X.env).map (·.2)) us) (λ_ s'=>∃σ' H',Inv X pins σ' H' s'/\Q σ' H') X.xe s
abbrev j4j:=V->V->V->Hp->(Hp->Prop)->Prop
def jio(X:Cx)(t:j4j):Prop :=
 ∀(pins:k8o) (s:af) (σ:St) (H:Hp) (o i v:V) (ov iv u:a8) (Q:Hp->Prop),Inv X pins σ H s->RelV o ov->RelV i iv->RelV v u->t o i v H Q ->
  aq (ay X.prog X.w) X.A (setItem ov iv u) (λ_ s'=>∃H',Inv X pins σ H' s'/\Q H') X.xe s
section
variable{X:Cx}{pos:aO}
def jar(i:Nat):TG:=λv σ H Q=>Q (σ.set i (a3 v)) H
theorem M5{i:Nat}{x:aj}(hN:X.N.Nodup)(hi:X.N[i]?=a3 x)(hx:Loc X.env.scope x)(hf:X.fn x=a6\/X.env.scope.names.lookup x=a3 .local:=by first|exact .inl rfl|exact .inr rfl|assumption):PG X (.Name x pos) (jar i):=by intro pins s σ H v u Q I r h;exact kz (Eo I hN hi hx r (λs' I'=>⟨_,H,I',h⟩) hf)
def jlv:TGs:=λvs σ H Q=>vs=[]/\Q σ H
def jk8(t:TG)(u:TGs):TGs:=λvs σ H Q=>∃v r,vs=v::r/\t v σ H λσ' H'=>u r σ' H' Q
theorem jcb:PGs X [] jlv:=by intro pins s σ H vs us Q I r h;obtain⟨e,h⟩:=h;subst e;cases r;exact assignInOrder_nil ⟨σ,H,I,h⟩
theorem j07{e:ao}{es:List ao}{t:TG}{u:TGs}(h1:PG X e t)(h2:PGs X es u)
  (hs:(bF (e::es) X.env).map (·.2)=cX e X.env::(bF es X.env).map (·.2):=by rfl):PGs X (e::es) (jk8 t u):=by
 intro pins s σ H vs us Q I r h;obtain⟨v,vr,e1,h⟩:=h;subst e1;cases r with
 |cons r rr =>rw[hs];refine assignInOrder_cons (thn (h1 pins s σ H _ _ _ I r h) λ_ s1 ⟨σ1,H1,I1,q1⟩=>?_);exact h2 pins s1 σ1 H1 _ _ Q I1 rr q1
def jlt(K:k8m)(n:Nat)(t:TGs):TG:=λv σ H Q=>∃a xs,v=.ref a/\SqT K H a xs/\xs.length=n/\t xs σ H Q
theorem jfk{es:List ao}{k:Nat}{t:TGs}{n:Nat}(hc:X.calm=a6)(h:PGs X es t)
  (hn:(bF es X.env).length=n:=by rfl) (hst:(bF es X.env).findIdx? (·.1)=a7:=by rfl):PG X (.Tuple es k pos) (jlt X.K n t):=by
 intro pins s σ H v u Q I r hw;obtain⟨a,xs,e1,hq,hl,hw⟩:=hw;subst e1;cases r;obtain⟨its,rv,ht,hz⟩:=I.tuple hq;refine assign_Tuple_tuple (I.ok.hd hc) ht (by simp[hn,<-hl,rv.length]) hst λh' hx=>?_;have I1:Inv X pins σ H { s with heap:=h' }:=I.kept (t':=s.toks) λb o e=>hx b o (Xd (X4 e)) e;exact h pins _ σ H xs _ Q I1 (by simpa using rv) hw
def jlu(to ti:TE)(t:j4j):TG:=λv σ H Q=>to σ H λo H1=>ti σ H1 λi H2=>t o i v H2 λH3=>Q σ H3
theorem jfl{o i:ao}{to ti:TE}{t:j4j}(ho:PE X o to)(hi:PE X i ti)(hs:jio X t)
  (ha:∀v,cX (.Subscript o i pos) X.env v=(do
   let ov <-bL [v] (aA o X.env)
   let iv <-bL [v,ov] (aA i X.env)
   g6 pos
   bL [v,ov,iv] (setItem ov iv v)
   release [v,ov,iv] []):=by intro _;rfl):PG X (.Subscript o i pos) (jlu to ti t):=by
 intro pins s σ H v u Q I r h;rw[ha];refine a5 (aT (thn (ho pins s σ H _ I h) λov s1 ⟨x,H1,I1,r1,q1⟩=>?_));refine a5 (aT (thn (hi pins s1 σ H1 _ I1 q1) λiv s2 ⟨y,H2,I2,r2,q2⟩=>?_));refine a5 (fL (a5 (aT (thn (hs pins s2 σ H2 x y v ov iv u _ I2 r1 r2 r q2) λ_ s3 ⟨H3,I3,q3⟩=>?_))));exact wpAny_release ⟨σ,H3,I3,q3⟩
def jeo(te:TE)(g:TG):TS:=λD σ H=>te σ H λx H1=>g x σ H1 D.nx
theorem j5b{tg e:ao}{te:TE}{g:TG}(he:PE X e te)(hg:PG X tg g)(hs:dX [tg] e pos.line X.env=pure a4:=by rfl)(hw:dY [tg] e X.env=pure a7:=by rfl)
  (h1:(bF [tg] X.env).map (·.2)=[cX tg X.env]:=by rfl):PS X (.Assign [tg] e pos) (jeo te g):=by
 intro pins s σ H D I h;refine wpAny_Assign_stores (thn (he pins s σ H _ I h) λv s1 ⟨x,H1,I1,r1,q1⟩=>?_) hs hw;rw[h1];exact thn (hg pins s1 σ H1 x v _ I1 r1 q1) λ_ s2 q=>q
theorem Ur{i:Nat}{x:aj}{e:ao}{te:TE}{pos':aO}(hN:X.N.Nodup)(hi:X.N[i]?=a3 x)(hx:Loc X.env.scope x)(he:PE X e te)(hs:aZ e (a3 (.Name x pos')) pos.line X.env=pure a4:=by rfl)(hf:X.fn x=a6\/X.env.scope.names.lookup x=a3 .local:=by first|exact .inl rfl|exact .inr rfl|assumption) :
  PS X (.Assign [.Name x pos'] e pos) (jeo te (jar i)):=by
 intro pins s σ H D I h;refine wpAny_Assign_Name (thn (he pins s σ H _ I h) λv s1 ⟨y,H1,I1,r1,q1⟩=>?_) hs;exact Eo I1 hN hi hx r1 (λs2 I2=>⟨_,H1,I2,q1⟩) hf
end
section
variable{X:Cx}{pos:aO}
end
structure It where
 go:Nat->Hp->Prop
 yld:Nat->Hp->V->Hp->Prop
 stop:Nat->Hp->Prop
def zm(X:Cx)(pins:k8o)(H:Hp)(b:aa):Prop :=
 H b=a7/\b≠X.env.locals/\b∉X.fs/\(b∈X.ex\/X.s₀.heap.objs.size<=b)/\(∀x c,X.env.cells.lookup x=a3 c->c≠b)/\∀p∈X.pn++pins,p.1≠b
theorem Inv.fpOk{X:Cx}{pins:k8o}{σ:St}{H H':Hp}{s:af}{b:aa}(I:Inv X pins σ H s)(hb:s.heap.objs.size<=b)(hn:H' b=a7):zm X pins H' b:=by
 refine⟨hn,Py (Xi I.lt hb),I.nofs hb,.inr (Xj I.sz hb),λx c e z=>?_,λp hp z=>?_⟩
 .obtain⟨v,q⟩:=I.cell x c e;exact absurd (Xi q.lt (by rw[z];exact hb)) (Xz _)
 .exact absurd (Xi (X4 (I.pin p hp).1) (by rw[z];exact hb)) (Xz _)
structure Turn(P:av)(w:az)(K:k8m)(tg:ao)(J:It)(fp:List aa)(it:aa)(tn:Nat->aD->Prop):Prop where
 mem:it∈fp
 obj:∀i h,tn i h->∀b∈fp,∃o,h.get? b=a3 o/\∀v,o.data≠.cell v
 keep:∀i h h',tn i h->(∀b∈fp,∀o,h.get? b=a3 o->h'.get? b=a3 o)->tn i h'
 item:∀(X:Cx),X.prog=P->X.w=w->X.K=K->X.calm=a6->∀(i:Nat)(pins:k8o) (s:af) (σ:St) (H:Hp) (E:k8n),Inv X pins σ H s->(∀b∈fp,zm X pins H b)->tn i s.heap->J.go i H ->
  aq (ay P w) X.A (ck (.ref it)) (λr s1=>∃u,r=a3 u /\
   aq (ay P w) X.A (eU tg (.ref it) u) (λ_ s2=>∃x H',Inv X pins σ H' s2/\RelV x u/\J.yld i H x H'/\tn (i+1) s2.heap/\∀b∈fp,H' b=a7) E s1) E s
 done:∀(X:Cx),X.prog=P->X.w=w->X.K=K->X.calm=a6->∀(i:Nat)(pins:k8o) (s:af) (σ:St) (H:Hp) (E:k8n),Inv X pins σ H s->(∀b∈fp,zm X pins H b)->tn i s.heap->J.stop i H ->
  aq (ay P w) X.A (ck (.ref it)) (λr s1=>r=a7/\Inv X pins σ H s1) E s
 self:∀(A:aC)(i:Nat)(s:af)(Q:k8n)(E:k8n),tn i s.heap->Q (.ref it) s->aq (ay P w) A (i4 (.ref it)) Q E s
abbrev TI:=St->Hp->(It->Hp->Prop)->Prop
def PIE(X:Cx)(pins:k8o)(σ:St)(tg:ao)(R:It->Hp->Prop)(itv:a8)(s2:af):Prop :=
 ∃(it:aa)(fp:List aa)(tn:Nat->aD->Prop)(J:It)(H':Hp),itv=.ref it/\Inv X pins σ H' s2/\Turn X.prog X.w X.K tg J fp it tn/\tn 0 s2.heap/\(∀b∈fp,zm X pins H' b)/\R J H'
def PI(X:Cx)(tg iter:ao)(wi:TI):Prop :=
 ∀(pins:k8o) (s:af) (σ:St) (H:Hp) (R:It->Hp->Prop),Inv X pins σ H s->wi σ H R ->
  aq (ay X.prog X.w) X.A (aA iter X.env) (λv s1=>aq (ay X.prog X.w) X.A (i4 v) (PIE X pins σ tg R) X.xe s1) X.xe s
theorem Iv{M:kC}{A:aC}{E:k8n}{s:af}{tg:ao}{it:aa}{u:a8}{o:dz}{n:String}{vs:Array a8}{Q:Unit->af->Prop}(ho:s.heap.get? it=a3 o)(hc:o.cls=.type n)(hd:o.data=.fields vs)
  (hn:["enumerate","zip","dict_itemiterator","dict_reverseitemiterator","odict_iterator","itertools.zip_longest","itertools.pairwise"].contains n=a4) (hQ:Q () s):aq M A (eU tg (.ref it) u) Q E s:=by
 unfold eU;cases tg<;>first
  |exact ah hQ
  |(cases u<;>first
    |exact ah hQ
    |(refine a5 (wpAny_load ho ?_);rw[hc,hd];show aq M A (if (["enumerate","zip","dict_itemiterator","dict_reverseitemiterator","odict_iterator","itertools.zip_longest","itertools.pairwise"].contains n&&vs[0]?==a3 (dZ _))=a6 then _ else _) Q E s;rw[if_neg (by intro h;rw[hn,gj]at h;cases h)];exact ah hQ))
noncomputable def Itl(K:k8m)(a:aa):It :=
 ⟨λi H=>∃xs x,SqL K H a xs/\xs[i]?=a3 x,λi H x H'=>H'=H/\∀xs,SqL K H a xs->xs[i]?=a3 x,λi H=>∃xs,SqL K H a xs/\xs.length<=i⟩
noncomputable def Itt(K:k8m)(a:aa):It :=
 ⟨λi H=>∃xs x,SqT K H a xs/\xs[i]?=a3 x,λi H x H'=>H'=H/\∀xs,SqT K H a xs->xs[i]?=a3 x,λi H=>∃xs,SqT K H a xs/\xs.length<=i⟩
noncomputable def Itr(lo:Int)(n:Nat):It:=⟨λi _=>i<n,λi H x H'=>H'=H/\x=.int (lo+i),λi _=>n<=i⟩
theorem j4q{P:av}{w:az}{K:k8m}{tg:ao}(a it:aa):Turn P w K tg (Itl K a) [it] it (λi h=>h.IsListIter it a i) where
 mem:=by simp
 obj:=λi h st b hb=>by
  have e:b=it:=by simpa using hb
  subst e;obtain⟨o,e,c,d⟩:=st;exact⟨o,e,λv z=>by rw[d]at z;cases z⟩
 keep:=λi h h' st k=>st.at λo e=>k it (by simp) o e
 item:=by intro X hP hw hK hc i pins s σ H E I hf st hg;subst hP hw hK;obtain⟨xs,x,hq,hx⟩:=hg;obtain⟨its,rv,p,hz⟩:=I.list hq;obtain⟨u,hu,ru⟩:=rv.get hx;obtain⟨f0,f1,f2,f3,f4,f5⟩:=hf it (by simp);refine bg st p.isList (x:=u) (by simpa using hu) λh' st' sb=>?_;have I1:Inv X pins σ H { s with heap:=h' }:=I.turned (t':=s.toks) (λb o hb e=>(sb.2 b hb).trans e) f0 f1 f3 f4 f5;obtain⟨o,e,c,d⟩:=id st';exact⟨u,rfl,Iv (s:={ s with heap:=h' }) e c d (by decide) ⟨x,H,I1,ru,⟨rfl,λys hy=>by rw[I.list_inj hy hq];exact hx⟩,st',λb hb=>(hf b hb).1⟩⟩
 done:=by intro X hP hw hK hc i pins s σ H E I hf st hg;subst hP hw hK;obtain⟨xs,hq,hx⟩:=hg;obtain⟨its,rv,p,hz⟩:=I.list hq;obtain⟨f0,f1,f2,f3,f4,f5⟩:=hf it (by simp);have hl:=rv.length;exact bX (I.ok.hd hc) st p.isList (by simp;omega) λh' eb=>⟨rfl,I.turned (t':=s.toks) (λb o hb e=>eb b o hb e) f0 f1 f3 f4 f5⟩
 self:=λ_ _ _ _ _ st h=>wpAny_pyIter_listiter st h
theorem j3i{P:av}{w:az}{K:k8m}{tg:ao}(a it:aa):Turn P w K tg (Itt K a) [it] it (λi h=>h.IsTupleIter it a i) where
 mem:=by simp
 obj:=λi h st b hb=>by
  have e:b=it:=by simpa using hb
  subst e;obtain⟨o,e,c,d⟩:=st;exact⟨o,e,λv z=>by rw[d]at z;cases z⟩
 keep:=λi h h' st k=>st.at λo e=>k it (by simp) o e
 item:=by intro X hP hw hK hc i pins s σ H E I hf st hg;subst hP hw hK;obtain⟨xs,x,hq,hx⟩:=hg;obtain⟨its,rv,p,hz⟩:=I.tuple hq;obtain⟨u,hu,ru⟩:=rv.get hx;obtain⟨f0,f1,f2,f3,f4,f5⟩:=hf it (by simp);refine wpAny_pyNext_tuple_item st (show s.heap.IsTuple a its.toArray from p) (x:=u) (by simpa using hu) λh' st' sb=>?_;have I1:Inv X pins σ H { s with heap:=h' }:=I.turned (t':=s.toks) (λb o hb e=>(sb.2 b hb).trans e) f0 f1 f3 f4 f5;obtain⟨o,e,c,d⟩:=id st';exact⟨u,rfl,Iv (s:={ s with heap:=h' }) e c d (by decide) ⟨x,H,I1,ru,⟨rfl,λys hy=>by rw[I.tuple_inj hy hq];exact hx⟩,st',λb hb=>(hf b hb).1⟩⟩
 done:=by intro X hP hw hK hc i pins s σ H E I hf st hg;subst hP hw hK;obtain⟨xs,hq,hx⟩:=hg;obtain⟨its,rv,p,hz⟩:=I.tuple hq;obtain⟨f0,f1,f2,f3,f4,f5⟩:=hf it (by simp);have hl:=rv.length;exact wpAny_pyNext_tuple_end (I.ok.hd hc) st (show s.heap.IsTuple a its.toArray from p) (by simp;omega) λh' eb=>⟨rfl,I.turned (t':=s.toks) (λb o hb e=>eb b o hb e) f0 f1 f3 f4 f5⟩
 self:=λ_ _ _ _ _ st h=>wpAny_pyIter_tupleiter st h
theorem j3j{P:av}{w:az}{K:k8m}{tg:ao}(it:aa)(lo:Int)(n:Nat):Turn P w K tg (Itr lo n) [it] it (λi h=>IsRangeIter h it (lo+(i:Nat)*1) ((n:Int)-(i:Nat)) 1) where
 mem:=by simp
 obj:=λi h st b hb=>by
  have e:b=it:=by simpa using hb
  subst e;exact⟨_,st,λv z=>by
   have z':Data.fields _=Data.cell v:=z
   cases z'⟩
 keep:=λi h h' st k=>k it (by simp) _ st
 item:=by intro X hP hw hK hc i pins s σ H E I hf st hg;subst hP hw hK;obtain⟨f0,f1,f2,f3,f4,f5⟩:=hf it (by simp);have W:=Walks.range (prog:=X.prog) (w:=X.w) (I.ok.hd hc) it lo 1 n;refine W.item i s _ _ hg st λv h' tk hv st' kk=>?_;obtain⟨t,rfl⟩:=hv;have I1:Inv X pins σ H { s with heap:=h',toks:=tk }:=I.turned (λb o hb e=>kk b o (by simpa using hb) e) f0 f1 f3 f4 f5;refine⟨_,rfl,Iv (s:={ s with heap:=h',toks:=tk }) (n:="range_iterator") st' rfl rfl (by decide) ⟨.int (lo+i),H,I1,⟨t,?_⟩,⟨rfl,rfl⟩,st',λb hb=>(hf b hb).1⟩⟩;rw[lN]
 done:=by intro X hP hw hK hc i pins s σ H E I hf st hg;subst hP hw hK;obtain⟨f0,f1,f2,f3,f4,f5⟩:=hf it (by simp);exact wpAny_pyNext_range_end (I.ok.hd hc) st (by have:n<=i:=hg;omega) λh' eb=>⟨rfl,I.turned (t':=s.toks) (λb o hb e=>eb b o hb e) f0 f1 f3 f4 f5⟩
 self:=λ_ _ _ _ _ st h=>wpAny_pyIter_rangeiter st h
section
variable{X:Cx}{tg:ao}
def jk5(K:k8m)(tl:TE):TI:=λσ H R=>tl σ H λx H1=>∃a,x=.ref a/\(∃xs,SqL K H1 a xs)/\R (Itl K a) H1
def jls(K:k8m)(tl:TE):TI:=λσ H R=>tl σ H λx H1=>∃a,x=.ref a/\(∃xs,SqT K H1 a xs)/\R (Itt K a) H1
theorem jca{l:ao}{tl:TE}(hl:PE X l tl):PI X tg l (jk5 X.K tl):=by
 intro pins s σ H R I h;refine thn (hl pins s σ H _ I h) λv s1 ⟨x,H1,I1,r1,q1⟩=>?_;obtain⟨a,e,⟨xs,hq⟩,q⟩:=q1;subst e;cases r1;obtain⟨its,rv,p,hz⟩:=I1.list hq;refine b8 p.isList ?_;refine⟨s1.heap.objs.size,[s1.heap.objs.size],_,_,H1,rfl,I1.kept (t':=s1.toks) λb o e=>km _ e,j4q a _,⟨_,xu _ rfl,rfl,rfl⟩,λb hb=>?_,q⟩;have e:b=s1.heap.objs.size:=by simpa using hb
 subst e;exact I1.fpOk (xx _) (I1.hok.fresh (xx _))
theorem jfj{l:ao}{tl:TE}(hl:PE X l tl):PI X tg l (jls X.K tl):=by
 intro pins s σ H R I h;refine thn (hl pins s σ H _ I h) λv s1 ⟨x,H1,I1,r1,q1⟩=>?_;obtain⟨a,e,⟨xs,hq⟩,q⟩:=q1;subst e;cases r1;obtain⟨its,rv,p,hz⟩:=I1.tuple hq;refine fP (show s1.heap.IsTuple a its.toArray from p) ?_;refine⟨s1.heap.objs.size,[s1.heap.objs.size],_,_,H1,rfl,I1.kept (t':=s1.toks) λb o e=>km _ e,j3i a _,⟨_,xu _ rfl,rfl,rfl⟩,λb hb=>?_,q⟩;have e:b=s1.heap.objs.size:=by simpa using hb
 subst e;exact I1.fpOk (xx _) (I1.hok.fresh (xx _))
theorem j06{pins:k8o}{σ:St}{H:Hp}{s:af}{R:It->Hp->Prop}{E:k8n}{lo hi:Int}{t u v:gO}{tk:Nat}(I:Inv X pins σ H s)(h1:-(2^62)<=lo)(h2:lo<2^62)(h3:-(2^62)<=hi)(h4:hi<2^62)
  (q:R (Itr lo (hi-lo).toNat) H):aq (ay X.prog X.w) X.A (i4 (.ref s.heap.objs.size)) (PIE X pins σ tg R) E { s with heap:=s.heap.push { cls:=.type "range",data:=.fields #[.int lo t,.int hi u,.int 1 v] },toks:=tk }:=by
 refine wpAny_pyIter_range (IsRange.new ..) (small_one h1 h2 h3 h4) ?_;have I1:Inv X pins σ H { s with heap:=s.heap.push { cls:=.type "range",data:=.fields #[.int lo t,.int hi u,.int 1 v] },toks:=tk }:=I.kept λb o e=>km _ e;refine⟨(s.heap.push { cls:=.type "range",data:=.fields #[.int lo t,.int hi u,.int 1 v] }).objs.size,[(s.heap.push { cls:=.type "range",data:=.fields #[.int lo t,.int hi u,.int 1 v] }).objs.size],_,_,H,rfl,
  I1.kept (t':=tk) λb o e=>km _ e,j3j _ lo (hi-lo).toNat,?_,λb hb=>?_,q⟩
 .have e1:lo+((0:Nat):Int)*1=lo:=by simp
  have e2:(((hi-lo).toNat:Nat):Int)-((0:Nat):Int)=Builtin.Range.rangeSize lo hi 1:=by rw[rangeSize_one];split<;>omega
  show IsRangeIter _ _ (lo+((0:Nat):Int)*1) ((((hi-lo).toNat:Nat):Int)-((0:Nat):Int)) 1;rw[e1,e2];exact xu _ rfl
 .have e:b=(s.heap.push { cls:=.type "range",data:=.fields #[.int lo t,.int hi u,.int 1 v] }).objs.size:=by simpa using hb
  subst e;exact I1.fpOk (xx _) (I1.hok.fresh (xx _))
def jk4(ta:TA):TI:=λσ H R=>ta σ H λvs H1=>∃j:Int,vs=[.int j]/\-(2^62)<=j/\j<2^62/\R (Itr 0 j.toNat) H1
def jk3(ta:TA):TI:=λσ H R=>ta σ H λvs H1=>∃i j:Int,vs=[.int i,.int j]/\(-(2^62)<=i/\i<2^62/\-(2^62)<=j/\j<2^62)/\R (Itr i (j-i).toNat) H1
theorem j5i {a:ao} {ta:TA} {p pos:aO} (hg:Gl X "range") (hm:X.mg "range" = a7) (ha:PA X [a] ta) (hs:a9 [a] X.env=[(a4,aA a X.env)]:=by rfl):PI X tg (.Call (.Name "range" p) [a] [] pos) (jk4 ta):=by
 intro pins s σ H R I h;refine Call_ (Jq I hg hm boot_range (callWith_type1 (thn (ha pos pins s σ H _ I h) λus s1 ⟨vs,H1,I1,r1,q1⟩=>?_) hs rfl));obtain⟨j,e,q1,q2,q⟩:=q1;subst e;cases r1 with
 |cons r rr =>cases rr;obtain⟨t,rfl⟩:=r;exact call_range_1 (j06 I1 nofun nofun q1 q2 (by simpa using q))
theorem j5h {a b:ao} {ta:TA} {p pos:aO} (hg:Gl X "range") (hm:X.mg "range" = a7) (ha:PA X [a,b] ta) (hs:a9 [a,b] X.env=[(a4,aA a X.env),(a4,aA b X.env)]:=by rfl) (hs2:a9 [b] X.env=[(a4,aA b X.env)]:=by rfl) :
  PI X tg (.Call (.Name "range" p) [a,b] [] pos) (jk3 ta):=by
 intro pins s σ H R I h;refine Call_ (Jq I hg hm boot_range (callWith_type1 (thn (ha pos pins s σ H _ I h) λus s1 ⟨vs,H1,I1,r1,q1⟩=>?_) (by rw[hs,hs2]) (by rw[hs2];rfl)));obtain⟨i,j,e,⟨q1,q2,q3,q4⟩,q⟩:=q1;subst e;cases r1 with
 |cons r rr =>
  cases rr with
  |cons r' rr =>cases rr;obtain⟨t,rfl⟩:=r;obtain⟨t',rfl⟩:=r';exact call_range_2 (j06 I1 q1 q2 q3 q4 q)
def jle(wi:TI)(g:TG)(tb:TS):TS:=λD σ H=>wi σ H λJ H1=>∃W:Nat->Nat->St->Hp->Prop,(∃m,W 0 m σ H1)/\∀i m σ H,W i m σ H ->
 (J.stop i H/\D.nx σ H)\/(J.go i H/\∃N:St->Hp->Prop,(∀σ' H',N σ' H'->∃m',m'<m/\W (i+1) m' σ' H')/\∀x H',J.yld i H x H'->g x σ H' λσ2 H2=>tb { D with nx:=N,ct:=N,bk:=D.nx } σ2 H2)
noncomputable def Yk(fp:List aa)(h:aD):List (aa×dz):=fp.filterMap λb=>(h.get? b).map λo=>(b,o)
theorem v9{fp:List aa}{h:aD}{b:aa}{o:dz}(hb:b∈fp)(e:h.get? b=a3 o):(b,o)∈Yk fp h:=Tg.mpr ⟨b,hb,by rw[e];rfl⟩
theorem K5{fp:List aa}{h:aD}{p:aa×dz}(hp:p∈Yk fp h):p.1∈fp/\h.get? p.1=a3 p.2:=by
 obtain⟨b,hb,e⟩:=Tg.mp hp;cases q:h.get? b with
 |none=>rw[q]at e;cases e
 |some o =>rw[q]at e;have e':(b,o)=p:=aw e;subst e';exact⟨hb,q⟩
theorem Inv.pinned{pins:k8o}{σ:St}{H:Hp}{s:af}{fp:List aa}(I:Inv X pins σ H s)(hf:∀b∈fp,zm X pins H b)(ho:∀b∈fp,∃o,s.heap.get? b=a3 o/\∀v,o.data≠.cell v):Inv X (pins++Yk fp s.heap) σ H s :=
 I.pins_of λp hp=>(Xy.mp hp).elim (λz=>I.pin p (Xb _ z)) λz=>by obtain⟨hb,e⟩:=K5 z;obtain⟨f0,f1,f2,_⟩:=hf p.1 hb;obtain⟨o,e',d⟩:=ho p.1 hb;rw[e]at e';cases e';exact⟨e,f0,f1,f2,d⟩
theorem Inv.unpinned{pins pl:k8o}{σ:St}{H:Hp}{s:af}(I:Inv X (pins++pl) σ H s):Inv X pins σ H s:=I.pins_of λp hp=>I.pin p (Xb _ (Xv _ hp))
theorem j5a{iter:ao}{body:List bp}{wi:TI}{g:TG}{tb:TS}{pos:aO}(hp:gw (ay X.prog X.w) X.A X.env X.xe)(hc:X.calm=a6)(hi:PI X tg iter wi)(hg:PG X tg g)(hb:PSs X body tb)
  (hs:∀x,aH iter X.env x=pure x:=by intro _;rfl):PS X (.For tg iter body [] pos) (jle wi g tb):=by
 intro pins s σ H D I h;refine wpAny_For (thn (hi pins s σ H _ I h) λv s1 h1=>thn h1 λitv s2 h2=>?_) hs;obtain⟨it,fp,tn,J,H2,e,I2,T,st2,f2,W,⟨m0,w0⟩,turn⟩:=h2;subst e;have stat:∀{H':Hp},(∀b∈fp,H' b=a7)->∀b∈fp,zm X pins H' b:=λhn b hb=>⟨hn b hb,(f2 b hb).2⟩
 refine codeAny_forLoop_any (λn s'=>∃i σ' H',Inv X pins σ' H' s'/\tn i s'.heap/\(∀b∈fp,H' b=a7)/\W i n σ' H') ?_ m0 ⟨0,σ,H2,I2,st2,λb hb=>(f2 b hb).1,w0⟩;rintro n s3 ⟨i,σ3,H3,I3,st3,fr3,w3⟩;rcases turn i n σ3 H3 w3 with ⟨stop,qn⟩|⟨go,N,hN,step⟩
 .refine dn hp (thn (T.done X rfl rfl rfl hc i pins s3 σ3 H3 X.xe I3 (stat fr3) st3 stop) λr s4 ⟨hr,I4⟩=>?_);subst hr;exact gK ⟨σ3,H3,I4,qn⟩
 .refine dn hp (thn (T.item X rfl rfl rfl hc i pins s3 σ3 H3 X.xe I3 (stat fr3) st3 go) λr s4 ⟨u,hr,h4⟩=>?_);subst hr;refine dn hp (thn h4 λ_ s5 ⟨x,H5,I5,r5,y5,st5,fr5⟩=>?_);have I5':=I5.pinned (stat fr5) (T.obj _ _ st5);refine dn hp (thn (hg _ s5 σ3 H5 x u _ I5' r5 (step x H5 y5)) λ_ s6 ⟨σ6,H6,I6,q6⟩=>?_);refine dn hp (thn (hb _ s6 σ6 H6 _ I6 q6) λf s7 q7=>?_);have iI:∀{σ7:St}{H7:Hp},Inv X (pins++Yk fp s5.heap) σ7 H7 s7->N σ7 H7->∃m,m<n/\∃i σ' H',Inv X pins σ' H' s7/\tn i s7.heap/\(∀b∈fp,H' b=a7)/\W i m σ' H':=λ{σ7 H7} I7 n7=>by obtain⟨m',hm,w7⟩:=hN σ7 H7 n7;refine⟨m',hm,i+1,σ7,H7,I7.unpinned,T.keep _ _ _ st5 λb hb o e=>(I7.pin (b,o) (Xb _ (Xb _ (v9 hb e)))).1,λb hb=>?_,w7⟩;obtain⟨o,e,d⟩:=T.obj _ _ st5 b hb;exact(I7.pin (b,o) (Xb _ (Xb _ (v9 hb e)))).2.1
  cases f with
  |next=>obtain⟨σ7,H7,I7,n7⟩:=q7;exact iI I7 n7
  |cont=>obtain⟨σ7,H7,I7,n7⟩:=q7;exact iI I7 n7
  |brk=>obtain⟨σ7,H7,I7,q7⟩:=q7;exact⟨σ7,H7,I7.unpinned,q7⟩
  |ret v=>obtain⟨x7,σ7,H7,H8,I7,r7,x8,q7⟩:=q7;exact⟨x7,σ7,H7,H8,I7.unpinned,r7,x8,q7⟩
end
abbrev R2:=V->V->Hp->VK->Prop
def OpR(X:Cx)(f:a8->a8->mi a8)(r:R2):Prop :=
 ∀(pins:k8o) (s:af) (σ:St) (H:Hp) (x y:V) (v u:a8) (Q:VK),Inv X pins σ H s->RelV x v->RelV y u->r x y H Q ->
  aq (ay X.prog X.w) X.A (f v u) (EP X pins σ Q) X.xe s
def UnR(X:Cx)(f:a8->mi a8)(r:V->Hp->VK->Prop):Prop :=
 ∀(pins:k8o) (s:af) (σ:St) (H:Hp) (x:V) (v:a8) (Q:VK),Inv X pins σ H s->RelV x v->r x H Q ->
  aq (ay X.prog X.w) X.A (f v) (EP X pins σ Q) X.xe s
def Jk(X:Cx)(f:a8)(r:List V->Hp->VK->Prop):Prop :=
 ∀(pins:k8o) (s:af) (σ:St) (H:Hp) (xs:List V) (us:List a8) (Q:VK),Inv X pins σ H s->Vals xs us->r xs H Q ->
  aq (ay X.prog X.w) X.A (call f us) (EP X pins σ Q) X.xe s
def tOp(r:R2)(ta tb:TE):TE:=λσ H Q=>ta σ H λx H1=>tb σ H1 λy H2=>r x y H2 Q
def tUn(r:V->Hp->VK->Prop)(ta:TE):TE:=λσ H Q=>ta σ H λx H1=>r x H1 Q
def rI(C:Int->Int->Prop)(g:Int->Int->V):R2:=λx y H Q=>∃i j,x=.int i/\y=.int j/\C i j/\Q (g i j) H
def rI0(g:Int->Int->V):R2:=λx y H Q=>∃i j,x=.int i/\y=.int j/\Q (g i j) H
def rU(g:Int->V):V->Hp->VK->Prop:=λx H Q=>∃i,x=.int i/\Q (g i) H
section
variable{X:Cx}{a b c:ao}{ta tb tc:TE}{pos:aO}
theorem j9t(ha:PE X a ta)(hb:PE X b tb){pins:k8o}{s:af}{σ:St}{H:Hp}{R:V->V->Hp->Prop}(I:Inv X pins σ H s)
  (h:ta σ H λx H1=>tb σ H1 λy H2=>R x y H2) {Q:k8n} {f:a8->a8->mi a8}
  (hf:∀v u s2 x y H2,Inv X pins σ H2 s2->RelV x v->RelV y u->R x y H2->aq (ay X.prog X.w) X.A (f v u) Q X.xe s2) :
  aq (ay X.prog X.w) X.A (aA a X.env) (λv s₁=>aq (ay X.prog X.w) X.A (aA b X.env) (λu s₂=>aq (ay X.prog X.w) X.A (f v u) Q X.xe s₂) X.xe s₁) X.xe s:=by
 refine thn (ha pins s σ H _ I h) λv s1 ⟨x,H1,I1,r1,q1⟩=>?_;refine thn (hb pins s1 σ H1 _ I1 q1) λu s2 ⟨y,H2,I2,r2,q2⟩=>?_;exact hf v u s2 x y H2 I2 r1 r2 q2
theorem U5{op:jO}{r:R2}(ho:OpR X (bj op) r)(ha:PE X a ta)(hb:PE X b tb):PE X (.BinOp a op b pos) (tOp r ta tb):=by intro pins s σ H Q I h;exact wpAny_BinOp (j9t ha hb I h λv u s2 x y H2 I2 rx ry q=>ho pins s2 σ H2 x y v u Q I2 rx ry q)
theorem jjj{op:UnaryOp}{r:V->Hp->VK->Prop}(ho:UnR X (unaryOp op) r)(ha:PE X a ta):PE X (.UnaryOp op a pos) (tUn r ta):=by intro pins s σ H Q I h;exact UnaryOp_ (thn (ha pins s σ H _ I h) λv s1 ⟨x,H1,I1,r1,q1⟩=>ho pins s1 σ H1 x v Q I1 r1 q1)
theorem opI{f:a8->a8->mi a8}{C:Int->Int->Prop}{g:Int->Int->Int}
  (kc:∀(i j:Int)(t u:gO)(s:af)(Q:k8n)(E:k8n),C i j->Q (.int (g i j) s.toks) { s with toks:=s.toks+1 }->aq (ay X.prog X.w) X.A (f (.int i t) (.int j u)) Q E s) :
  OpR X f (rI C λi j=>.int (g i j)):=by
 intro pins s σ H x y v u Q I rx ry h;obtain⟨i,j,rfl,rfl,hc,q⟩:=h;obtain⟨t,rfl⟩:=rx;obtain⟨t',rfl⟩:=ry;exact kc i j t t' s _ _ hc ⟨.int (g i j),H,I.tok _,⟨_,rfl⟩,q⟩
theorem j3x{f:a8->a8->mi a8}{g:Int->Int->Int}
  (kc:∀(i j:Int)(t u:gO)(s:af)(Q:k8n)(E:k8n),Q (.int (g i j) s.toks) { s with toks:=s.toks+1 }->aq (ay X.prog X.w) X.A (f (.int i t) (.int j u)) Q E s) :
  OpR X f (rI0 λi j=>.int (g i j)):=by
 intro pins s σ H x y v u Q I rx ry h;obtain⟨i,j,rfl,rfl,q⟩:=h;obtain⟨t,rfl⟩:=rx;obtain⟨t',rfl⟩:=ry;exact kc i j t t' s _ _ ⟨.int (g i j),H,I.tok _,⟨_,rfl⟩,q⟩
theorem j3y{f:a8->a8->mi a8}{g:Int->Int->Bool}
  (kc:∀(i j:Int)(t u:gO)(s:af)(Q:k8n)(E:k8n),Q (.bool (g i j)) s->aq (ay X.prog X.w) X.A (f (.int i t) (.int j u)) Q E s) :
  OpR X f (rI0 λi j=>.bl (g i j)):=by
 intro pins s σ H x y v u Q I rx ry h;obtain⟨i,j,rfl,rfl,q⟩:=h;obtain⟨t,rfl⟩:=rx;obtain⟨t',rfl⟩:=ry;exact kc i j t t' s _ _ ⟨.bl (g i j),H,I,rfl,q⟩
def j4n(i j:Int):Prop:=0<=j/\j<=1000000/\i.natAbs<2^64
def j4o(i j:Int):Prop:=(-(2^64)<i/\i<2^64)\/(-(2^64)<j/\j<2^64)
theorem j4o.ok{i j:Int}(h:j4o i j):IntMulOk i j:=by
 rcases h with ⟨h1,h2⟩|⟨h1,h2⟩
 .exact .of_left (md h1 h2)
 .exact .of_right (md h1 h2)
theorem j3h(k:Nat):(0:Int)<=2^k:=by rw[two_pow_cast];exact Int.natCast_nonneg _
theorem jfy:OpR X (bj .Add) (rI0 λi j=>.int (i+j)):=j3x λ_ _ _ _ _ _ _ q=>add_int q
theorem jfq:OpR X (bj .Sub) (rI0 λi j=>.int (i-j)):=j3x λ_ _ _ _ _ _ _ q=>sub_int q
theorem jfv:OpR X (bj .Mult) (rI j4o λi j=>.int (i*j)):=opI λ_ _ _ _ _ _ _ hc q=>mul_int q hc.ok
theorem jfw:OpR X (bj .Mod) (rI (λ_ j=>0<j) λi j=>.int (i%j)):=opI λi j _ _ _ _ _ hc q=>by have h1:(0:Int)<j:=hc;exact mod_int' nofun (by rw[Int.fmod_eq_emod_of_nonneg i nofun];exact q)
theorem jfu:OpR X (bj .Pow) (rI j4n λi j=>.int (i^j.toNat)):=opI λ_ _ _ _ _ _ _ hc q=>pow_int_small hc.1 hc.2.1 hc.2.2 q
theorem jfs:OpR X (bj .LShift) (rI j4n λi j=>.int (i*2^j.toNat)):=opI λ_ _ _ _ _ _ _ hc q=>lshift_int_small hc.1 hc.2.1 hc.2.2 q
theorem jfr:OpR X (bj .RShift) (rI (λ_ j=>0<=j) λi j=>.int (i/2^j.toNat)):=opI λi j _ _ _ _ _ hc q =>rshift_int hc (by rw[gy i (j3h _)];exact q)
theorem jfx:OpR X (bj .BitAnd) (rI0 λi j=>.int (cf i j)):=j3x λ_ _ _ _ _ _ _ q=>and_int q
theorem jfp:OpR X (bj .BitXor) (rI0 λi j=>.int (iQ i j)):=j3x λ_ _ _ _ _ _ _ q=>xor_int q
theorem unI{f:a8->mi a8}{g:Int->Int}
  (kc:∀(i:Int)(t:gO)(s:af)(Q:k8n)(E:k8n),Q (.int (g i) s.toks) { s with toks:=s.toks+1 }->aq (ay X.prog X.w) X.A (f (.int i t)) Q E s) :
  UnR X f (rU λi=>.int (g i)):=by
 intro pins s σ H x v Q I rx h;obtain⟨i,rfl,q⟩:=h;obtain⟨t,rfl⟩:=rx;exact kc i t s _ _ ⟨.int (g i),H,I.tok _,⟨_,rfl⟩,q⟩
theorem jeh:UnR X (unaryOp .USub) (rU λi=>.int (-i)):=unI λ_ _ _ _ _ q=>neg_int q
end
noncomputable def Dk:V->V->Bool
 |.non,.non=>a6|.non,.int _=>a6|.int _,.non=>a6|.non,.bl _=>a6|.bl _,.non=>a6|.non,.str _=>a6|.str _,.non=>a6
 |.int _,.int _=>a6|.bl _,.bl _=>a6|.str _,.str _=>a6|.byt _,.byt _=>a6
 |.int _,.str _=>a6|.str _,.int _=>a6|.bl _,.str _=>a6|.str _,.bl _=>a6
 |_,_=>a4
def rEq:R2:=λx y H Q=>Dk x y=a6/\Q (.bl (decide (x=y))) H
def rNe:R2:=λx y H Q=>Dk x y=a6/\Q (.bl (!decide (x=y))) H
theorem j36{i j:Int}:decide (V.int i=V.int j)=(i==j):=by rw[eC];simp
theorem j6q{i j:Bool}:decide (V.bl i=V.bl j)=(i==j):=by rw[eC];simp
theorem j35{i j:aj}:decide (V.str i=V.str j)=(i==j):=by rw[eC];simp
theorem j37{i j:Array UInt8}:decide (V.byt i=V.byt j)=(i.toList==j.toList):=by rw[eC];cases i;cases j;simp
section
variable{X:Cx}{a b c:ao}{ta tb tc:TE}{pos:aO}
theorem ju{pins:k8o}{σ:St}{H:Hp}{s:af}{Q:VK}{k k':Bool}(I:Inv X pins σ H s)(q:Q (.bl k) H)(e:k=k'):EP X pins σ Q (.bool k') s:=by subst e;exact⟨.bl k,H,I,rfl,q⟩
theorem jaj:OpR X (aR .Eq) rEq:=by
 intro pins s σ H x y v u Q I rx ry h;obtain⟨hs,q⟩:=h;cases x with
 |non =>
  cases rx;cases y with
  |non=>cases ry;exact lD (ju I q (by simp))
  |bl j=>cases ry;exact lF (ju I q (by simp))
  |int j=>obtain⟨t',rfl⟩:=ry;exact lE (ju I q (by simp))
  |str j=>obtain⟨t',rfl⟩:=ry;exact lC (ju I q (by simp))
  |_=>exact absurd (show a4=a6 from hs) xm
 |bl i =>
  cases rx;cases y with
  |non=>cases ry;exact lH (ju I q (by simp))
  |bl j=>cases ry;exact eq_bool (ju I q j6q)
  |str j=>obtain⟨t',rfl⟩:=ry;exact kR (ju I q (by simp))
  |_=>exact absurd (show a4=a6 from hs) xm
 |int i =>
  obtain⟨t,rfl⟩:=rx;cases y with
  |non=>cases ry;exact lG (ju I q (by simp))
  |int j=>obtain⟨t',rfl⟩:=ry;exact eq_int (ju I q j36)
  |str j=>obtain⟨t',rfl⟩:=ry;exact kQ (ju I q (by simp))
  |_=>exact absurd (show a4=a6 from hs) xm
 |str i =>
  obtain⟨t,rfl⟩:=rx;cases y with
  |non=>cases ry;exact lB (ju I q (by simp))
  |bl j=>cases ry;exact kP (ju I q (by simp))
  |int j=>obtain⟨t',rfl⟩:=ry;exact kO (ju I q (by simp))
  |str j=>obtain⟨t',rfl⟩:=ry;exact eq_str (ju I q j35)
  |_=>exact absurd (show a4=a6 from hs) xm
 |byt i =>
  obtain⟨t,rfl⟩:=rx;cases y with
  |byt j=>obtain⟨t',rfl⟩:=ry;exact W.eq_bytes (ju I q j37)
  |_=>exact absurd (show a4=a6 from hs) xm
 |_=>cases y<;>exact absurd (show a4=a6 from hs) xm
theorem jaf:OpR X (aR .NotEq) rNe:=by
 intro pins s σ H x y v u Q I rx ry h;obtain⟨hs,q⟩:=h;cases x with
 |non =>
  cases rx;cases y with
  |non=>cases ry;exact lj (ju I q (by simp))
  |bl j=>cases ry;exact lr (ju I q (by simp))
  |int j=>obtain⟨t',rfl⟩:=ry;exact lq (ju I q (by simp))
  |str j=>obtain⟨t',rfl⟩:=ry;exact lh (ju I q (by simp))
  |_=>exact absurd (show a4=a6 from hs) xm
 |bl i =>
  cases rx;cases y with
  |non=>cases ry;exact lA (ju I q (by simp))
  |bl j=>cases ry;exact ne_bool (ju I q (congrArg not j6q))
  |str j=>obtain⟨t',rfl⟩:=ry;exact kN (ju I q (by simp))
  |_=>exact absurd (show a4=a6 from hs) xm
 |int i =>
  obtain⟨t,rfl⟩:=rx;cases y with
  |non=>cases ry;exact lz (ju I q (by simp))
  |int j=>obtain⟨t',rfl⟩:=ry;exact ne_int (ju I q (congrArg not j36))
  |str j=>obtain⟨t',rfl⟩:=ry;exact kM (ju I q (by simp))
  |_=>exact absurd (show a4=a6 from hs) xm
 |str i =>
  obtain⟨t,rfl⟩:=rx;cases y with
  |non=>cases ry;exact l9 (ju I q (by simp))
  |bl j=>cases ry;exact kL (ju I q (by simp))
  |int j=>obtain⟨t',rfl⟩:=ry;exact kK (ju I q (by simp))
  |str j=>obtain⟨t',rfl⟩:=ry;exact ne_str (ju I q (congrArg not j35))
  |_=>exact absurd (show a4=a6 from hs) xm
 |byt i =>
  obtain⟨t,rfl⟩:=rx;cases y with
  |byt j=>obtain⟨t',rfl⟩:=ry;exact W.ne_bytes (ju I q (congrArg not j37))
  |_=>exact absurd (show a4=a6 from hs) xm
 |_=>cases y<;>exact absurd (show a4=a6 from hs) xm
theorem jag:OpR X (aR .Lt) (rI0 λi j=>.bl (decide (i<j))):=j3y λ_ _ _ _ _ _ _ q=>lt_int q
theorem Io:OpR X (aR .LtE) (rI0 λi j=>.bl (decide (i<=j))):=j3y λ_ _ _ _ _ _ _ q=>le_int q
theorem jah:OpR X (aR .Gt) (rI0 λi j=>.bl (decide (j<i))):=j3y λ_ _ _ _ _ _ _ q=>gt_int q
theorem jai:OpR X (aR .GtE) (rI0 λi j=>.bl (decide (j<=i))):=j3y λ_ _ _ _ _ _ _ q=>ge_int q
theorem K1:OpR X (aR .Lt) (λx y H Q=>∃i j,x=.str i/\y=.str j/\Q (.bl (decide (i.cps.toList<j.cps.toList))) H):=by intro pins s σ H x y v u Q I rx ry h;obtain⟨i,j,rfl,rfl,q⟩:=h;obtain⟨t,rfl⟩:=rx;obtain⟨t',rfl⟩:=ry;exact lt_str (ju I q rfl)
theorem K3:OpR X (aR .In) (λx y H Q=>∃i j,x=.str i/\y=.str j/\Q (.bl (!(fK j i 0 j.length 1).isEmpty)) H):=by intro pins s σ H x y v u Q I rx ry h;obtain⟨i,j,rfl,rfl,q⟩:=h;obtain⟨t,rfl⟩:=rx;obtain⟨t',rfl⟩:=ry;exact in_str (ju I q rfl)
theorem j2n:OpR X (aR .IsNot) (λx y H Q=>y=.non/\Q (.bl (!decide (x=.non))) H):=by
 intro pins s σ H x y v u Q I rx ry h;obtain⟨rfl,q⟩:=h;cases ry;refine isnot_none_gen (ju I q ?_);cases x<;>first
  |(cases rx;rfl)
  |(obtain⟨t,rfl⟩:=rx;rfl)
theorem za(b:ao){op:gc}(h:op≠.In:=by decide)(h2:op≠.NotIn:=by decide):aG op b=a4:=by
 have e1:(op==CmpOp.In)=a4:=by cases op<;>first|rfl|exact absurd rfl h
 have e2:(op==CmpOp.NotIn)=a4:=by cases op<;>first|rfl|exact absurd rfl h2
 cases b<;>simp[aG,e1,e2]
theorem Jm{op:gc}{r:R2}(ho:OpR X (aR op) r)(ha:PE X a ta)(hb:PE X b tb)(hm:aG op b=a4):PE X (.Compare a [op] [b] pos) (tOp r ta tb):=by intro pins s σ H Q I h;exact lU (j9t ha hb I h λv u s2 x y H2 I2 rx ry q=>ho pins s2 σ H2 x y v u Q I2 rx ry q) hm
def jiv(t:TE):TT:=λσ H Q=>t σ H λx H'=>∃k,x=.bl k/\Q k H'
theorem Jl{op:gc}{r:R2}(ho:OpR X (aR op) r)(ha:PE X a ta)(hb:PE X b tb)(hm:aG op b=a4):PT X (.Compare a [op] [b] pos) (jiv (tOp r ta tb)):=by
 intro pins s σ H Q I h;refine jC (thn (ha pins s σ H _ I h) λv s1 ⟨x,H1,I1,r1,q1⟩=>thn (hb pins s1 σ H1 _ I1 q1) λu s2 ⟨y,H2,I2,r2,q2⟩ =>
  thn (ho pins s2 σ H2 x y v u _ I2 r1 r2 q2) λc s3 ⟨z,H3,I3,r3,k,e,q3⟩=>?_) hm
 subst e;cases r3;exact b7 ⟨H3,I3,q3⟩
def jen(r r':R2)(ta tb tc:TE):TE:=λσ H Q=>ta σ H λx H1=>tb σ H1 λy H2=>r x y H2 λz H3=>∃k,z=.bl k /\
 (if k=a6 then tc σ H3 λw' H4=>r' y w' H4 Q else Q (.bl a4) H3)
theorem j88{op op':gc}{r r':R2}(ho:OpR X (aR op) r)(ho':OpR X (aR op') r')(ha:PE X a ta)(hb:PE X b tb)(hc:PE X c tc)
  (hm:kY [op,op'] [b,c]=a4:=by with_unfolding_all rfl):PE X (.Compare a [op,op'] [b,c] pos) (jen r r' ta tb tc):=by
 intro pins s σ H Q I h;refine Compare_chain (thn (ha pins s σ H _ I h) λv s1 ⟨x,H1,I1,r1,q1⟩=>chain_link (thn (hb pins s1 σ H1 _ I1 q1) λu s2 ⟨y,H2,I2,r2,q2⟩ =>
  thn (ho pins s2 σ H2 x y v u _ I2 r1 r2 q2) λd s3 ⟨z,H3,I3,r3,k,e,q3⟩=>?_)) hm
 subst e;cases r3;refine b7 ?_;cases k with
 |false=>exact ite_ff ⟨.bl a4,H3,I3,rfl,q3⟩
 |true=>exact ite_tt (chain_last (thn (hc pins s3 σ H3 _ I3 q3) λw' s4 ⟨z',H4,I4,r4,q4⟩=>ho' pins s4 σ H4 y z' u w' Q I4 r2 r4 q4))
theorem Ut:(ar:Nat)<2^63:=by rw[jJ];decide
theorem j3w:OpR X (bj .Add) (λx y H Q=>∃i j,x=.str i/\y=.str j/\i.length+j.length<=ar/\Q (.str (i++j)) H):=by intro pins s σ H x y v u Q I rx ry h;obtain⟨i,j,rfl,rfl,hz,q⟩:=h;obtain⟨t,rfl⟩:=rx;obtain⟨t',rfl⟩:=ry;exact add_str (λt' tk=>⟨.str (i++j),H,I.tok _,⟨_,rfl⟩,q⟩) hz
theorem vals1{x:V}{us:List a8}(r:Vals [x] us):∃u,us=[u]/\RelV x u:=by
 cases r with
 |cons r1 r2=>cases r2;exact⟨_,rfl,r1⟩
theorem vals2{x y:V}{us:List a8}(r:Vals [x,y] us):∃u w',us=[u,w']/\RelV x u/\RelV y w':=by
 cases r with
 |cons r1 r2 =>
  cases r2 with
  |cons r3 r4=>cases r4;exact⟨_,_,rfl,r1,r3⟩
theorem j79 (hc:X.calm=a6):Jk X (.builtin "max") (λxs H Q=>∃i j,xs=[.int i,.int j]/\Q (.int (if j>i then j else i)) H):=by
 intro pins s σ H xs us Q I r h;obtain⟨i,j,rfl,q⟩:=h;obtain⟨u,w',rfl,⟨t,rfl⟩,⟨t',rfl⟩⟩:=vals2 r;refine max_two_ints (I.ok.hd hc) λh' tk k=>⟨_,H,I.kept k,?_,q⟩
 by_cases hj:j>i
 .rw[if_pos hj,if_pos hj];exact⟨_,rfl⟩
 .rw[if_neg hj,if_neg hj];exact⟨_,rfl⟩
theorem j77 (hc:X.calm=a6):Jk X (.builtin "min") (λxs H Q=>∃i j,xs=[.int i,.int j]/\Q (.int (if j<i then j else i)) H):=by
 intro pins s σ H xs us Q I r h;obtain⟨i,j,rfl,q⟩:=h;obtain⟨u,w',rfl,⟨t,rfl⟩,⟨t',rfl⟩⟩:=vals2 r;refine min_two_ints (I.ok.hd hc) λh' tk k=>⟨_,H,I.kept k,?_,q⟩
 by_cases hj:j<i
 .rw[if_pos hj,if_pos hj];exact⟨_,rfl⟩
 .rw[if_neg hj,if_neg hj];exact⟨_,rfl⟩
theorem j7c:Jk X (.type "int") (λxs H Q=>(∃i,xs=[.int i]/\Q (.int i) H)\/∃k,xs=[.bl k]/\Q (.int (if k then 1 else 0)) H):=by
 intro pins s σ H xs us Q I r h;rcases h with ⟨i,rfl,q⟩|⟨k,rfl,q⟩
 .obtain⟨u,rfl,t,rfl⟩:=vals1 r;exact call_int_int ⟨.int i,H,I,⟨_,rfl⟩,q⟩
 .obtain⟨u,rfl,r1⟩:=vals1 r;cases r1;exact call_int_bool ⟨.int (if k then 1 else 0),H,I.tok _,⟨_,rfl⟩,q⟩
end
structure ObjM(h:aD)(x dx C:aa)(mA:k8p):Prop where
 obj:h.get? x=a3 (W.instObj C dx)
 ns:h.Ns1 dx mA
 ne:dx≠x
section
variable{prog:av}{w:az}{A:aC}{E:k8n}{s:af}{K:k8m}{x dx C f:aa}{mA:k8p}{name:aj}{v:a8}
end
noncomputable def j83(f:aj)(v:V):List (aj×V)->List (aj×V)
 |[]=>[(f,v)]
 |(g,x)::r=>if g=f then(g,v)::r else(g,x)::j83 f v r
section
variable{P:av}{w:az}{H H':Hp}{h h':aD}{a C dx:aa}{fs fs':List (aj×V)}
end
structure Cls(K:k8m)(C:aa):Prop where
 pg:W.plainGet K C Str.empty=a6
 hd:W.hasDictIn K C=a6
 po:W.plainOver K C=a6
 sa:W.findIn K (.ref C) "__setattr__" = a3 (a3 (.builtin "object.__setattr__"))
structure Con(K:k8m)(C:aa)(f:aj)(v:V)(u:a8):Prop where
 at_:W.findIn K (.ref C) f=a3 (a3 u)
 rel:RelV v u
 get:W.specialIn K u "__get__" = a3 a7
 cp:W.copiedNames.contains f=a4
structure Meth(K:k8m)(C:aa)(m:aj)(f:aa):Prop where
 at_:W.findIn K (.ref C) m=a3 (a3 (.ref f))
 fn:W.isFn K (.ref f)=a6
 kp:W.keepIn K (.ref f)=a6
section
variable{X:Cx}{pins:k8o}{σ:St}{H:Hp}{s:af}{a C dx:aa}{fs:List (aj×V)}{f:aj}{v:V}{A:aC}{E:k8n}
end
section
variable{X:Cx}{o e value:ao}{f:aj}{pos pos' tpos:aO}{ta tv:TE}
end
section
variable{X:Cx}{pins:k8o}{σ:St}{H:Hp}{s:af}{A:aC}{E:k8n}{Q:k8n}{c:a8}{b:Bool}
inductive TyOf(K:k8m)(H:Hp):V->a8->Prop where
 |non:TyOf K H .non (.type "NoneType")
 |bl (x:Bool):TyOf K H (.bl x) (.type "bool")
 |int (i:Int):TyOf K H (.int i) (.type "int")
 |str (x:aj):TyOf K H (.str x) (.type "str")
 |flt (x:UInt64):TyOf K H (.flt x) (.type "float")
 |lst {a:aa} {xs:List V} (e:H a=a3 (.lst xs)):TyOf K H (.ref a) (.type "list")
 |frz {a:aa} {o:dz} {xs:List V} (e:H a=a3 (.frz o (.lst xs))):TyOf K H (.ref a) (.type "list")
 |tup {a:aa} {xs:List V} (e:H a=a3 (.tup xs)):TyOf K H (.ref a) (.type "tuple")
 |dK {a:aa} {kvs:List (Key×V)} (e:H a=a3 (.dK kvs)):TyOf K H (.ref a) (.type "dict")
 |dT {a:aa} {kvs:List (List Key×V)} (e:H a=a3 (.dT kvs)):TyOf K H (.ref a) (.type "dict")
 |ins {a C dx:aa} {fs:List (aj×V)} (e:H a=a3 (.ins C dx fs)) (cl:Cls K C) (ha:W.findIn K (.ref C) "__class__" = a3 (a3 (.builtin "object.__class__")))
   (hn:W.specialIn K (.builtin "object.__class__") "__get__" = a3 (a3 (.builtin "getset_descriptor.__get__"))) (htk:W.takesIn K (.builtin "object.__class__")=a3 a6)
   (hm:W.mroIn K C (.type "object")=a3 a6):TyOf K H (.ref a) (.ref C)
end
structure Room(k:Nat)(A:aC):Prop where
 hd:A.handled=a7
 dp:A.depth+3*k+5<fg
 un:A.units+16*k+200<aX
theorem Room.mono{j k:Nat}{A:aC}(r:Room k A)(h:j<=k):Room j A:=⟨r.hd,by have:=r.dp;omega,by have:=r.un;omega⟩
theorem Room.deeper{k:Nat}{A:aC}(r:Room (k+1) A)(env:dS):Room k (A.deeper env) :=
 ⟨r.hd,by have:=r.dp;show A.depth+1+3*k+5<_;omega,by have:=r.un;show A.units+3+16*k+200<_;omega⟩
theorem Room.in1{k:Nat}{A:aC}(r:Room (k+1) A):Room k A.in1 :=
 ⟨r.hd,by have:=r.dp;show A.depth+3*k+5<_;omega,by have:=r.un;show A.units+1+16*k+200<_;omega⟩
theorem Room.depth{k:Nat}{A:aC}(r:Room k A):A.depth<fg:=by have:=r.dp;omega
def Dg:TA:=λ_ H Q=>Q [] H
def Rv(ta:TE)(tr:TA):TA:=λσ H Q=>ta σ H λx H1=>tr σ H1 λxs H2=>Q (x::xs) H2
section
variable{X:Cx}{e:ao}{es:List ao}{te:TE}{t:TA}{pos:aO}
theorem jz:PA X [] Dg:=λ_ _ _ _ H Q I h=>fe ⟨[],H,I,.nil,h⟩
theorem jd(ha:PE X e te)(hr:PA X es t)(hs:a9 (e::es) X.env=(a4,aA e X.env)::a9 es X.env:=by rfl):PA X (e::es) (Rv te t):=by intro pos pins s σ H Q I h;rw[hs];show aq _ _ (iR ((a4,aA e X.env)::aY pos (a9 es X.env))) _ _ s;refine eZ (thn (ha pins s σ H _ I h) λu s1 ⟨x,H1,I1,r1,q1⟩=>?_);exact thn (hr pos pins s1 σ H1 _ I1 q1) λus s2 ⟨xs,H2,I2,r2,q2⟩=>⟨x::xs,H2,I2,.cons r1 r2,q2⟩
def jl6(t:TA):TE:=λσ H Q=>t σ H λxs H1=>xs.length<=ar/\∀p,H1 p=a7->Q (.ref p) (upd H1 p (.tup xs))
def jla(t:TA):TE:=λσ H Q=>t σ H λxs H1=>xs.length<=ar/\∀p,H1 p=a7->Q (.ref p) (upd H1 p (.lst xs))
theorem j5j{x1}(h:PA X es t):PE X (.Tuple es x1 pos) (jl6 t):=by intro pins s σ H Q I hq;refine wpAny_Tuple_spliced (thn (h pos pins s σ H _ I hq) λus s1 ⟨xs,H1,I1,r,z,q⟩=>⟨by rw[<-r.length];exact z,?_⟩);have hf:H1 s1.heap.objs.size=a7:=I1.hok.fresh (xx _);refine⟨.ref s1.heap.objs.size,upd H1 s1.heap.objs.size (.tup xs),I1.laid (t':=s1.toks) (λb u e=>km _ e) (xx _) ?_,rfl,q _ hf⟩;exact⟨z,us,r,⟨_,xu _ rfl,rfl,_,rfl⟩,Zx.new _ _⟩
theorem jfm(h:PA X es t):PE X (.List es pos) (jla t):=by intro pins s σ H Q I hq;refine wpAny_List_spliced (thn (h pos pins s σ H _ I hq) λus s1 ⟨xs,H1,I1,r,z,q⟩=>⟨by rw[<-r.length];exact z,?_⟩);have hf:H1 s1.heap.objs.size=a7:=I1.hok.fresh (xx _);refine⟨.ref s1.heap.objs.size,upd H1 s1.heap.objs.size (.lst xs),I1.laid (t':=s1.toks) (λb u e=>km _ e) (xx _) ?_,rfl,q _ hf⟩;exact⟨z,us,0,r,xu _ rfl⟩
end
abbrev Sp:=List V->Hp->VK->XK->Prop
abbrev CXT:=List dS->Hp->af->XK->a8->af->Prop
structure Env0(P:av)(w:az)(K:k8m)(mg:k8p)(base:aD)(A:aC)(outer:List dS)(s:af)(H:Hp):Prop where
 frames:A.frames=a3 outer
 mod:Mod K mg base
 bs:∀b o,base.get? b=a3 o->s.heap.get? b=a3 o/\H b=a7
 bsz:base.objs.size<=s.heap.objs.size
 funs:s.heap.FunFrames base outer
 frf:∀b∈frs outer,H b=a7
 hok:HOk P w H s.heap
 bare:dW s.gens
def CE(outer:List dS)(P:av)(w:az)(H:Hp)(s:af)(Q:VK)(u:a8)(s':af):Prop :=
 ∃v H',s'.os=s.os/\dW s'.gens/\Un (frs outer) [] H H' s.heap s'.heap/\HOk P w H' s'.heap/\RelV v u/\Q v H'
def CR(CX:CXT)(outer:List dS)(P:av)(w:az)(H:Hp)(s:af)(Q:VK)(E:XK)(r:fm)(s':af):Prop :=
 match r with
 |.ok (.ret u)=>CE outer P w H s Q u s'
 |.ok _=>False
 |.error e=>CX outer H s E e s'
structure FnOk(P:av)(w:az)(K:k8m)(mg:k8p)(base:aD)(CX:CXT)(k:Nat)(f:aa)(fd:aQ)(ps:List aj)(sp:Sp):Prop where
 len:∀vs H Q E,sp vs H Q E->vs.length=ps.length
 run:∀(A:aC)(outer:List dS)(s:af)(H:Hp)(args:Args)(us:List a8)(vs:List V) (Q:VK) (E:XK),Room k A->Env0 P w K mg base A outer s H->dA s fd args (ps.zip us)->Vals vs us->sp vs H Q E ->
  c8 (ay P w) A (.call (.ref f) args) (CR CX outer P w H s Q E) s
theorem FnOk.imp{P:av}{w:az}{K:k8m}{mg:k8p}{base:aD}{CX:CXT}{k:Nat}{f:aa}{fd:aQ}{ps:List aj}{sp sp':Sp}(F:FnOk P w K mg base CX k f fd ps sp)
  (h:∀vs H Q E,sp' vs H Q E->sp vs H Q E):FnOk P w K mg base CX k f fd ps sp' :=
 ⟨λvs H Q E q=>F.len vs H Q E (h _ _ _ _ q),λA outer s H args us vs Q E hr he hb hv hs=>F.run A outer s H args us vs Q E hr he hb hv (h _ _ _ _ hs)⟩
theorem Env0.in1{P:av}{w:az}{K:k8m}{mg:k8p}{base:aD}{A:aC}{outer:List dS}{s:af}{H:Hp}(e:Env0 P w K mg base A outer s H) :
  Env0 P w K mg base A.in1 outer s H:=⟨e.frames,e.mod,e.bs,e.bsz,e.funs,e.frf,e.hok,e.bare⟩
section
variable{X:Cx}{pins:k8o}{σ:St}{H:Hp}{s s':af}
theorem Inv.env0(I:Inv X pins σ H s):Env0 X.prog X.w X.K X.mg X.base X.A X.stack s H :=
 ⟨I.ok.frames,I.ok.mod,I.bs,Xj I.ok.bsz I.sz,I.stack,I.stkFree,I.hok,I.bare⟩
theorem Inv.after{Q:VK}{u:a8}(I:Inv X pins σ H s)(h:CE X.stack X.prog X.w H s Q u s'):EP X pins σ Q u s':=by obtain⟨v,H',os,bare,un,hok,r,q⟩:=h;obtain⟨hh,g,d,t,os'⟩:=s';obtain rfl:os'=s.os:=os;exact⟨v,H',I.call (h':=hh) (g':=g) (d':=d) (t':=t) (ch:=[]) un hok bare (λb z=>absurd z (by simp)),r,q⟩
end
def jj0(sp:Sp)(dvs:List V)(E:XK)(t:TA):TE:=λσ H Q=>t σ H λvs H1=>sp (vs++dvs) H1 Q E
def Binds(K:k8m)(fd:aQ)(ps:List aj)(ds:List a8):Prop :=
 ∀(s:af)(us:List a8),K.In s.heap->(us++ds).length=ps.length->dA s fd ⟨us,[]⟩ (ps.zip (us++ds))
theorem Binds.all{K:k8m}{fd:aQ}{ps:List aj}(h:∀us:List a8,us.length=ps.length->fj fd ⟨us,[]⟩=pure (ps.zip us)):Binds K fd ps []:=λs us _ hl=>by rw[Xu]at hl ⊢;exact .of_eq (h us hl)
def j1k(CX:CXT)(X:Cx)(E:XK):Prop:=∀(pins:k8o) (σ:St) (H:Hp) (s:af) (e:a8) (s':af),Inv X pins σ H s->CX X.stack H s E e s'->X.xe e s'
section
variable{X:Cx}{CX:CXT}{k:Nat}{f C:aa}{fd:aQ}{ps:List aj}{sp:Sp}{dvs:List V}{ds:List a8}{E:XK}{x m:aj}{p pos apos:aO}{e o:ao}{es:List ao}{ta:TE}{t:TA}
theorem jf1{pins:k8o}{σ:St}{H:Hp}{s:af}{Q:VK}{us:List a8}{vs:List V}(F:FnOk X.prog X.w X.K X.mg X.base CX k f fd ps sp)(hr:Room k X.A)(hb:Binds X.K fd ps ds)(hd:Vals dvs ds)(hx:j1k CX X E)
  (I:Inv X pins σ H s) (r:Vals vs us) (h:sp (vs++dvs) H Q E):aq (ay X.prog X.w) X.A (call (.ref f) us) (EP X pins σ Q) X.xe s:=by
 have r2:Vals (vs++dvs) (us++ds):=r.append hd;have hl:(us++ds).length=ps.length:=by rw[<-r2.length];exact F.len _ _ _ _ h
 refine eR (bB (F.run X.A X.stack s H ⟨us,[]⟩ (us++ds) (vs++dvs) Q E hr I.env0 (hb s us I.kIn hl) r2 h) λr s' hq=>?_);cases r with
 |error e=>exact hx pins σ H s e s' I hq
 |ok fl =>
  cases fl with
  |ret u=>exact I.after hq
  |next=>exact aW hq
  |brk=>exact aW hq
  |cont=>exact aW hq
theorem M6(F:FnOk X.prog X.w X.K X.mg X.base CX k f fd ps sp)(hr:Room k X.A)(hg:Gl X x)(hm:X.mg x=a3 (.ref f))(hk:W.keepIn X.K (.ref f)=a6)(hb:Binds X.K fd ps ds)(hd:Vals dvs ds)(hx:j1k CX X E)
  (ha:PA X (e::es) t) (hdb:(x==k8q)=a4:=by decide) (he:a9 (e::es) X.env=(a4,aA e X.env)::a9 es X.env:=by rfl) (hpl:(aY pos (a9 es X.env)).any (·.1)=a4:=by rfl) :
  PE X (.Call (.Name x p) (e::es) [] pos) (jj0 sp dvs E t):=by
 intro pins s σ H Q I h;refine aF (Uu I hg hm ?_ hdb);refine W.callWith_K (h₀:=X.base) I.ok.mod.kin hk (thn (ha pos pins s σ H _ I h) λus s1 ⟨vs,H1,I1,r,q⟩=>⟨I1.kIn,?_⟩) he hpl;exact jf1 F hr hb hd hx I1 r q
structure Mk(K:k8m)(C f:aa):Prop where
 makes:W.makesIn K C=a6
 init:W.findIn K (.ref C) "__init__" = a3 (a3 (.ref f))
 fn:W.isFn K (.ref f)=a6
 kp:W.keepIn K (.ref C)=a6
end
def PK(X:Cx)(kws:List bx)(t:TA):Prop :=
 ∀(pos:aO)(pins:k8o) (s:af) (σ:St) (H:Hp) (Q:List V->Hp->Prop),Inv X pins σ H s->t σ H Q->aq (ay X.prog X.w) X.A (evalAll ((cH pos (bD kws X.env)).map (·.2))) (AP X pins σ Q) X.xe s
section
variable{X:Cx}{CX:CXT}{k:Nat}{f C:aa}{fd:aQ}{ps ks:List aj}{sp:Sp}{E:XK}{x m:aj}{p pos apos kpos:aO}{e o:ao}{es:List ao}{kws:List bx}{te ta:TE}{t tk:TA}{nm:Option aj}
theorem j5f:PK X [] Dg:=λ_ _ _ _ H Q I h=>wpAny_evalAll_nil ⟨[],H,I,.nil,h⟩
theorem V3(ha:PE X e te)(hr:PK X kws t):PK X (⟨nm,e,kpos⟩::kws) (Rv te t):=by intro pos pins s σ H Q I h;show aq _ _ (evalAll ((do let v <-aA e X.env;g6 pos;pure v)::(cH pos (bD kws X.env)).map (·.2))) _ _ s;refine wpAny_evalAll_cons (a5 (thn (ha pins s σ H _ I h) λu s1 ⟨x,H1,I1,r1,q1⟩=>a5 (fL (ah ?_))));exact thn (hr pos pins s1 σ H1 _ I1 q1) λus s2 ⟨xs,H2,I2,r2,q2⟩=>⟨x::xs,H2,I2,.cons r1 r2,q2⟩
structure KBinds(K:k8m)(fd:aQ)(ps ks:List aj)(g:List a8->List a8->List a8)(gV:List V->List V->List V):Prop where
 to:∀(s:af)(us ws:List a8),K.In s.heap->(g us ws).length=ps.length->dA s fd ⟨us,ks.zip ws⟩ (ps.zip (g us ws))
 rel:∀{vs:List V}{us:List a8}{zs:List V}{ws:List a8},Vals vs us->Vals zs ws->Vals (gV vs zs) (g us ws)
variable{g:List a8->List a8->List a8}{gV:List V->List V->List V}
end
structure FnScope(N P:List aj)(sc:br):Prop where
 kind:sc.kind=.function
 co:sc.isCoroutine=a4
 gen:sc.isGenerator=a4
 nd:N.Nodup
 pre:N.take P.length=P
 par:∀x∈P,sc.names.lookup x=a3 .local\/sc.names.lookup x=a3 .cell
 nofree:∀y∈sc.names,y.2≠.free
theorem Kp{kindOf:aj->Option bG}{x:aj}:∀{binds:List (aj×a8)} {m:k8p},(∀v,(x,v)∉binds)->iG kindOf binds m x=m x
 |[],_,_=>rfl
 |(n,v)::r,m,h=>by
  unfold iG;rw[Kp λw hw=>h w (xf _ hw)];split
  .have:x≠n:=by rintro rfl;exact h v xq
   simp[this]
  .rfl
theorem Kr{kindOf:aj->Option bG}{x:aj}:∀{binds:List (aj×a8)} {m:k8p},(∀v,(x,v)∉binds)->iH kindOf binds m x=m x
 |[],_,_=>rfl
 |(n,v)::r,m,h=>by
  unfold iH;rw[Kr λw hw=>h w (xf _ hw)];split
  .rfl
  .have:x≠n:=by rintro rfl;exact h v xq
   simp[this]
theorem Kq{kindOf:aj->Option bG}{x:aj}{v:a8}:∀{P:List aj}{vs:List a8}{i:Nat}{m:k8p},P.Nodup->P[i]?=a3 x->vs[i]?=a3 v->kindOf x=a3 .local ->
  iG kindOf (P.zip vs) m x=a3 v
 |[],_,_,_,_,h,_,_=>by simp at h
 |_::_,[],_,_,_,_,h,_=>by simp at h
 |p::P,w::vs,0,m,nd,h1,h2,hk=>by simp at h1 h2;subst h1;subst h2;show iG kindOf ((p,w)::P.zip vs) m p=_;unfold iG;rw[Kp λv hv=>(Xn.mp nd).1 (eB hv).1,if_pos hk];simp
 |p::P,w::vs,i+1,m,nd,h1,h2,hk=>by show iG kindOf ((p,w)::P.zip vs) m x=_;unfold iG;exact Kq (i:=i) (Xn.mp nd).2 (by simpa using h1) (by simpa using h2) hk
theorem Ks{kindOf:aj->Option bG}{x:aj}{v:a8}:∀{P:List aj}{vs:List a8}{i:Nat}{m:k8p},P.Nodup->P[i]?=a3 x->vs[i]?=a3 v->kindOf x≠a3 .local ->
  iH kindOf (P.zip vs) m x=a3 v
 |[],_,_,_,_,h,_,_=>by simp at h
 |_::_,[],_,_,_,_,h,_=>by simp at h
 |p::P,w::vs,0,m,nd,h1,h2,hk=>by simp at h1 h2;subst h1;subst h2;show iH kindOf ((p,w)::P.zip vs) m p=_;unfold iH;rw[Kr λv hv=>(Xn.mp nd).1 (eB hv).1,if_neg hk];simp
 |p::P,w::vs,i+1,m,nd,h1,h2,hk=>by show iH kindOf ((p,w)::P.zip vs) m x=_;unfold iH;exact Ks (i:=i) (Xn.mp nd).2 (by simpa using h1) (by simpa using h2) hk
noncomputable def start(N:List aj)(vs:List V):St:=vs.map a3++ae (N.length-vs.length) a7
noncomputable def vo(CX:CXT)(P:av)(w:az)(K:k8m)(mg:k8p)(base:aD)(N:List aj)(qual:aj)(scope:br)(f:aa)(cd:a8)(A:aC)(outer:List dS)(s:af)(H:Hp)(E:XK):Cx where
 prog:=P
 w:=w
 K:=K
 mg:=mg
 base:=base
 A:=A.deeper (bI qual scope s.heap.objs.size f cd)
 N:=N
 s₀:=s
 H₀:=H
 env:=bI qual scope s.heap.objs.size f cd
 outer:=outer
 stack:=bI qual scope s.heap.objs.size f cd::outer
 ex:=[]
 calm:=a6
 fn:=λ_=>a6
 pn:=[]
 xe:=λe s'=>aq (ay P w) (A.deeper (bI qual scope s.heap.objs.size f cd)) (leaving (bI qual scope s.heap.objs.size f cd) e) (λ_ s''=>CX outer H s E e s'') (λe' s''=>CX outer H s E e' s'') s'
theorem j1c{sc:br}{n:Nat}{x:aj}(h:sc.names.lookup x=a3 .cell):∃c,(aU n sc.names []).lookup x=a3 c:=by have q:=W.cellsFrom_some sc.names n [] (.inl h);exact Pg.mp q
theorem j6g{CX:CXT}{P:av}{w:az}{K:k8m}{mg:k8p}{base:aD}{N ps:List aj}{qual:aj}{scope:br}{f:aa}{cd:a8}{A:aC}{outer:List dS}{s s1:af}{H:Hp}{E:XK}{us:List a8}{vs:List V}
  (S:FnScope N ps scope) (cm:Bool) (hd:cm=a6->A.handled=a7) (e0:Env0 P w K mg base A outer s H) (hl:vs.length=ps.length) (r:Vals vs us)
  (x:InCallC s s.heap.objs.size (iG (bI qual scope s.heap.objs.size f cd).kindOf (ps.zip us) λ_=>a7) (aU (s.heap.objs.size+1) scope.names []) (iH (bI qual scope s.heap.objs.size f cd).kindOf (ps.zip us) λ_=>a7) s1) :
  Inv { vo CX P w K mg base N qual scope f cd A outer s H E with calm:=cm } [] (start N vs) H s1:=by
 have hpl:ps.length<=N.length:=by have:=congrArg cR S.pre;rw[P0]at this;omega
 obtain⟨h1,tk,rfl,hk⟩:=x.done;have noA:∀b:aa,b∉(vo CX P w K mg base N qual scope f cd A outer s H E).ex:=λb z=>absurd (show b∈([]:List aa)from z) (by simp);refine⟨⟨e0.mod,S.kind,rfl,rfl,xx _,λy z c h1 h2=>?_,λy hy=>?_,λy c _ h=>?_,hd,Around.frames_deeper e0.frames,.inr ⟨rfl,rfl⟩,λb z=>absurd z (noA b),e0.bs,e0.bsz,λb _ _=>noA b,λb z=>absurd z (noA b),e0.funs,e0.frf⟩,
  rfl,e0.bare,Un.kept hk,⟨_,x.toInCall.ns,λi y v h1 h2 h3=>?_⟩,λy c h=>⟨_,x.cell y c h⟩,e0.hok.fresh (xx _),λy c h=>?_,λp hp=>absurd (show p∈([]:k8o)from hp) (by simp),e0.hok.kept hk,?_⟩
 .exact name_of_addr x.apart (Px h1) (Px h2)
 .have hy:scope.names.lookup y=a3 .cell\/scope.names.lookup y=a3 .free:=hy;rcases hy with hy|hy
  .exact j1c hy
  .exact absurd rfl (S.nofree _ (Px hy))
 .exact d9 (x.above y c (Px h))
 .have hi:i<vs.length:=by
   unfold start at h2;by_cases hi:i<vs.length
   .exact hi
   .rw[dh (by simpa using hi)]at h2;rw[cE]at h2;split at h2<;>cases h2
  have ha:vs[i]?=a3 v:=by
   unfold start at h2;rw[T4 (by simpa using hi),X6]at h2;cases e:vs[i]? with
   |none=>rw[e]at h2;cases h2
   |some a=>rw[e]at h2;cases h2;rfl
  obtain⟨u,hu,rv⟩:=r.get ha;have hp:ps[i]?=a3 y:=by rw[<-S.pre,List.getElem?_take_of_lt nofun];exact h1
  have ndP:ps.Nodup:=by rw[<-S.pre];exact S.nd.sublist (List.take_sublist _ _)
  refine⟨u,rv,?_⟩;rcases S.par y (Xr hp)with k|k
  .exact .inl ⟨k,Kq ndP hp hu k⟩
  .obtain⟨c,e⟩:=j1c (n:=s.heap.objs.size+1) k;refine .inr ⟨.inl k,c,e,?_⟩;have q:=x.cell y c e;rw[Ks ndP hp hu (by show scope.names.lookup y≠_;rw[k];decide)]at q;exact q
 .exact e0.hok.fresh (d9 (x.above y c (Px h)))
 .unfold start;show _=N.length;rw[Xf,xg,ph];omega
theorem Inv.extOut{X:Cx}{pins:k8o}{σ:St}{H H2:Hp}{s:af}(J:Inv X pins σ H s)(x:Ext X H H2 s):HOk X.prog X.w H2 s.heap/\(X.ex=[]->Un X.fs [] X.H₀ H2 X.s₀.heap s.heap):=by
 have old:∀b o,X.s₀.heap.get? b=a3 o->H2 b=H b:=λb o e=>(x b).elim id λ⟨y,ob,v,hc,hf,_⟩=>absurd (Xi (X4 e) (J.ok.cab y b hf hc)) (Xz _);have trk:∀{b:aa}{u:HO},H b=a3 u->H2 b=a3 u:=λ{b u} e=>(x b).elim (λz=>z.trans e) λ⟨y,ob,v,hc,_⟩=>by rw[J.freeC y b hc]at e;cases e
 refine⟨λa o e=>?_,λhx=>?_⟩
 .rcases x a with z|⟨y,ob,v,_,_,e2,e3,_⟩
  .exact(J.hok a o (z▸e)).stay (λ_ _ _ q=>q) (λ_ q=>trk q) (λ_ _ q=>trk q) λ_ _ _ q=>trk q
  .rw[e2]at e;cases e;exact⟨e3,ob,e3⟩
 .have nx:∀b,b∉X.ex:=λb=>by rw[hx];simp
  exact⟨λb o e n hb _=>J.base.keep b o e n hb (nx b),λb o e n hb _=>J.base.slot b o e n hb (nx b),λb o e n _=>(old b o e).trans (J.base.free b o e n (nx b)),λb o e _=>J.base.there b o e (nx b),
   λb xs e=>trk (J.base.tups b xs e),λb o u e=>trk (J.base.frzs b o u e),λb ps e=>let ⟨m,z⟩:=J.base.tbls b ps e;⟨m,trk z⟩⟩
theorem jat{CX:CXT}{P:av}{w:az}{K:k8m}{mg:k8p}{base:aD}{k:Nat}{f:aa}{name qual:aj}{params:dC}{body:List bp}{scope:br}{dV kV doc pm cdv ct oc:a8}{an od:Option aa}
  {osl:Array (Option a8)} {N ps:List aj} {sp:Sp} (lk:K.lookup f=a3 ⟨oc,od,.func (W.fnOf name qual params body scope dV kV doc pm an cdv ct),osl⟩) (hcd:W.codeIn K cdv qual=a6) (S:FnScope N ps scope)
  (len:∀vs H Q E,sp vs H Q E->vs.length=ps.length)
  (hbody:∀(A:aC)(outer:List dS)(s:af)(H:Hp)(vs:List V)(Q:VK)(E:XK),Room k (A.deeper (bI qual scope s.heap.objs.size f cdv))->sp vs H Q E ->
   ∃t,PSs (vo CX P w K mg base N qual scope f cdv A outer s H E) body t/\t { nx:=λ_ H'=>Q .non H',rt:=Q } (start N vs) H) :
  FnOk P w K mg base CX (k+1) f (W.fnOf name qual params body scope dV kV doc pm an cdv ct) ps sp:=by
 refine⟨len,λA outer s H args us vs Q E hr e0 hb r hsp=>?_⟩;have hl:=len _ _ _ _ hsp;have KX:K.In s.heap:=e0.mod.kin.keeps λb o e=>(e0.bs b o e).1;have lim:s.heap.NoLimit:=e0.mod.nolimit.keeps λb o e=>(e0.bs b o e).1;have hkind:∀y∈ps.zip us,scope.names.lookup y.1=a3 .local\/(scope.names.lookup y.1=a3 .cell/\((aU (s.heap.objs.size+1) scope.names []).lookup y.1).isSome=a6):=λ⟨n,v⟩ hy=>by
  rcases S.par n (eB hy).1 with q|q
  .exact .inl q
  .exact .inr ⟨q,W.cellsFrom_some _ _ _ (.inl q)⟩
 refine codeAny_call_function hr.depth (KX _ _ lk) rfl S.co S.gen rfl (W.codeRec_of KX hcd) (hb _ _ _ _ ?_);refine wpAny_newFunctionEnv_cells S.kind hkind λenv he s1 x=>?_;subst he;refine⟨lim.keeps x.toInCall.keep,codeAny_func ?_⟩;obtain⟨t,ht,hq⟩:=hbody A outer s H vs Q E (hr.deeper _) hsp;have I:Inv (vo CX P w K mg base N qual scope f cdv A outer s H E) [] (start N vs) H s1:=j6g S a6 (λ_=>hr.hd) e0 hl r x;refine bE (ht [] s1 (start N vs) H _ I hq) (λfl s' hs=>?_) λe s' hs=>hs;have fin:∀{σ':St}{H':Hp}{v:V}{u:a8},Inv (vo CX P w K mg base N qual scope f cdv A outer s H E) [] σ' H' s'->RelV v u->Q v H'->CE outer P w H s Q u s' :=
  λ{σ' H' v u} J rv q=>⟨v,H',J.os,J.bare,J.base,J.hok,rv,q⟩
 cases fl with
 |ret u =>obtain⟨v,σ',H',H2,J,rv,x,q⟩:=hs;exact⟨v,H2,J.os,J.bare,(J.extOut x).2 rfl,(J.extOut x).1,rv,q⟩
 |next =>obtain⟨σ',H',J,q⟩:=hs;exact fin (v:=V.non) (u:=aV) J rfl q
 |brk =>obtain⟨_,_,_,q⟩:=hs;exact aW q
 |cont =>obtain⟨_,_,_,q⟩:=hs;exact aW q
section
variable{X:Cx}{x:aj}{p pos:aO}{e:ao}{es:List ao}{t:TA}{id T:String}{r:List V->Hp->VK->Prop}
def tCB(r:List V->Hp->VK->Prop)(t:TA):TE:=λσ H Q=>t σ H λvs H1=>r vs H1 Q
theorem vm (hc:Jk X (.builtin id) r) (hg:Gl X x) (hm:X.mg x=a7) (hv:bh x=a3 (.builtin id)) (ha:PA X (e::es) t) (hn:x ≠ "__name__":=by decide) (hdb:(x==k8q)=a4:=by decide)
  (he:a9 (e::es) X.env=(a4,aA e X.env)::a9 es X.env:=by rfl) (hpl:(aY pos (a9 es X.env)).any (·.1)=a4:=by rfl):PE X (.Call (.Name x p) (e::es) [] pos) (tCB r t):=by
 intro pins s σ H Q I h;refine aF (Jq I hg hm hv ?_ hn hdb);exact callWith_builtin1 (thn (ha pos pins s σ H _ I h) λus s1 ⟨vs,H1,I1,r1,q1⟩=>hc pins s1 σ H1 vs us Q I1 r1 q1) he hpl
theorem Wx (hc:Jk X (.type T) r) (hg:Gl X x) (hm:X.mg x=a7) (hv:bh x=a3 (.type T)) (ha:PA X (e::es) t) (hn:x ≠ "__name__":=by decide) (hdb:(x==k8q)=a4:=by decide)
  (he:a9 (e::es) X.env=(a4,aA e X.env)::a9 es X.env:=by rfl) (hpl:(aY pos (a9 es X.env)).any (·.1)=a4:=by rfl):PE X (.Call (.Name x p) (e::es) [] pos) (tCB r t):=by
 intro pins s σ H Q I h;refine aF (Jq I hg hm hv ?_ hn hdb);exact callWith_type1 (thn (ha pos pins s σ H _ I h) λus s1 ⟨vs,H1,I1,r1,q1⟩=>hc pins s1 σ H1 vs us Q I1 r1 q1) he hpl
end
end L2
namespace HT
open PySem PyProof.Rows
noncomputable def lexLt:List Int->List Int->Bool
 |[],[]=>a4
 |[],_::_=>a6
 |_::_,[]=>a4
 |x::xs,y::ys=>if x=y then lexLt xs ys else decide (x<y)
theorem lexLt_cons(x y:Int)(xs ys:List Int):lexLt (x::xs) (y::ys)=if x=y then lexLt xs ys else decide (x<y):=rfl
theorem Ig:lexLt [] []=a4:=rfl
theorem Dv(y:Int)(ys:List Int):lexLt [] (y::ys)=a6:=rfl
theorem Dw(x:Int)(xs:List Int):lexLt (x::xs) []=a4:=rfl
theorem eqAt_int(A:aC)(s:af)(a:Int)(t:gO)(c:Int)(u:gO):∃e,d5 A s (.int a t) (.int c u) e/\(e=a6↔a=c) :=
 ⟨(a==c),SeqAt.EqAt.int_int a t c u,by simp⟩
theorem rcLt_int(A:aC)(s:af)(a:Int)(t:gO)(c:Int)(u:gO)(prog:av)(w:az)(E:k8n)(Q:k8n)(h:Q (.bool (decide (a<c))) s) :
  aq (ay prog w) A (d8 .Lt (.int a t) (.int c u)) Q E s :=
 (lt_int h:aq (ay prog w) A (aR .Lt (.int a t) (.int c u)) Q E s)
section
open PySem.SeqAt
open PySem.AutoSeq1 (wpAny_loadPart')
open PySem.MeetsSeq PySem.MeetsSeq2 PySem.MeetsSeq3
theorem Kz(l b:aa)(items items2:Array a8)(n n2:Nat)(dd dd2:Option aa)(sl sl2:Array (Option a8))(ns ms:List Int)(hi:cZ items.toList ns)(hj:cZ items2.toList ms) :
  kD (dU.«tuple.__lt__» ⟨[.ref l,.ref b],[]⟩)
   (λ_ R s=>s.heap.get? l=a3 { cls:=.type "tuple",dict:=dd,data:=.seq items n,slots:=sl }/\s.heap.get? b=a3 { cls:=.type "tuple",dict:=dd2,data:=.seq items2 n2,slots:=sl2 } /\
    R (.ok (.ret (.bool (lexLt ns ms)))) s) :=
 .of_wp λprog w A R s h=>by
  obtain⟨hp,g,d,tk,os⟩:=s;obtain⟨hl,hb,h⟩:=h;have f2:=fW;have z1:items.size=ns.length:=by rw[<-hi.length];simp
  have z2:items2.size=ms.length:=by rw[<-hj.length];simp
  wp_walk using eT hl,eT hb,kW _ (λrest b s'=>b.1=a7/\s'=⟨hp,g,d,tk,os⟩/\∃(vs ws:List a8)(ns' ms':List Int),rest=vs.zip ws /\
   cZ vs ns'/\cZ ws ms'/\ns'.length+items2.size=ms'.length+items.size/\R (.ok (.ret (.bool (lexLt ns' ms')))) ⟨hp,g,d,tk,os⟩) _
  case turn =>
   rintro⟨y,x⟩ rest b s' ⟨hb',rfl,vs,ws,ns',ms',hz,hvi,hwi,hlen,hR⟩;cases hvi with
   |nil=>rw[List.zip_nil_left]at hz;cases hz
   |cons a t hvi' =>
    cases hwi with
    |nil=>rw[List.zip_nil_right]at hz;cases hz
    |cons c u hwi' =>
     rw[iL]at hz;injection hz with hyx hrest;injection hyx with hy hx;subst hy hx;rw[lexLt_cons]at hR;simp only[X3]at hlen;obtain⟨e,he,hiff⟩:=eqAt_int A.in1 ⟨hp,g,d,tk,os⟩ a t c u;refine a5 (he prog w _ _ ?_);cases e with
     |true =>
      rw[if_pos (hiff.mp rfl)]at hR
      wp_walk
      exact⟨rfl,rfl,_,_,_,_,hrest,hvi',hwi',by omega,hR⟩
     |false =>
      rw[if_neg (λq=>absurd (hiff.mpr q) xm)]at hR;have hri:=rcLt_int A.in1 ⟨hp,g,d,tk,os⟩ a t c u prog w
      wp_walk using hri
      exact⟨_,rfl,by simpa using hR⟩
  case fin =>
   rintro⟨b1,b2⟩ s' ⟨hb',rfl,vs,ws,ns',ms',hz,hvi,hwi,hlen,hR⟩;simp only at hb';subst hb';have hv:lexLt ns' ms'=decide (items.size<items2.size):=by
    cases hvi with
    |nil =>
     cases hwi with
     |nil =>simp only[T5]at hlen;rw[Ig];exact(decide_eq_false nofun).symm
     |cons c u hw =>simp only[T5,X3]at hlen;rw[Dv];exact(decide_eq_true nofun).symm
    |cons a t hv =>
     cases hwi with
     |nil =>simp only[T5,X3]at hlen;rw[Dw];exact(decide_eq_false nofun).symm
     |cons c u hw =>rw[iL]at hz;cases hz
   rw[hv]at hR
   wp_walk
   exact⟨_,rfl,by simpa [eE]using hR⟩
  case h =>exact⟨rfl,rfl,items.toList,items2.toList,ns,ms,rfl,hi,hj,by omega,h⟩
end
section
variable{prog:av}{w:az}{A:aC}{E:k8n}{s:af}
theorem lt_tupInts{l b:aa}{items items2:Array a8}{ns ms:List Int}{Q:k8n}(hl:i7 s.heap l items)(hb:i7 s.heap b items2)(hi:cZ items.toList ns)(hj:cZ items2.toList ms)
  (hu:A.units<aX) (h:Q (.bool (lexLt ns ms)) s):aq (ay prog w) A (aR .Lt (.ref l) (.ref b)) Q E s:=by
 obtain⟨⟨cls,dd,data,sl⟩,ho,hc,n,hd⟩:=id hl;obtain⟨⟨cls2,dd2,data2,sl2⟩,ho2,hc2,n2,hd2⟩:=id hb;simp only at hc hd hc2 hd2;subst hc hd hc2 hd2;exact iU (op:=.Lt) ⟨_,ho,rfl⟩ ⟨_,ho2,rfl⟩ gz gp (gf _ _) (Kz l b items items2 n n2 dd dd2 sl sl2 ns ms hi hj)
  ⟨ho,ho2,show bJ (lexLt ns ms)≠gY/\Q (.bool (lexLt ns ms)) s from⟨(λx=>nomatch x),h⟩⟩ hu
theorem cat_tup{t b:aa}{vs ws:List a8}{Q:k8n}(ht:i7 s.heap t vs.toArray)(hb:i7 s.heap b ws.toArray)(hv:vs≠[])
  (h1:ws=[]->Q (.ref t) s) (h2:ws≠[]->Q (.ref s.heap.objs.size) { s with heap:=s.heap.push { cls:=.type "tuple",data:=.seq (vs++ws).toArray } })
  (hsz:vs.length+ws.length<=ar):aq (ay prog w) A (bj .Add (.ref t) (.ref b)) Q E s:=by
 obtain⟨⟨cls,dd,data,sl⟩,ho,hc,n,hd⟩:=id ht;obtain⟨⟨cls2,dd2,data2,sl2⟩,ho2,hc2,n2,hd2⟩:=id hb;simp only at hc hd hc2 hd2;subst hc hd hc2 hd2;have e:vs.toArray++ws.toArray=(vs++ws).toArray:=by simp
 by_cases hw:ws=[]
 .exact g9 ⟨_,ho,rfl⟩ ⟨_,ho2,rfl⟩ gv iD dH dw (dm _ _)
   (tuple_addW1 t b vs.toArray ws.toArray n n2 dd dd2 sl sl2 (by simpa using hv) (by simp[hw])) ⟨ho,ho2,h1 hw⟩
 .refine g9 ⟨_,ho,rfl⟩ ⟨_,ho2,rfl⟩ gv iD dH dw (dm _ _)
   (tuple_addW2 t b vs.toArray ws.toArray n n2 dd dd2 sl sl2 (by simpa using hv) (by simpa using hw) (by rw[X7,X7];exact hsz)) ⟨ho,ho2,?_⟩
  rw[e];exact h2 hw
noncomputable def sIx(n d:Nat):Option Int->Nat
 |none=>d
 |some v=>if v<0 then(v+(n:Int)).toNat else min v.toNat n
theorem sIx_none(n d:Nat):sIx n d a7=d:=rfl
theorem sIx_nat(n d k:Nat):sIx n d (a3 (k:Int))=min k n:=by show(if (k:Int)<0 then((k:Int)+(n:Int)).toNat else min (k:Int).toNat n)=min k n;rw[if_neg nofun,Xc]
theorem jf0(n d:Nat)(hd:d<=n)(o:Option Int):sIx n d o<=n:=by
 cases o with
 |none=>exact hd
 |some v =>
  show(if v<0 then(v+(n:Int)).toNat else min v.toNat n)<=n;by_cases hv:v<0
  .rw[if_pos hv];omega
  .rw[if_neg hv];exact Nat.min_le_right _ _
theorem j3a(v:Int)(n d:Nat):(if v<0 then max (v+(n:Int)) 0 else min v (n:Int))=((sIx n d (a3 v):Nat):Int):=by
 show(if v<0 then max (v+(n:Int)) 0 else min v (n:Int))=(((if v<0 then(v+(n:Int)).toNat else min v.toNat n):Nat):Int)
 by_cases hv:v<0
 .simp only[if_pos hv];omega
 .simp only[if_neg hv];omega
theorem j4i(lo hi:Option Int)(n:Nat):cQ lo hi 1 (n:Int)=(((sIx n 0 lo:Nat):Int),((sIx n n hi:Nat):Int)):=by
 have h1:¬((1:Int)<0):=by omega
 unfold cQ;simp only[h1,if_false];refine Prod.ext ?_ ?_
 .cases lo with
  |none=>rfl
  |some v=>exact j3a v n 0
 .cases hi with
  |none=>rfl
  |some v=>exact j3a v n n
theorem j3s(i j:Nat):bP (i:Int) (j:Int) 1=j-i:=by
 unfold bP;have h1:(1:Int)>0:=by omega
 simp only[h1,if_true,Int.ediv_one];split<;>omega
theorem Bv{v:a8}{o:Option Int}{Q:Option Int->af->Prop}(p:fv v o)(h:Q o s):aq (ay prog w) A (kT v) Q E s:=by
 cases p with
 |none=>exact lY h
 |int i t=>exact slicePart_int h
theorem Oc{sl:aa}{vl vu:a8}{lo hi:Option Int}{n:Nat}{Q:Int×Int×Nat->af->Prop}(hs:s.heap.IsSliceOf sl vl vu .none)(pl:fv vl lo)(pu:fv vu hi)
  (h:Q (((sIx n 0 lo:Nat):Int),1,sIx n n hi-sIx n 0 lo) s):aq (ay prog w) A (f7 (.ref sl) (pure (n:Int))) Q E s:=by
 obtain⟨os,hos,hcs,hds⟩:=id hs;unfold f7 kU;refine a5 (a5 (cO hos hds (x:=vl) rfl (a5 (cO hos hds (x:=vu) rfl (a5 (cO hos hds (x:=.none) rfl (ah ?_)))))));refine a5 (lY ?_);show aq _ _ (if ((1:Int)==0)=a6 then _ else _) _ _ s;rw[if_neg (by decide)];refine a5 (Bv pl (a5 (Bv pu (a5 (ah ?_)))));show aq _ _ (match cQ lo hi 1 (n:Int)with|(lo,hi)=>pure (lo,(1:Int),bP lo hi 1)) _ _ s;rw[j4i lo hi n];show aq _ _ (pure (((sIx n 0 lo:Nat):Int),(1:Int),bP ((sIx n 0 lo:Nat):Int) ((sIx n n hi:Nat):Int) 1)) _ _ s;rw[j3s];exact ah h
theorem j86(xs:Array a8)(i k:Nat):((ax k).filterMap λ(m:Nat)=>xs[((i:Int)+(m:Int)*1).toNat]?).toArray=((xs.toList.drop i).take k).toArray:=by
 have e:(λ(m:Nat)=>xs[((i:Int)+(m:Int)*1).toNat]?)=λm=>xs[i+m]?:=by
  funext m
  have:((i:Int)+(m:Int)*1).toNat=i+m:=by omega
  rw[this]
 rw[e];have:=pick_run xs i k;rw[List.filterMap_map]at this;have e2:((λx=>xs[x]?) ∘ λx=>i+x)=λm=>xs[i+m]?:=rfl;rw[e2]at this;rw[this]
theorem getItem_tuple_cut{t sl:aa}{items:Array a8}{vl vu:a8}{lo hi:Option Int}{Q:k8n}(ht:i7 s.heap t items)(hs:s.heap.IsSliceOf sl vl vu .none)(pl:fv vl lo)(pu:fv vu hi)
  (hw:¬(sIx items.size 0 lo=0/\sIx items.size items.size hi=items.size))
  (h:Q (.ref s.heap.objs.size) { s with heap:=s.heap.push { cls:=.type "tuple",data:=.seq ((items.toList.drop (sIx items.size 0 lo)).take (sIx items.size items.size hi-sIx items.size 0 lo)).toArray } })
  (hsz:items.size<=ar):aq (ay prog w) A (iV (.ref t) (.ref sl)) Q E s:=by
 have htake:sizeOk (.seq ((items.toList.drop (sIx items.size 0 lo)).take (sIx items.size items.size hi-sIx items.size 0 lo)).toArray):=by show((items.toList.drop (sIx items.size 0 lo)).take (sIx items.size items.size hi-sIx items.size 0 lo)).toArray.size<=ar;rw[X7,P0,Tn,cW];omega
 have hj:sIx items.size items.size hi<=items.size:=jf0 _ _ (xx _) hi;obtain⟨os,hos,hcs,hds⟩:=id hs;have hTs:s.TypeIs (.ref sl) "slice":=⟨os,hos,hcs⟩
 unfold iV
 try with_reducible refine aT ?_
 first|refine a5 (ah ?_)|skip
 refine a5 (wpAny_sequenceKey ht.typeIs (by decide) ?_);refine a5 (bN (name:=aK "__getitem__") ht.typeIs kg
  (bM kg ht.typeIs entry_tuple_getitem ?_ (args_tuple_getitem _ _)))
 show aq _ _ (kS (.ref t) >>= _) _ _ s;refine a5 (tupleItemsOf_ ht ?_);refine a5 (wpAny_typeOf hTs ?_);rw[if_pos (by decide)];refine a5 (Oc hs pl pu ?_);have hno:¬((((sIx items.size 0 lo:Nat):Int)==0&&(1:Int)==1&&(sIx items.size items.size hi-sIx items.size 0 lo)==items.size)=a6):=by intro q;rw[Xg,Xg]at q;have q1:((sIx items.size 0 lo:Nat):Int)=0:=eq_of_beq q.1.1;have q2:sIx items.size items.size hi-sIx items.size 0 lo=items.size:=eq_of_beq q.2;exact hw ⟨by omega,by omega⟩
 show aq _ _ (if (((sIx items.size 0 lo:Nat):Int)==0&&(1:Int)==1&&(sIx items.size items.size hi-sIx items.size 0 lo)==items.size)=a6 then _ else _) _ _ s;rw[if_neg hno,j86]
 first
  |exact a5 (m:=be _) (aM (ah ⟨_,rfl,ah h⟩) htake)
  |exact a5 (m:=be _) (aM (a5 (ah (ah ⟨_,rfl,ah h⟩))) htake)
  |exact a5 (a5 (m:=be _) (aM (ah (ah ⟨_,rfl,ah h⟩)) htake))
  |exact a5 (a5 (m:=be _) (aM (ah ⟨_,rfl,ah h⟩) htake))
end
end HT
namespace L2
open PySem PySem.Spec PyProof.Rows
abbrev TO:=St->Hp->(Option Int->Hp->Prop)->Prop
def PO(X:Cx)(e:Option ao)(t:TO):Prop :=
 ∀(pins:k8o) (s:af) (σ:St) (H:Hp) (Q:Option Int->Hp->Prop),Inv X pins σ H s->t σ H Q ->
  aq (ay X.prog X.w) X.A (evalPart e X.env) (λu s'=>∃o H',Inv X pins σ H' s'/\fv u o/\Q o H') X.xe s
def jbc:TO:=λ_ H Q=>Q a7 H
def jiw(t:TE):TO:=λσ H Q=>t σ H λx H1=>∃i,x=.int i/\Q (a3 i) H1
theorem intsAre_of{ns:List Int}:∀{us:List a8},Vals (ns.map V.int) us->cZ us ns:=by
 induction ns with
 |nil=>intro us r;rw[d4]at r;cases r;exact .nil
 |cons n ns ih =>
  intro us r;rw[Xa]at r;cases r with
  |cons r1 r2 =>obtain⟨t,e⟩:=r1;subst e;exact .cons n t (ih r2)
section
variable{X:Cx}{e:ao}{te:TE}{lo hi:Option ao}{tl th:TO}{pos p2:aO}
theorem jc9:PO X a7 jbc:=by intro pins s σ H Q I h;rw[mf];exact ah ⟨a7,H,I,.none,h⟩
theorem jc8(h:PE X e te):PO X (a3 e) (jiw te):=by intro pins s σ H Q I hw;rw[evalPart_some];refine thn (h pins s σ H _ I hw) λu s1 ⟨x,H1,I1,r1,q1⟩=>?_;obtain⟨i,rfl,q⟩:=q1;obtain⟨t,rfl⟩:=r1;exact⟨a3 i,H1,I1,.int i t,q⟩
def SlR(X:Cx)(r:V->Option Int->Option Int->Hp->VK->Prop):Prop :=
 ∀(pins:k8o) (s:af) (σ:St) (H:Hp) (x:V) (v vl vu:a8) (lo hi:Option Int) (sl:aa) (Q:VK),Inv X pins σ H s->RelV x v->s.heap.IsSliceOf sl vl vu .none->fv vl lo->fv vu hi->r x lo hi H Q ->
  ∃T id,typeLookup (.type T) "__getitem__" = pure (a3 (.builtin id))/\s.TypeIs v T/\aq (ay X.prog X.w) X.A (iV v (.ref sl)) (EP X pins σ Q) X.xe s
def tSl(r:V->Option Int->Option Int->Hp->VK->Prop)(te:TE)(tl th:TO):TE:=λσ H Q=>te σ H λx H1=>tl σ H1 λl H2=>th σ H2 λu H3=>r x l u H3 Q
theorem Oo{r:V->Option Int->Option Int->Hp->VK->Prop}(hr:SlR X r)(he:PE X e te)(hl:PO X lo tl)(hu:PO X hi th):PE X (.Subscript e (.Slice lo hi a7 p2) pos) (tSl r te tl th):=by intro pins s σ H Q I h;refine Subscript_ (thn (he pins s σ H _ I h) λv s1 ⟨x,H1,I1,r1,q1⟩=>?_);refine wpAny_Slice (thn (hl pins s1 σ H1 _ I1 q1) λvl s2 ⟨l,H2,I2,pl,q2⟩=>thn (hu pins s2 σ H2 _ I2 q2) λvu s3 ⟨u,H3,I3,pu,q3⟩=>?_);rw[mf];refine ah ?_;have I4:Inv X pins σ H3 { s3 with heap:=s3.heap.push { cls:=.type "slice",data:=.fields #[vl,vu,.none] } }:=I3.kept (t':=s3.toks) λb ob q=>km _ q;obtain⟨T,id,hT,ht,hg⟩:=hr pins { s3 with heap:=s3.heap.push { cls:=.type "slice",data:=.fields #[vl,vu,.none] } } σ H3 x v vl vu l u s3.heap.objs.size Q I4 r1 (Heap.IsSliceOf.new ..) pl pu q3;show aq (ay X.prog X.w) X.A (mj e (.Slice lo hi a7 p2) v (.ref s3.heap.objs.size)) (EP X pins σ Q) X.xe { s3 with heap:=s3.heap.push { cls:=.type "slice",data:=.fields #[vl,vu,.none] } };exact lX (ops:=[.ref s3.heap.objs.size,v]) ht hT hg (by with_unfolding_all rfl)
noncomputable def Ri(xs:List V)(lo hi:Option Int):List V:=(xs.drop (HT.sIx xs.length 0 lo)).take (HT.sIx xs.length xs.length hi-HT.sIx xs.length 0 lo)
theorem O6(xs:List V)(lo hi:Option Int):(Ri xs lo hi).length<=xs.length:=by unfold Ri;rw[P0,Tn];omega
def jli(K:k8m):V->Option Int->Option Int->Hp->VK->Prop:=λx lo hi H Q=>∃a xs,x=.ref a/\SqT K H a xs /\
 ¬(HT.sIx xs.length 0 lo=0/\HT.sIx xs.length xs.length hi=xs.length)/\∀p,H p=a7->Q (.ref p) (upd H p (.tup (Ri xs lo hi)))
theorem jes:SlR X (jli X.K):=by
 intro pins s σ H x v vl vu lo hi sl Q I rx hs pl pu h;obtain⟨a,xs,rfl,hx,hw,q⟩:=h;cases rx;obtain⟨its,r,ht,hz⟩:=I.tuple hx;have hlen:its.toArray.size=xs.length:=by rw[X7];exact r.length.symm
 refine⟨"tuple",_,slot_tuple_getitem.lookup,ht.typeIs,?_⟩;refine HT.getItem_tuple_cut ht hs pl pu (by rw[hlen];exact hw) ?_ (by rw[hlen];exact hz);rw[hlen];refine⟨.ref s.heap.objs.size,_,I.laid (t':=s.toks) (o:=.tup (Ri xs lo hi)) (λb ob q=>km _ q) (xx _) ?_,rfl,q _ (I.hok.fresh (xx _))⟩;exact⟨Xj (O6 xs lo hi) hz,_,(r.drop (HT.sIx xs.length 0 lo)).take (HT.sIx xs.length xs.length hi-HT.sIx xs.length 0 lo),IsTup.new _ _,Zx.new _ _⟩
def jje(K:k8m):R2:=λx y H Q=>∃a b xs ys,x=.ref a/\y=.ref b/\SqT K H a xs/\SqT K H b ys/\xs≠[]/\xs.length+ys.length<=ar /\
 (ys=[]->Q (.ref a) H)/\(ys≠[]->∀p,H p=a7->Q (.ref p) (upd H p (.tup (xs++ys))))
theorem Vals.nil_iff{xs:List V}{us:List a8}(r:Vals xs us):us=[]↔xs=[]:=by
 cases r with
 |nil=>simp
 |cons _ _=>simp
theorem jcf:OpR X (bj .Add) (jje X.K):=by intro pins s σ H x y v u Q I rx ry h;obtain⟨a,b,xs,ys,rfl,rfl,ha,hb,hx,hz,q1,q2⟩:=h;cases rx;cases ry;obtain⟨its,r1,p1,_⟩:=I.tuple ha;obtain⟨its2,r2,p2,_⟩:=I.tuple hb;refine HT.cat_tup p1 p2 (λz=>hx (r1.nil_iff.mp z)) (λz=>⟨.ref a,H,I,rfl,q1 (r2.nil_iff.mp z)⟩) (λz=>?_) (by rw[<-r1.length,<-r2.length];exact hz);refine⟨.ref s.heap.objs.size,_,I.laid (t':=s.toks) (o:=.tup (xs++ys)) (λb ob q=>km _ q) (xx _) ?_,rfl,q2 (λw=>z (r2.nil_iff.mpr w)) _ (I.hok.fresh (xx _))⟩;exact⟨by rw[Xf];exact hz,_,r1.append r2,IsTup.new _ _,Zx.new _ _⟩
end
noncomputable def ixN(n:Nat)(i:Int):Option Nat:=if 0<=i then(if i<n then a3 i.toNat else a7)else if -(n:Int)<=i then a3 (i+n).toNat else a7
noncomputable def atI{α:Type}(xs:List α)(i:Int):Option α:=(ixN xs.length i).bind λj=>xs[j]?
theorem j2u{n:Nat}{i:Int}{j:Nat}(h:ixN n i=a3 j):seqIndex? i n=a3 j/\j<n/\-(n:Int)<=i/\i<n:=by
 unfold ixN at h;by_cases h0:0<=i
 .rw[if_pos h0]at h;by_cases h1:i<n
  .rw[if_pos h1]at h;have e:i.toNat=j:=aw h;exact⟨by rw[jK h0 h1,e],by omega,by omega,h1⟩
  .rw[if_neg h1]at h;cases h
 .rw[if_neg h0]at h;by_cases h1:-(n:Int)<=i
  .rw[if_pos h1]at h;have e:(i+n).toNat=j:=aw h;exact⟨by rw[iT nofun h1,e],by omega,h1,by omega⟩
  .rw[if_neg h1]at h;cases h
theorem Cy{α:Type}{xs:List α}{i:Int}{v:α}(h:atI xs i=a3 v):∃j,seqIndex? i xs.length=a3 j/\xs[j]?=a3 v/\j<xs.length/\-(xs.length:Int)<=i/\i<xs.length:=by
 unfold atI at h;cases e:ixN xs.length i with
 |none=>rw[e]at h;cases h
 |some j =>rw[e]at h;obtain⟨h1,h2,h3,h4⟩:=j2u e;exact⟨j,h1,h,h2,h3,h4⟩
theorem je6{α:Type}{xs:List α}{j:Nat}{v:α}(h:xs[j]?=a3 v):atI xs (j:Int)=a3 v:=by
 have hj:j<xs.length:=(X8.mp h).1;have e:ixN xs.length (j:Int)=a3 j:=by unfold ixN;rw[if_pos nofun,if_pos nofun];simp
 unfold atI;rw[e];exact h
def Yg(b:ao):Prop:=∀o i,subscripted b a4 o i=operate [o,i] (iV o i)
def IxR(X:Cx)(r:R2):Prop :=
 ∀(value slice:ao)(pins:k8o) (s:af) (σ:St) (H:Hp) (x y:V) (v u:a8) (Q:VK),Inv X pins σ H s->RelV x v->RelV y u->r x y H Q ->
  subscripted slice a4 v u=operate [v,u] (iV v u)->aq (ay X.prog X.w) X.A (mj value slice v u) (EP X pins σ Q) X.xe s
def MtR(X:Cx)(id:String)(r:V->List V->Hp->VK->Prop):Prop :=
 ∀(pins:k8o) (s:af) (σ:St) (H:Hp) (x:V) (xs:List V) (v:a8) (us:List a8) (Q:VK),Inv X pins σ H s->RelV x v->Vals xs us->r x xs H Q ->
  aq (ay X.prog X.w) X.A (call (.builtin id) (v::us)) (EP X pins σ Q) X.xe s
section
variable{X:Cx}{a b:ao}{ta tb:TE}{pos:aO}
theorem N8{r:R2}(hr:IxR X r)(ha:PE X a ta)(hb:PE X b tb)(hs:Yg b):PE X (.Subscript a b pos) (tOp r ta tb):=by intro pins s σ H Q I h;exact Subscript_ (j9t ha hb I h λv u s2 x y H2 I2 rx ry q=>hr a b pins s2 σ H2 x y v u Q I2 rx ry q (hs _ _))
def jfb(K:k8m):R2:=λx y H Q=>∃p xs i v,x=.ref p/\y=.int i/\SqL K H p xs/\atI xs i=a3 v/\Q v H
def jf9(K:k8m):R2:=λx y H Q=>∃p xs i v,x=.ref p/\y=.int i/\SqT K H p xs/\atI xs i=a3 v/\Q v H
def jfa:R2:=λx y H Q=>∃z i c,x=.str z/\y=.int i/\z.length<=ar/\atI z.cps.toList i=a3 c/\Q (.str ⟨#[c]⟩) H
theorem jcy:IxR X (jfb X.K):=by
 intro value slice pins s σ H x y v u Q I rx ry h hs;obtain⟨p,xs,i,z,rfl,rfl,hq,he,q⟩:=h;cases rx;obtain⟨t,rfl⟩:=ry;obtain⟨its,r,pl,hz⟩:=I.list hq;obtain⟨j,h1,h2,h3,h4,h5⟩:=Cy he;obtain⟨w,ew,rw'⟩:=r.get h2;have hl:=r.length;have hn:=Ut;have fin:EP X pins σ Q w s:=⟨z,H,I,rw',q⟩
 by_cases h0:0<=i
 .have hj:i.toNat=j:=by rw[jK h0 h5]at h1;exact aw h1
  exact item_listR pl.isList h0 nofun (by rw[hj];simpa using ew) fin hs
 .have hj:(i+(its.toArray.size:Int)).toNat=j:=by rw[iT nofun h4]at h1;rw[X7,<-hl];exact aw h1
  exact iW (x:=w) pl.isList.typeIs slot_list_getitem.lookup
   (wpAny_getItem_list_neg (Q:=λr s'=>r=w/\EP X pins σ Q r s') pl.isList nofun (by rw[X7]<;>omega) nofun (by rw[hj];simpa using ew) ⟨rfl,fin⟩) hs
theorem j6c:IxR X (jf9 X.K):=by
 intro value slice pins s σ H x y v u Q I rx ry h hs;obtain⟨p,xs,i,z,rfl,rfl,hq,he,q⟩:=h;cases rx;obtain⟨t,rfl⟩:=ry;obtain⟨its,r,pl,hz⟩:=I.tuple hq;obtain⟨j,h1,h2,h3,h4,h5⟩:=Cy he;obtain⟨w,ew,rw'⟩:=r.get h2;have hl:=r.length;have hn:=Ut;have fin:EP X pins σ Q w s:=⟨z,H,I,rw',q⟩
 exact iW (x:=w) pl.typeIs slot_tuple_getitem.lookup
  (getItem_tuple (j:=j) (Q:=λr s'=>r=w/\EP X pins σ Q r s') pl nofun nofun (by rw[X7,<-hl];exact h1) (by simpa using ew) ⟨rfl,fin⟩) hs
theorem jgm:IxR X jfa:=by
 intro value slice pins s σ H x y v u Q I rx ry h hs;obtain⟨z,i,c,rfl,rfl,hz,he,q⟩:=h;obtain⟨t,rfl⟩:=rx;obtain⟨t',rfl⟩:=ry;obtain⟨j,h1,h2,h3,h4,h5⟩:=Cy he;have hl:z.cps.toList.length=z.length:=by simp[lQ]
 rw[hl]at h1 h4 h5;have hn:=Ut;exact lX (i3 s z t) slot_str_getitem.lookup (getItem_str (c:=c) (by
  have e1:decide (i < -(2^63:Int))=a4:=decide_eq_false nofun
  have e2:decide (i>=2^63)=a4:=decide_eq_false nofun
  rw[e1,e2,gG]) (by rw[h1];simpa using h2) ⟨.str ⟨#[c]⟩,H,I.tok _,⟨_,rfl⟩,q⟩) hs
theorem j3z(its:List a8)(n j:Nat)(u:a8):aS (·.setIfInBounds j u) { cls:=.type "list",data:=.seq its.toArray n }={ cls:=.type "list",data:=.seq (its.set j u).toArray n }:=by simp[aS]
theorem Inv.lst{pins:k8o}{σ:St}{H:Hp}{s:af}{p:aa}{xs:List V}(I:Inv X pins σ H s)(h:H p=a3 (.lst xs)) :
  ∃(its:List a8)(n:Nat),Vals xs its/\s.heap.get? p=a3 { cls:=.type "list",data:=.seq its.toArray n }/\xs.length<=ar:=by
 obtain⟨z,its,n,r,e⟩:=I.hok p _ h;exact⟨its,n,r,e,z⟩
theorem Inv.lstUpd{pins:k8o}{σ:St}{H:Hp}{s:af}{p:aa}{xs ys:List V}{its its':List a8}{n n':Nat}{f:dz->dz}(I:Inv X pins σ H s)(h:H p=a3 (.lst xs))
  (ho:s.heap.get? p=a3 { cls:=.type "list",data:=.seq its.toArray n }) (hf:f { cls:=.type "list",data:=.seq its.toArray n }={ cls:=.type "list",data:=.seq its'.toArray n' }) (r:Vals ys its') (hz:ys.length<=ar) (t:Nat) :
  Inv X pins σ (upd H p (.lst ys)) { s with heap:=s.heap.update p f,toks:=t }:=by
 have e:(s.heap.update p f).get? p=a3 { cls:=.type "list",data:=.seq its'.toArray n' }:=by rw[eD f ho (by rw[hf]<;>rfl),hf]
 refine I.write (x:=p) (e:=p) (by rw[h];trivial) (.inl rfl) (λb u hb q=>(gR _ _ (cS hb)).trans q) ⟨_,e⟩ ?_;exact⟨hz,its',n',r,e⟩
def jjd:V->V->V->Hp->(Hp->Prop)->Prop:=λo i v H Q=>∃p xs k j,o=.ref p/\i=.int k/\H p=a3 (.lst xs)/\ixN xs.length k=a3 j/\Q (upd H p (.lst (xs.set j v)))
theorem set_list:jio X jjd:=by
 intro pins s σ H o i v ov iv u Q I ro ri rv h;obtain⟨p,xs,k,j,rfl,rfl,hp,hj,q⟩:=h;cases ro;obtain⟨t,rfl⟩:=ri;obtain⟨its,n,r,ho,hz⟩:=I.lst hp;obtain⟨h1,h2,h3,h4⟩:=j2u hj;have hl:=r.length;have hn:=Ut;have I':Inv X pins σ (upd H p (.lst (xs.set j v))) { s with heap:=s.heap.update p (aS (·.setIfInBounds j u)) } :=
  I.lstUpd hp ho (j3z its n j u) (r.set rv j) (by rw[Ph];exact hz) s.toks
 by_cases h0:0<=k
 .have hk:k.toNat=j:=by rw[jK h0 h4]at h1;exact aw h1
  exact W.ki_setAt ho h0 nofun (by rw[X7,<-hl];exact h4) (by rw[hk];exact⟨_,I',q⟩)
 .have hk:(k+(its.toArray.size:Int)).toNat=j:=by rw[iT nofun h3]at h1;rw[X7,<-hl];exact aw h1
  exact W.ki_setBack ho nofun (by rw[X7,<-hl];exact h3) nofun (by rw[hk];exact⟨_,I',q⟩)
theorem Et(lo hi:Option Int)(n:Nat):(d7 lo hi a7 n).1=((HT.sIx n 0 lo:Nat):Int)/\(d7 lo hi a7 n).2.1=((HT.sIx n n hi:Nat):Int)/\(d7 lo hi a7 n).2.2=1:=by
 refine⟨?_,?_,rfl⟩
 .cases lo with
  |none=>simp[d7,HT.sIx]
  |some i =>
   simp only[d7,HT.sIx,iK,show(1:Int)>0 by decide,if_true];by_cases h:i<0
   .simp only[h,if_true]<;>omega
   .simp only[h,if_false]<;>omega
 .cases hi with
  |none=>simp[d7,HT.sIx]
  |some i =>
   simp only[d7,HT.sIx,iK,show(1:Int)>0 by decide,if_true];by_cases h:i<0
   .simp only[h,if_true]<;>omega
   .simp only[h,if_false]<;>omega
theorem Ie(its:List a8)(lo hi:Option Int):slicePick its.toArray lo hi a7=((its.drop (HT.sIx its.length 0 lo)).take (HT.sIx its.length its.length hi-HT.sIx its.length 0 lo)).toArray:=by obtain⟨h1,h2,h3⟩:=Et lo hi its.toArray.size;unfold slicePick;rw[h1,h2,h3];simp only[sliceRange_one,pick_run,X7]<;>rfl
def jlk(K:k8m):V->Option Int->Option Int->Hp->VK->Prop:=λx lo hi H Q=>∃a xs,x=.ref a/\SqL K H a xs/\∀p,H p=a7->Q (.ref p) (upd H p (.lst (Ri xs lo hi)))
theorem jbe:SlR X (jlk X.K):=by intro pins s σ H x v vl vu lo hi sl Q I rx hs pl pu h;obtain⟨a,xs,rfl,hx,q⟩:=h;cases rx;obtain⟨its,r,ht,hz⟩:=I.list hx;have hlen:=r.length;refine⟨"list",_,slot_list_getitem.lookup,ht.isList.typeIs,?_⟩;refine wpAny_getItem_list_slice ht.isList hs pl pu .none (by simp) ?_ (by rw[X7]<;>omega);rw[Ie,<-hlen];refine⟨.ref s.heap.objs.size,_,I.laid (t':=s.toks) (o:=.lst (Ri xs lo hi)) (λb ob q=>km _ q) (xx _) ?_,rfl,q _ (I.hok.fresh (xx _))⟩;exact⟨Xj (O6 xs lo hi) hz,_,0,(r.drop (HT.sIx xs.length 0 lo)).take (HT.sIx xs.length xs.length hi-HT.sIx xs.length 0 lo),xu _ rfl⟩
theorem Rm:Jk X (.builtin "len") (λxs H Q=>∃p ys,xs=[.ref p]/\(SqL X.K H p ys\/SqT X.K H p ys)/\Q (.int ys.length) H):=by
 intro pins s σ H xs us Q I r h;obtain⟨p,ys,rfl,hq,q⟩:=h;obtain⟨u,rfl,rx⟩:=vals1 r;cases rx;have hn:=Ut;rcases hq with hq|hq
 .obtain⟨its,r',pl,hz⟩:=I.list hq;have hlen:=r'.length;exact Calls.call_len_list pl.isList (by simp only[X7]<;>omega) ⟨.int ys.length,H,I.tok _,⟨s.toks+1,by rw[X7,hlen]⟩,q⟩
 .obtain⟨its,r',pl,hz⟩:=I.tuple hq;have hlen:=r'.length;exact len_tuple pl (by simp only[X7]<;>omega) ⟨.int ys.length,H,I.tok _,⟨s.toks+1,by rw[X7,hlen]⟩,q⟩
theorem j1e:Jk X (.builtin "len") (λxs H Q=>∃z,xs=[.str z]/\z.length<=ar/\Q (.int z.length) H):=by intro pins s σ H xs us Q I r h;obtain⟨z,rfl,hz,q⟩:=h;obtain⟨u,rfl,t,rfl⟩:=vals1 r;have hn:=Ut;exact len_str nofun ⟨.int z.length,H,I.tok _,⟨_,rfl⟩,q⟩
theorem j1d:Jk X (.type "list") (λxs H Q=>∃p ys,xs=[.ref p]/\(SqL X.K H p ys\/SqT X.K H p ys)/\∀l,H l=a7->Q (.ref l) (upd H l (.lst ys))):=by
 intro pins s σ H xs us Q I r h;obtain⟨p,ys,rfl,hq,q⟩:=h;obtain⟨u,rfl,rx⟩:=vals1 r;cases rx;have fin:∀(its:List a8),Vals ys its->ys.length<=ar->∀(h':aD)(c':Nat),(∀b o',s.heap.get? b=a3 o'->h'.get? b=a3 o') ->
   h'.get? s.heap.objs.size=a3 { cls:=.type "list",dict:=a7,data:=.seq its.toArray c',slots:=#[] }->EP X pins σ Q (.ref s.heap.objs.size) { s with heap:=h' }:=λits r' hz h' c' kp e =>
  ⟨.ref s.heap.objs.size,_,I.laid (t':=s.toks) kp (xx _) (show jh X.prog X.w _ h' _ (.lst ys) from⟨hz,its,c',r',e⟩),rfl,q _ (I.hok.fresh (xx _))⟩
 rcases hq with hq|hq
 .obtain⟨its,r',pl,hz⟩:=I.list hq;have hlen:=r'.length;obtain⟨o,ho,hc,n,hd⟩:=pl.isList;exact mh p (.inl rfl) ho hc hd (λh' c' kp e=>fin its r' hz h' c' kp e) (by simp only[X7]<;>omega)
 .obtain⟨its,r',pl,hz⟩:=I.tuple hq;have hlen:=r'.length;obtain⟨o,ho,hc,n,hd⟩:=pl;exact mh p (.inr rfl) ho hc hd (λh' c' kp e=>fin its r' hz h' c' kp e) (by simp only[X7]<;>omega)
theorem Ii:Jk X (.type "tuple") (λxs H Q=>∃p ys,xs=[.ref p]/\((SqL X.K H p ys/\∀l,H l=a7->Q (.ref l) (upd H l (.tup ys)))\/(SqT X.K H p ys/\Q (.ref p) H))):=by
 intro pins s σ H xs us Q I r h;obtain⟨p,ys,rfl,h⟩:=h;obtain⟨u,rfl,rx⟩:=vals1 r;cases rx;rcases h with ⟨hq,q⟩|⟨hq,q⟩
 .obtain⟨its,r',pl,hz⟩:=I.list hq;have hlen:=r'.length;refine call_tuple_list pl.isList (λh' kp=>?_) (by simp only[X7]<;>omega);have I1:Inv X pins σ H { s with heap:=h' }:=I.kept (t':=s.toks) kp;have I2:Inv X pins σ (upd H h'.objs.size (.tup ys)) { s with heap:=h'.push { cls:=.type "tuple",data:=.seq its.toArray } } :=
   I1.laid (t':=s.toks) (λb o e=>km _ e) (xx _) (show jh X.prog X.w _ _ _ (.tup ys) from⟨hz,its,r',IsTup.new _ _,Zx.new _ _⟩)
  exact⟨.ref h'.objs.size,_,I2,rfl,q _ (I1.hok.fresh (xx _))⟩
 .obtain⟨its,r',pl,hz⟩:=I.tuple hq;exact call_tuple_same pl ⟨.ref p,H,I,rfl,q⟩
def tyV(K:k8m)(T:String)(x:V)(H:Hp):Prop:=match x with
 |.str _=>T = "str"
 |.int _=>T = "int"
 |.ref p=>(T = "list"/\∃xs,SqL K H p xs)\/(T = "tuple"/\∃xs,SqT K H p xs) \/
   (T = "dict"/\((∃kvs,H p=a3 (.dK kvs))\/∃kvs,H p=a3 (.dT kvs)))\/(T = "set"/\∃S n,H p=a3 (.set S n))
 |_=>False
theorem jei{pins:k8o}{σ:St}{H:Hp}{s:af}{T:String}{x:V}{v:a8}(I:Inv X pins σ H s)(r:RelV x v)(ty:tyV X.K T x H) :
  s.TypeIs v T/\∀a,v=.ref a->∃ob,s.heap.get? a=a3 ob/\ob.dict=a7:=by
 cases x with
 |str z =>obtain⟨t,rfl⟩:=r;cases(show T = "str" from ty);exact⟨i3 s z t,λ_ e=>nomatch e⟩
 |int i =>obtain⟨t,rfl⟩:=r;cases(show T = "int" from ty);exact⟨fQ s i t,λ_ e=>nomatch e⟩
 |ref p =>
  cases r;rcases ty with ⟨rfl,xs,hq⟩|⟨rfl,xs,hq⟩|⟨rfl,hk⟩|⟨rfl,S,n,hk⟩
  .obtain⟨its,_,pl,_⟩:=I.list hq;refine⟨pl.isList.typeIs,λa e=>?_⟩;cases e;obtain⟨o,n,e,c,hd,_⟩:=pl;exact⟨o,e,hd⟩
  .obtain⟨its,_,⟨o,e1,e2,_⟩,_⟩:=I.tuple hq;refine⟨⟨o,e1,e2⟩,λa e=>?_⟩;cases e;exact⟨o,e1,I.tupD hq o e1⟩
  .have z:∃o,s.heap.get? p=a3 o/\o.ExactDict:=by
    rcases hk with ⟨kvs,hk⟩|⟨kvs,hk⟩
    .obtain⟨_,_,_,_,o,_,_,e,ex,_⟩:=I.hok p _ hk;exact⟨o,e,ex⟩
    .obtain⟨_,_,_,_,o,_,_,e,ex,_⟩:=I.hok p _ hk;exact⟨o,e,ex⟩
   obtain⟨o,e,ex⟩:=z;refine⟨⟨o,e,ex.1⟩,λa e2=>?_⟩;cases e2;exact⟨o,e,ex.2.1⟩
  .obtain⟨o,_,_,_,e,ex,_⟩:=I.hok p _ hk;refine⟨⟨o,e,ex.1⟩,λa e2=>?_⟩;cases e2;exact⟨o,e,ex.2.1⟩
 |_=>exact aW ty
def tBM(K:k8m)(T:String)(r:V->List V->Hp->VK->Prop)(to:TE)(t:TA):TE:=λσ H Q=>to σ H λx H1=>tyV K T x H1/\t σ H1 λxs H2=>r x xs H2 Q
variable{o e:ao}{es:List ao}{to:TE}{t:TA}{name:aj}{apos cpos:aO}{T id:String}{r:V->List V->Hp->VK->Prop}
theorem Nb (pa:PlainAttrs T) (slot:Slot T name id) (hty:typeOf (.builtin id)=pure (.type "method_descriptor")) (hm:MtR X id r) (ho:PE X o to) (ha:PA X (e::es) t)
  (hbase:bf o name X.env (aA o X.env)=aA o X.env:=by rfl)
  (hfew:((aY cpos (a9 (e::es) X.env)).all (λx=>!x.1)&&(cH cpos (bD [] X.env)).all (λx=>x.1.isSome)
   && decide ((e::es).length+([]:List bx).length+(if ([]:List bx).isEmpty then 0 else 1)<30))=a6:=by rfl)
  (hline:(apos.endLine==cpos.line)=a6:=by rfl) (hs:a9 (e::es) X.env=(a4,aA e X.env)::a9 es X.env:=by rfl) (hplain:(aY cpos (a9 es X.env)).any (·.1)=a4:=by rfl) :
  PE X (.Call (.Attribute o name apos) (e::es) [] cpos) (tBM X.K T r to t):=by
 intro pins s σ H Q I h;refine wpAny_Call_method_late hbase hfew hline rfl (thn (ho pins s σ H _ I h) λv s1 ⟨x,H1,I1,r1,ty,q1⟩=>?_);obtain⟨h1,h2⟩:=jei I1 r1 ty;refine⟨T,id,pa,slot,hty,h1,h2,?_⟩;have hA:=ha cpos pins s1 σ H1 _ I1 q1;rw[hs]at hA ⊢;refine dR (by show(a4 || (aY cpos (a9 es X.env)).any (·.1))=a4;rw[hplain]<;>rfl) (hZ ?_);exact thn hA λus s2 ⟨vs,H2,I2,r2,q2⟩=>hm pins s2 σ H2 x vs v us Q I2 r1 r2 q2
/- xs.append(e),list.index on a module's tuple .. are MtR facts of 06m -/
end
def MtM(X:Cx)(id:String)(r:V->List V->Hp->VK->Prop):Prop :=
 ∀(pins:k8o) (s:af) (σ:St) (H:Hp) (x:V) (xs:List V) (v:a8) (us:List a8) (Q:VK),Inv X pins σ H s->RelV x v->Vals xs us->r x xs H Q ->
  aq (ay X.prog X.w) X.A (call (.builtin id) (v::us)) (EP X pins σ Q) X.xe s
theorem Vals.one{x:V}{us:List a8}(h:Vals [x] us):∃u,us=[u]/\RelV x u:=by cases h with|cons r t=>cases t;exact⟨_,rfl,r⟩
theorem Vals.two:∀{x y:V}{us:List a8},Vals [x,y] us->∃u v,us=[u,v]/\RelV x u/\RelV y v
 |_,_,_,.cons r (.cons q .nil)=>⟨_,_,rfl,r,q⟩
theorem Vals.zero:∀{us:List a8},Vals [] us->us=[]
 |_,.nil=>rfl
theorem Vals.dropLast{xs:List V}{us:List a8}(h:Vals xs us):Vals xs.dropLast us.dropLast:=by
 induction h with
 |nil=>exact .nil
 |cons r t ih =>
  cases t with
  |nil=>exact .nil
  |cons q t'=>exact .cons r ih
theorem Vals.reverse{xs:List V}{us:List a8}(h:Vals xs us):Vals xs.reverse us.reverse:=by
 induction h with
 |nil=>exact .nil
 |cons r t ih=>rw[iY,iY];exact Vals.append ih (.cons r .nil)
theorem Vals.rep{xs:List V}{us:List a8}(h:Vals xs us):∀k:Nat,Vals (ae k xs).flatten (ae k us).flatten
 |0=>.nil
 |k+1=>by rw[pq,pq,Tc,Tc];exact Vals.append h (Vals.rep h k)
theorem foldl_rep(its:List a8):∀(k:Nat)(acc:List a8),
  di (λx1 x2=>x1++x2) acc.toArray (ae k its.toArray)=(acc++(ae k its).flatten).toArray
 |0,acc=>by simp
 |k+1,acc=>by
  have e:acc.toArray++its.toArray=(acc++its).toArray:=by simp
  have e2:(acc++its)++(ae k its).flatten=acc++(ae (k+1) its).flatten:=by rw[pq,Tc,tu]
  rw[<-e2,<-foldl_rep its k (acc++its),<-e,pq,Pz]
section
variable{X:Cx}{pins:k8o}{σ:St}{H:Hp}{s:af}{l b:aa}{xs ys zs:List V}
theorem Inv.lset{its its':List a8}{n:Nat}{f:Array a8->Array a8}{t':Nat}(I:Inv X pins σ H s)(hH:H l=a3 (.lst xs))
  (e:s.heap.get? l=a3 { cls:=.type "list",data:=.seq its.toArray n }) (hf:f its.toArray=its'.toArray) (hv:Vals ys its') (hz:ys.length<=ar) :
  Inv X pins σ (upd H l (.lst ys)) { s with heap:=s.heap.update l (aS f),toks:=t' }:=by
 have q:=PySem.IsL.update e f;rw[hf]at q;refine I.write (x:=l) (e:=l) (by rw[hH];exact trivial) (.inl rfl) (λb' u hb hu=>(gR s.heap (aS f) (cS hb)).trans hu) ⟨_,q⟩ ?_;exact⟨hz,its',_,hv,q⟩
theorem Inv.lnew{its:List a8}{t':Nat}(I:Inv X pins σ H s)(hv:Vals ys its)(hz:ys.length<=ar) :
  Inv X pins σ (upd H s.heap.objs.size (.lst ys)) { s with heap:=s.heap.push { cls:=.type "list",data:=.seq its.toArray },toks:=t' } :=
 I.laid (λ_ _ q=>km _ q) (xx _) ⟨hz,its,0,hv,xu _ rfl⟩
theorem Inv.fresh(I:Inv X pins σ H s):H s.heap.objs.size=a7:=I.hok.fresh (xx _)
theorem Inv.lstM(I:Inv X pins σ H s)(hH:H l=a3 (.lst xs)):xs.length<=ar/\∃(its:List a8)(n:Nat),Vals xs its/\xs.length=its.length/\s.heap.get? l=a3 { cls:=.type "list",data:=.seq its.toArray n }:=by obtain⟨z,its,n,r,e⟩:=I.hok l _ hH;exact⟨z,its,n,r,r.length,e⟩
theorem j0b{n:Nat}(h:n<=ar):bT n=a4:=by unfold bT;exact decide_eq_false nofun
end
section
variable{X:Cx}
def jc4:V->List V->Hp->VK->Prop:=λx vs H Q=>∃l xs y,x=.ref l/\vs=[y]/\H l=a3 (.lst xs)/\xs.length<ar/\Q .non (upd H l (.lst (xs++[y])))
theorem K6:MtM X "list.append" jc4:=by intro pins s σ H x vs v us Q I rx rv h;obtain⟨l,xs,y,rfl,rfl,hH,hz,q⟩:=h;cases rx;obtain⟨u,rfl,ru⟩:=rv.one;obtain⟨z,its,n,r,hl,e⟩:=I.lstM hH;refine cq hV ⟨_,e,rfl⟩ F.entry_list_append (F.args_list_append_2 _ _) (PySem.list_append l its.toArray n u (by rw[X7];omega)) ⟨e,?_⟩;refine⟨.non,_,I.lset (its':=its++[u]) hH e (by simp) (r.append (.cons ru .nil)) ?_,rfl,q⟩;rw[Xf,eF];omega
def jc3:V->List V->Hp->VK->Prop:=λx vs H Q=>∃l b xs zs,x=.ref l/\vs=[.ref b]/\H l=a3 (.lst xs)/\H b=a3 (.lst zs)/\xs.length+zs.length<=ar/\Q .non (upd H l (.lst (xs++zs)))
theorem j5u:MtM X "list.extend" jc3:=by
 intro pins s σ H x vs v us Q I rx rv h;obtain⟨l,b,xs,zs,rfl,rfl,hH,hB,hz,q⟩:=h;cases rx;obtain⟨u,rfl,ru⟩:=rv.one;cases ru;obtain⟨z,its,n,r,hl,e⟩:=I.lstM hH;obtain⟨z2,its2,n2,r2,hl2,e2⟩:=I.lstM hB;have hsz:its.toArray.size+its2.toArray.size<=ar:=by rw[X7,X7];omega
 have hlong:¬(!its.toArray.isEmpty&&bT (its.toArray.size+its2.toArray.size))=a6:=by rw[j0b hsz,gn];exact xm
 refine cq hJ ⟨_,e,rfl⟩ F.entry_list_extend (F.args_list_extend_2 _ _)
  (AutoSeq1.list_extend_list_list_0 l its.toArray n b its2.toArray n2 hlong (by rw[X7];omega) nofun) ⟨e,e2,?_⟩
 refine⟨.non,_,I.lset (its':=its++its2) hH e (by simp) (r.append r2) ?_,rfl,q⟩;rw[Xf];omega
def jlm:R2:=λx y H Q=>∃l k xs,x=.ref l/\y=.int k/\H l=a3 (.lst xs)/\-(2^63)<=k/\k<2^63/\xs.length*k.toNat<=ar /\
 ∀p,H p=a7->Q (.ref p) (upd H p (.lst (ae k.toNat xs).flatten))
theorem len_rep{α:Type}(xs:List α)(k:Nat):(ae k xs).flatten.length=k*xs.length:=by
 induction k with
 |zero=>simp
 |succ k ih=>rw[pq,Tc,Xf,ih,kZ,Nat.add_comm]
theorem jft:OpR X (bj .Mult) jlm:=by
 intro pins s σ H x y v u Q I rx ry h;obtain⟨l,k,xs,rfl,rfl,hH,h1,h2,hz,q⟩:=h;cases rx;obtain⟨t,rfl⟩:=ry;obtain⟨z,its,n,r,hl,e⟩:=I.lstM hH;have hlen:its.toArray.size*k.toNat<=ar:=by rw[X7,<-hl];exact hz
 have hcap:¬its.toArray.size*k.toNat>(2^63-1)/8:=by
  have:(ar:Nat)<=(2^63-1)/8:=by decide
  omega
 have hfit:¬(!Builtin.List.listFitsIndex k)=a6:=by rw[fitsIndex_both h1 h2];exact xm
 have hlong:¬bT (its.toArray.size*k.toNat)=a6:=by rw[j0b hlen];exact xm
 have hnew:di (λx1 x2=>x1++x2) #[] (ae (if its.toArray.isEmpty=a6 then 0 else k.toNat) its.toArray)=(ae k.toNat its).flatten.toArray:=by
  have f0:∀m:Nat,di (λx1 x2=>x1++x2) #[] (ae m its.toArray)=(ae m its).flatten.toArray:=λm=>by have:=foldl_rep its m [];rw[cV]at this;exact this
  rw[f0];cases its with
  |nil=>simp
  |cons a r'=>rw[if_neg (by simp)]
 refine ir (T:="list") (U:="int") (by decide) ⟨_,e,rfl⟩ (λs'=>fQ s' k t) noFill_list_mul kv eN repeat_list F.slot_int_index.lookup
  (cq eN (fQ s k t) k8 (k5 _ _) (int___rmul___int_list k t l its.toArray n)
   ⟨e,rfl,⟨_,e,rfl⟩,cq F.slot_list_mul ⟨_,e,rfl⟩ F.entry_list_mul (F.args_list_mul_2 _ _) (AutoListH.list___mul___list_int_3 l its.toArray n k t hfit hcap hlong) ⟨e,?_⟩⟩)
 rw[hnew];exact⟨.ref _,_,I.lnew (t':=s.toks) (r.rep k.toNat) (by rw[len_rep,eA];exact hz),rfl,q _ I.fresh⟩
end
section
variable{prog:av}{w:az}{A:aC}{E:k8n}{s:af}
end
section
variable{X:Cx}
end
end L2
namespace Att
open PySem PySem.W PySem.Calls PyProof.Rows
theorem Nq{P:lW}{h:aD}:∀(ns:List Int)(vs:List a8),WellAll P h vs (ns.map WData.int)->cZ vs ns:=by
 intro ns;induction ns with
 |nil =>intro vs w;rw[d4]at w;cases w;exact .nil
 |cons n ns ih =>
  intro vs w;rw[Xa]at w;cases w with
  |cons a b =>cases a;exact .cons _ _ (ih _ b)
theorem j50{l:dB}{n:Nat}(hn:l.most=a3 n){P:lW}{h:aD}{args:List WData}{vals:List a8}
  (hpre:l.row.toRowW.claim.pre args=a6) (hwl:WellAll P h vals args) :
  ∃a vs ns,vals=[aB a]/\args=[WData.list (ns.map WData.int)]/\h.get? a=a3 { cls:=.type "list",data:=.seq vs.toArray }/\cZ vs ns/\ns.length<=n:=by
 have hsh:WShape.hasAll [] args [.list .int]=a6:=(pre_splitW hpre).1;have hc:l.pre.holds [] { args:=args }=a6:=(pre_splitW hpre).2;obtain⟨d,r,rfl,h1,h2⟩:=hasAllW_cons hsh;obtain rfl:=hasAllW_nil h2;obtain⟨xs,rfl,h3⟩:=hasW_list h1;obtain⟨ns,rfl⟩:=items_int h3;have hlen:ns.length<=n:=by
  unfold OpenLaw.pre at hc;have h4:(WTm.not (.lt (.lit (.int (n:Int))) (.len (.arg 0)))).holds [] { args:=[.list (ns.map .int)] }=a6:=by have h4:=(holds_andW hc).1;rw[hn]at h4;exact h4
  have h5:=condW_of h4 (w_not (w_lt w_lit (w_len_list (w_arg rfl))));rw[xg]at h5;refine Nat.le_of_not_lt λq=>?_;have q':(n:Int)<((ns.length:Nat):Int):=by omega
  first
   |(rw[decide_eq_true q']at h5;exact absurd h5 (by decide))
   |(simp at h5;omega)
 cases hwl with
 |cons w1 w2 =>
  cases w2;cases w1 with
  |list ho hall=>exact⟨_,_,ns,rfl,rfl,ho,Nq ns _ hall,hlen⟩
theorem j5c(l:dB)(args:List WData):l.row.toRowW.claim.post args (.bool a6) args=a6 :=
 postW_of (r:=l.row.toRowW) (X:=(a6==a6))
  (show WShape.has [] (.bool a6) .bool=a6 by first|rfl|decide|simp[WShape.has,WShape.arms,WShape.armsAll])
  (show(WTm.eq .res (.lit (.bool a6))).value [] { args:=args,res:=a3 (.bool a6),after:=args }=a3 (.bool (a6==a6))from w_eq_bool (w_res rfl) w_lit) rfl
theorem attach_call{l:dB}{n:Nat}{q:av}{loose:List aj}{XP:(aj->Option a8)->aD->Prop}{YP:az->aD->Prop}{d:DefRec}
  (hn:l.most=a3 n) (hdf:d.params.defaults=[])
  (call:∀(w:az)(s₀ s₁:af)(mg mb:k8p)(fa:aa)(o:dz)(pm cd doc:a8)(a:aa) (vs:List a8) (ns:List Int),
   Ground q loose [] XP w s₀ mg mb s₁.heap->YP w s₁.heap ->
   s₁.heap.get? fa=a3 o->o.data=.func (docDef d.name d.params d.body d.scope pm cd doc)->s₁.heap.CodeRec cd d.name->mg d.name=a3 (.ref fa) ->
   s₁.heap.get? a=a3 { cls:=.type "list",data:=.seq vs.toArray }->cZ vs ns->ns.length<=n->s₁.gens = #[] ->
   c8 (ay l.prog w) gb (.call (.ref fa) ⟨[.ref a],[]⟩) (λr s'=>r=.ok (.ret (.bool a6))/\OldK s₁.heap s'.heap/\s'.os=s₁.os/\dW s'.gens) s₁) :
  iz q loose XP YP l.row.toRowW d [] (λf vs=>fb f vs):=by
 intro w s₀ s₁ mg mb G Y fa o pm cd doc dV kV ho hd hcd hD hmg hg args vals as hpre hlay hrd hwl hlo;obtain rfl:dV=.none:=Dflts.none hD hdf;obtain rfl:kV=.none:=Dflts.noKw hD;obtain⟨a,vs,ns,rfl,rfl,hobj,hints,hlen⟩:=j50 hn hpre hwl;refine enter_call (bB (call w s₀ s₁ mg mb fa o pm cd doc a vs ns G Y ho (fd_plain hd) hcd hmg hobj hints hlen hg) λr s' hq=>?_);obtain⟨rfl,h2,h3,h4⟩:=hq;exact⟨.inl ⟨.bool a6,.bool a6,[],rfl,λ_=>rfl,.bool a6,j5c l _,λ_=>⟨List.Pairwise.nil,λ_ hm=>(nomatch hm)⟩⟩,h2,h3,h4⟩
section
variable{prog:av}{w:az}{A:aC}{E:k8n}{s:af}{K:lP}
end
end Att
namespace L2
open PySem PySem.Spec PyProof.Rows
theorem Lh:∀{vs:List a8}{ns:List Int},cZ vs ns->Vals (ns.map V.int) vs
 |_,_,.nil=>.nil
 |_,_,.cons n t h=>.cons ⟨t,rfl⟩ (Lh h)
def Only(ts:List (aa×aj))(H:Hp):Prop:=(∀b,H b=a7\/(∃o xs,H b=a3 (.frz o (.lst xs)))\/∃q,(b,q)∈ts/\H b=a3 (.cod q))/\∀t∈ts,H t.1=a3 (.cod t.2)
def ja5(ts:List (aa×aj))(h:aD):Prop:=(ts.map (·.1)).Nodup/\∀t∈ts,(∃c,iN h c t.1)/\h.get? t.1=a3 (W.tabObj #[])
theorem j29:∀{ts:List (aa×aj)} {b:aa} {q:aj},ts.lookup b=a3 q->(b,q)∈ts
 |p::r,b,q,h=>by
  rw[Xl]at h;cases e:b==p.1 with
  |true=>rw[e]at h;cases h;rw[beq_iff_eq.mp e];exact xq ..
  |false=>rw[e]at h;exact xf _ (j29 h)
theorem lookup_tab:∀{ts:List (aa×aj)},(ts.map (·.1)).Nodup->∀t∈ts,ts.lookup t.1=a3 t.2
 |[],_,_,h=>by cases h
 |p::r,nd,t,ht=>by
  rw[Xa]at nd;rcases xn.mp ht with e|ht
  .subst e;rw[Xl,beq_self_eq_true]
  .have ne:(t.1==p.1)=a4:=beq_eq_false_iff_ne.mpr λz=>(Xn.mp nd).1 (z▸eX ht);rw[Xl,ne];exact lookup_tab (Xn.mp nd).2 t ht
theorem j8h{P:av}{w:az}{K:k8m}{mg mb:k8p}{CX:CXT}{k:Nat}{fa a:aa}{fd:aQ}{x:aj}{sp:Sp}{s₁:af}{vs:List a8}{ns:List Int}{ts:List (aa×aj)}
  (KX:K.In s₁.heap) (hns:s₁.heap.Ns au mg) (hb:s₁.heap.Ns dM mb) (hbb:∀x:aj,x ≠ "__name__"->mb x=bh x) (hlim:s₁.heap.NoLimit)
  (hbm:∃bm ob,mg "__builtins__" = a3 (.ref bm)/\bm≠dM/\s₁.heap.get? bm=a3 ob/\ob.cls=.type "module"/\ob.dict=a3 dM/\ob.data=.plain) (hT:ja5 ts s₁.heap) (hK0:W.noTabs K=a6) (hg:s₁.gens = #[])
  (ha:s₁.heap.get? a=a3 { cls:=.type "list",data:=.seq vs.toArray }) (hi:cZ vs ns) (hl:ns.length<=ar) (hr:Room k gb)
  (F:∀base:aD,K.In base->base.Ns au mg->FnOk P w K mg base CX k fa fd [x] sp) (hbind:∀(s:af)(u:a8),dA s fd ⟨[u],[]⟩ [(x,u)])
  (hsp:∀H:Hp,Only ts H->SqL K H a (ns.map V.int)->sp [.ref a] H (λv H'=>v=.bl a6/\∀b o,H b=a3 o->H' b=a3 o) λ_ _ _=>False)
  (hCX:∀H e s',CX [] H s₁ (λ_ _ _=>False) e s'->False) :
  c8 (ay P w) gb (.call (.ref fa) ⟨[.ref a],[]⟩) (λr s'=>r=.ok (.ret (.bool a6))/\OldK s₁.heap s'.heap/\s'.os=s₁.os/\dW s'.gens) s₁:=by
 have rv:=Lh hi;have lenV:=hi.length;have at_:∀{q:aj}{b:aa},(b,q)∈ts->s₁.heap.get? b=a3 (W.tabObj #[]):=λ{q b} h=>(hT.2 _ h).2;have core:∀H:Hp,Only ts H->SqL K H a (ns.map V.int)->HOk P w H s₁.heap->(∀b,H b≠a7->b=a\/∃q,(b,q)∈ts)->(H a≠a7->K.lookup a=a7) ->
   c8 (ay P w) gb (.call (.ref fa) ⟨[.ref a],[]⟩) (λr s'=>r=.ok (.ret (.bool a6))/\OldK s₁.heap s'.heap/\s'.os=s₁.os/\dW s'.gens) s₁:=by
  intro H hO hS hok hA hK;have base_of:∀{b:aa}{o:dz},s₁.heap.get? b=a3 o->H b=a7->(W7 s₁.heap H).get? b=a3 o:=λe n=>j92 e n;have noA:∀{b:aa}{o:dz},s₁.heap.get? b=a3 o->(∀vs n,o.data≠.seq vs n)->(∀vs,o.data≠.fields vs)->H b=a7:=λ{b o} e d d2=>by
   cases q:H b with
   |none=>rfl
   |some u =>
    rcases hA b (by rw[q];simp)with e'|⟨q',e'⟩
    .subst e';rw[ha]at e;cases e;exact absurd rfl (d _ _)
    .rw[at_ e']at e;cases e;exact absurd rfl (d2 _)
  have nsK:∀{b:aa}{m:k8p},s₁.heap.Ns b m->(W7 s₁.heap H).Ns b m:=λ{b m} ⟨o,es,ep,e,d,r⟩=>⟨o,es,ep,base_of e (noA e (λ_ _ z=>by rw[d]at z;cases z) λ_ z=>by rw[d]at z;cases z),d,r⟩
  have hKb:K.In (W7 s₁.heap H):=λb o e=>base_of (KX b o e) (by
   cases q:H b with
   |none=>rfl
   |some u =>
    rcases hA b (by rw[q];simp)with e'|⟨q',e'⟩
    .subst e'
     rw[hK (by rw[q];simp)]at e;cases e
    .have e2:=KX b o e
     rw[at_ e']at e2
     have h2:=T7.mp hK0 (b,o) (W.mem_of_lookupK e)
     cases e2
     exact absurd (show a4=a6 from h2) xm)
  have hM:Mod K mg (W7 s₁.heap H):=⟨hKb,nsK hns,⟨mb,nsK hb,hbb⟩,(let ⟨mc,h1,h2⟩:=hlim;⟨mc,nsK h1,h2⟩),
   let ⟨bm,ob,b1,b2,b3,b4,b5,b6⟩:=hbm;⟨bm,ob,b1,b2,base_of b3 (noA b3 (λ_ _ z=>by rw[b6]at z;cases z) λ_ z=>by rw[b6]at z;cases z),b4,b5,b6⟩⟩
  have e0:Env0 P w K mg (W7 s₁.heap H) gb [] s₁ H:=⟨rfl,hM,λb o e=>jch e,Nat.le_of_eq (j6h _ _),trivial,λb hb=>absurd (show b∈([]:List aa)from hb) (by simp),hok,.of_eq hg⟩
  refine bB ((F _ hKb (nsK hns)).run gb [] s₁ H ⟨[.ref a],[]⟩ [.ref a] [.ref a] _ _ hr e0 (hbind s₁ (.ref a)) (.cons rfl .nil) (hsp H hO hS)) λr s' h=>?_;cases r with
  |error e=>exact(hCX H e s' h).elim
  |ok fl =>
   cases fl with
   |next=>exact aW h
   |brk=>exact aW h
   |cont=>exact aW h
   |ret u =>
    obtain⟨v,H',os,bare,un,hok',r',q,sm⟩:=h;have q':v=.bl a6:=q;subst q';obtain rfl:u=bJ a6:=r';have main:∀b o,s₁.heap.get? b=a3 o->s'.heap.get? b=a3 o\/((∃q,(b,q)∈ts)/\o=W.tabObj #[]/\∃ps,s'.heap.get? b=a3 (W.tabObj ps)):=λb o e=>by
     cases q:H b with
     |none=>exact .inl (un.keep b o e q (by intro z;exact absurd (show b∈([]:List aa)from z) (by simp)) (by simp))
     |some u =>
      rcases hO.1 b with z|⟨ob,xs,z⟩|⟨q',hq,z⟩
      .rw[q]at z;cases z
      .have z2:=un.frzs b ob _ z;obtain⟨e1,_⟩:=hok b _ z;obtain⟨e2,_⟩:=hok' b _ z2;rw[e]at e1;cases e1;exact .inl e2
      .obtain⟨ps,e2,_⟩:=(show jh P w H' s'.heap b (.cod q')from hok' b _ (sm b _ z))
       rw[at_ hq]at e;exact .inr ⟨⟨q',hq⟩,(aw e).symm,ps,e2⟩
    refine⟨rfl,⟨λb o e=>?_,λb o e=>?_⟩,os,bare⟩
    .rcases main b o e with z|⟨⟨q,hq⟩,rfl,ps,z⟩
     .exact .inl z
     .obtain⟨c,hc⟩:=(hT.2 _ hq).1;exact .inr (.inl ⟨(hc.tab (at_ hq)).isCodeTable,rfl,#[],ps,rfl,by rw[z,Array.empty_append]⟩)
    .rcases main b o e with z|⟨_,_,ps,z⟩
     .exact⟨o,z⟩
     .exact⟨_,z⟩
 have lkT:∀b q,ts.lookup b=a3 q->(b,q)∈ts:=λb q h=>j29 h;have ofT:∀t∈ts,ts.lookup t.1=a3 t.2:=lookup_tab hT.1;have okT:∀(H:Hp) b q,(b,q)∈ts->jh P w H s₁.heap b (.cod q):=λH b q h=>⟨#[],at_ h,trivial,λpos cv z=>by cases z⟩
 cases hk:K.lookup a with
 |some o =>
  have e:=KX a o hk;rw[ha]at e;cases e;refine core (λb=>(ts.lookup b).map HO.cod) ⟨λb=>?_,λt ht=>by show(ts.lookup t.1).map HO.cod=_;rw[ofT t ht];rfl⟩ (.inr ⟨_,vs.toArray,_,hk,rfl,rfl,rfl,by rw[X7,lenV];exact hl,by simpa using rv⟩) (λb u z=>?_) (λb z=>?_) λz=>?_
  .cases e:ts.lookup b with
   |none=>exact .inl (by show(ts.lookup b).map HO.cod=_;rw[e];rfl)
   |some q=>exact .inr (.inr ⟨q,lkT b q e,by show(ts.lookup b).map HO.cod=_;rw[e];rfl⟩)
  .obtain⟨q,e,rfl⟩:=Pb.mp z;exact okT _ b q (lkT b q e)
  .cases e:ts.lookup b with
   |none=>exact absurd (by show(ts.lookup b).map HO.cod=_;rw[e];rfl) z
   |some q=>exact .inr ⟨q,lkT b q e⟩
  .cases e:ts.lookup a with
   |none=>exact absurd (by show(ts.lookup a).map HO.cod=_;rw[e];rfl) z
   |some q=>have:=at_ (lkT a q e);rw[ha]at this;cases this
 |none =>
  have na:∀q,(a,q)∉ts:=λq h=>by have:=at_ h;rw[ha]at this;cases this
  refine core (λb=>if b=a then a3 (.frz { cls:=.type "list",data:=.seq vs.toArray } (.lst (ns.map V.int))) else(ts.lookup b).map HO.cod) ⟨λb=>?_,λt ht=>?_⟩ (.inl (.inr ⟨{ cls:=.type "list",data:=.seq vs.toArray },if_pos rfl⟩)) (λb u z=>?_) (λb z=>?_) λ_=>hk
  .by_cases hb:b=a
   .exact .inr (.inl ⟨_,_,if_pos hb⟩)
   .cases e:ts.lookup b with
    |none=>exact .inl (by show(if b=a then _ else _)=_;rw[if_neg hb,e];rfl)
    |some q=>exact .inr (.inr ⟨q,lkT b q e,by show(if b=a then _ else _)=_;rw[if_neg hb,e];rfl⟩)
  .have nb:t.1≠a:=λz=>na t.2 (z▸ht);show(if t.1=a then _ else _)=_;rw[if_neg nb,ofT t ht];rfl
  .by_cases hb:b=a
   .have z':=(if_pos hb).symm.trans z;cases z';subst hb;exact⟨ha,by rw[xg];exact hl,vs,_,rv,ha⟩
   .have z':=(if_neg hb).symm.trans z;obtain⟨q,e,rfl⟩:=Pb.mp z';exact okT _ b q (lkT b q e)
  .by_cases hb:b=a
   .exact .inl hb
   .cases e:ts.lookup b with
    |none=>exact absurd (by show(if b=a then _ else _)=_;rw[if_neg hb,e];rfl) z
    |some q=>exact .inr ⟨q,lkT b q e⟩
theorem walk_of{l:dB}{n k:Nat}{q:av}{loose:List aj}{XP:(aj->Option a8)->aD->Prop}{YP:az->aD->Prop}{d:DefRec}{K:lW->k8m}{CX:az->CXT}{sp:az->Sp}{x:aj}{ts:az->List (aa×aj)}
  (hn:l.most=a3 n) (hn2:n<=ar) (hdf:d.params.defaults=[]) (hr:Room k gb)
  (hY:∀(w:az)(h:aD),YP w h->(K w.params).In h/\ja5 (ts w) h) (hK0:∀w:az,W.noTabs (K w.params)=a6)
  (F:∀(w:az)(mg:k8p)(fa:aa)(h:aD),(K w.params).In h->h.Ns au mg->mg d.name=a3 (.ref fa) ->
   ∃fd:aQ,(∀(s:af)(u:a8),dA s fd ⟨[u],[]⟩ [(x,u)]) /\
    ∀base:aD,(K w.params).In base->base.Ns au mg->FnOk l.prog w (K w.params) mg base (CX w) k fa fd [x] (sp w))
  (hsp:∀(w:az)(H:Hp)(a:aa)(ns:List Int),ns.length<=n->Only (ts w) H->SqL (K w.params) H a (ns.map V.int)->sp w [.ref a] H (λv H'=>v=.bl a6/\∀b o,H b=a3 o->H' b=a3 o) λ_ _ _=>False)
  (hCX:∀(w:az)(H:Hp)(s:af)(e:a8)(s':af),CX w [] H s (λ_ _ _=>False) e s'->False) :
  iz q loose XP YP l.row.toRowW d [] (λf vs=>fb f vs):=by
 refine Att.attach_call hn hdf λw s₀ s₁ mg mb fa o pm cd doc a vs ns G Y ho hd hcd hmg hobj hints hlen hg=>?_;obtain⟨KX,hT⟩:=hY w _ Y;obtain⟨fd,hb,hF⟩:=F w mg fa _ KX G.T.g hmg;exact j8h KX G.T.g G.T.b G.T.builtins G.T.nolimit G.T.bmain hT (hK0 w) hg hobj hints (Xj hlen hn2) hr hF hb (λH hO hS=>hsp w H a ns hlen hO hS) λH e s'=>hCX w H s₁ e s'
end L2
/- THE LAST THEOREM (shape;LID,My.* are yours):
 My.Adr: a structure of the addresses that your layer names (classes,functions);My.Txt K t: a structure (Prop) of the equations over K;
 My.txt_mk:{K} {implicit addresses ..} (e1:cy K au "law" = a3 (a3 (.ref f))) (e2:K.lookup f=a3 ⟨oc,od,.func (fnOf "law" "law" params body scope dV kV doc pm an cdv ct),sl⟩) (e3:codeIn K cdv "law" = a6) ..:∃t,My.Txt K t
(the tactic k_is has no namespace: write k_is) -/
namespace L2
open PySem PySem.Spec PyProof.Rows
noncomputable def v7(s:bp):dC:=match s with
 |.FunctionDef _ a _ _ _ _ _ _ _ _=>a
 |_=>{ posonlyargs:=[],args:=[],vararg:=a7,kwonlyargs:=[],kw_defaults:=[],kwarg:=a7,defaults:=[] }
noncomputable def jr(s:bp):List bp:=match s with
 |.FunctionDef _ _ b _ _ _ _ _ _ _=>b
 |_=>[]
noncomputable def jb(s:bp):br:=match s with
 |.FunctionDef _ _ _ _ _ _ sc _ _ _=>sc
 |_=>{ kind:=.function,names:=[],isGenerator:=a4,isCoroutine:=a4 }
noncomputable abbrev CX0:CXT:=λ_ _ _ _ _ _=>False
noncomputable abbrev E0:XK:=λ_ _ _=>False
theorem Im{X:Cx}:j1k CX0 X E0:=λ_ _ _ _ _ _ _ h=>h.elim
structure Fun(K:k8m)(x qual:aj)(st:bp)(f:aa)(fd:aQ):Prop where
 ex:∃(oc:a8)(od:Option aa)(dV kV doc pm:a8)(an:Option aa)(cdv ct:a8)(osl:Array (Option a8)),
  fd=W.fnOf x qual (v7 st) (jr st) (jb st) dV kV doc pm an cdv ct/\K.lookup f=a3 ⟨oc,od,.func fd,osl⟩/\W.codeIn K cdv qual=a6
 kp:W.keepIn K (.ref f)=a6
section
variable{P:av}{w:az}{K:k8m}{mg:k8p}{base:aD}
theorem Fun.binds{x qual:aj}{st:bp}{f:aa}{kV doc pm:a8}{an:Option aa}{cdv ct:a8}{ps:List aj}(F:Fun K x qual st f (W.fnOf x qual (v7 st) (jr st) (jb st) .none kV doc pm an cdv ct))
  (h:∀(kV doc pm:a8)(an:Option aa)(cdv ct:a8)(us:List a8),us.length=ps.length->fj (W.fnOf x qual (v7 st) (jr st) (jb st) .none kV doc pm an cdv ct) ⟨us,[]⟩=pure (ps.zip us)):Binds K (W.fnOf x qual (v7 st) (jr st) (jb st) .none kV doc pm an cdv ct) ps []:=.all (h kV doc pm an cdv ct)
theorem Nu{x qual:aj}{st:bp}{f:aa}{oc:a8}{od an:Option aa}{osl:Array (Option a8)}{dV kV doc pm cdv ct:a8}(l:K.lookup f=a3 ⟨oc,od,.func (W.fnOf x qual (v7 st) (jr st) (jb st) dV kV doc pm an cdv ct),osl⟩)
  (c:W.codeIn K cdv qual=a6) (k:W.keepIn K (.ref f)=a6):Fun K x qual st f (W.fnOf x qual (v7 st) (jr st) (jb st) dV kV doc pm an cdv ct):=⟨⟨oc,od,dV,kV,doc,pm,an,cdv,ct,osl,rfl,l,c⟩,k⟩
end
section
variable{X:Cx}
end
theorem j0o{A B:Prop}(h:B):if a4=a6 then A else B:=by rw[if_neg xm];exact h
theorem j0n{A B:Prop}(h:A):if a6=a6 then A else B:=by rw[if_pos rfl];exact h
def j0(H H':Hp):Prop:=∀b o,H b=a3 o->H' b=a3 o
theorem j0.refl(H:Hp):j0 H H:=λ_ _ h=>h
theorem j0.trans{H H1 H2:Hp}(a:j0 H H1)(b:j0 H1 H2):j0 H H2:=λc o h=>b c o (a c o h)
theorem j0.free{H H':Hp}(e:j0 H H'){l:aa}(h:H' l=a7):H l=a7:=by
 cases q:H l with
 |none=>rfl
 |some o =>rw[e l o q]at h;cases h
theorem j0.seq{K:k8m}{H H':Hp}{a:aa}{xs:List V}(e:j0 H H')(h:SqL K H a xs):SqL K H' a xs:=by
 rcases h with (h|⟨o,h⟩)|h
 .exact .inl (.inl (e _ _ h))
 .exact .inl (.inr ⟨o,e _ _ h⟩)
 .exact .inr h
set_option genInjectivity true in
inductive D where
 |non
 |bl (b:Bool)
 |int (i:Int)
 |str (x:aj)
 |tup (ds:List D)
 |lst (ds:List D)
 |dct (ks:List (List Int)) (ds:List D)
 |sct (kvs:List (aj×Int))
 |fn (x:aj) (cs:List D)
noncomputable def kvI(kvs:List (aj×Int)):List (Key×V):=kvs.map λp=>(.inr p.1,.int p.2)
noncomputable def jx(x:aj):aj:=x ++ ".<locals>." ++ "<lambda>"
noncomputable abbrev Tx:=dC×ao×br
noncomputable def jlq:ao->Option Tx
 |.Lambda a b sc _=>a3 (a,b,sc)
 |.Call _ es _ _=>match es.getLast? with
  |some (.Lambda a b sc _)=>a3 (a,b,sc)
  |_=>a7
 |_=>a7
noncomputable def Ox(b:List bp):Option Tx:=match b.getLast? with
 |some (.Return (a3 e) _)=>jlq e
 |_=>a7
noncomputable def Qt(K:k8m)(x:aj):Option Tx:=match W.nsIn K au x with
 |some (a3 (.ref f))=>match K.lookup f with
  |some ⟨_,_,.func fd,_⟩=>match fd.body with
   |.stmts b=>Ox b
   |_=>a7
  |_=>a7
 |_=>a7
noncomputable def zy(sc:br):List aj:=((sc.names.filter λp=>p.2==.free).map (·.1)).reverse
def vg(H:Hp):List aa->List V->Prop
 |[],vs=>vs=[]
 |c::cs,vs=>∃v r o u,vs=v::r/\H c=a3 (.frz o (.own 0))/\o.data=.cell (a3 u)/\RelV v u/\vg H cs r
theorem vg.mono{H H':Hp}(g:j0 H H'):∀{cs:List aa}{vs:List V},vg H cs vs->vg H' cs vs
 |[],_,h=>h
 |_::_,_,⟨v,r,o,u,e,h,d,rv,l⟩=>⟨v,r,o,u,e,g _ _ h,d,rv,l.mono g⟩
structure LamAt(K:k8m)(H:Hp)(x:aj)(a c:aa)(t:Tx)(cl:List (aj×aa))(vs:List V):Prop where
 tx:Qt K x=a3 t
 fo:∃pm ctv,H a=a3 (.frz (W.kla_obj "<lambda>" (jx x) t.1 t.2.1 t.2.2 cl pm c ctv) (.own 0))
 co:∃oc,H c=a3 (.frz oc (.own 0))/\Mv oc (jx x)
 nm:cl.map (·.1)=zy t.2.2
 nd:(cl.map (·.2)).Nodup
 cs:vg H (cl.map (·.2)) vs
theorem LamAt.mono{K:k8m}{H H':Hp}{x:aj}{a c:aa}{tx:Tx}{cl:List (aj×aa)}{vs:List V}(g:j0 H H')(h:LamAt K H x a c tx cl vs):LamAt K H' x a c tx cl vs :=
 ⟨h.tx,let ⟨pm,ctv,e⟩:=h.fo;⟨pm,ctv,g _ _ e⟩,let ⟨oc,e,q⟩:=h.co;⟨oc,g _ _ e,q⟩,h.nm,h.nd,h.cs.mono g⟩
noncomputable def del(H:Hp)(A:List aa):Hp:=λb=>if b∈A then a7 else H b
section
variable{H H' F:Hp}{A A':List aa}{a b:aa}{o:HO}
theorem qy(h:b∈A):del H A b=a7:=if_pos h
theorem j7(h:b∉A):del H A b=H b:=if_neg h
theorem of_del(h:del H A b=a3 o):b∉A/\H b=a3 o:=by
 by_cases e:b∈A
 .rw[qy e]at h;cases h
 .rw[j7 e]at h;exact⟨e,h⟩
theorem je(g:j0 H H'):j0 (del H A) (del H' A):=λb o h=>by obtain⟨n,e⟩:=of_del h;rw[j7 n];exact g b o e
end
theorem j0.seqT{K:k8m}{H H':Hp}{a:aa}{xs:List V}(e:j0 H H')(h:SqT K H a xs):SqT K H' a xs:=by
 rcases h with (h|⟨o,h⟩)|h
 .exact .inl (.inl (e _ _ h))
 .exact .inl (.inr ⟨o,e _ _ h⟩)
 .exact .inr h
mutual
def Enc(K:k8m)(H:Hp):D->V->Prop
 |.non,v=>v=.non
 |.bl b,v=>v=.bl b
 |.int i,v=>v=.int i
 |.str x,v=>v=.str x
 |.tup ds,v=>∃a xs,v=.ref a/\SqT K H a xs/\j5 K H ds xs
 |.lst ds,v=>∃a xs,v=.ref a/\SqL K H a xs/\j5 K H ds xs
 |.dct ks ds,v=>∃(a:aa)(xs:List (List Int×aa×a8)) (ep:Nat) (vs:List V),v=.ref a/\H a=a3 (.dI xs ep)/\ks=(xs.map λx=>x.1)/\(∀x∈xs,SqT K H x.2.1 (x.1.map V.int))/\Vals vs (xs.map λx=>x.2.2)/\j5 K H ds vs
 |.sct kvs,v=>∃a:aa,v=.ref a/\H a=a3 (.dK (kvI kvs))
 |.fn x ds,v=>∃(a c:aa)(tx:Tx)(cl:List (aj×aa)) (vs:List V),v=.ref a/\LamAt K H x a c tx cl vs/\j5 K (del H (cl.map (·.2))) ds vs
def j5(K:k8m)(H:Hp):List D->List V->Prop
 |[],xs=>xs=[]
 |d::ds,xs=>∃x r,xs=x::r/\Enc K H d x/\j5 K H ds r
end
mutual
theorem Enc.mono{K:k8m}{H H':Hp}(g:j0 H H'):∀{d:D}{v:V},Enc K H d v->Enc K H' d v
 |.non,_,h=>h
 |.bl _,_,h=>h
 |.int _,_,h=>h
 |.str _,_,h=>h
 |.tup _,_,⟨a,xs,e,q,l⟩=>⟨a,xs,e,g.seqT q,j5.mono g l⟩
 |.lst _,_,⟨a,xs,e,q,l⟩=>⟨a,xs,e,g.seq q,j5.mono g l⟩
 |.dct _ _,_,⟨a,xs,ep,vs,e,q,ek,kt,rv,l⟩=>⟨a,xs,ep,vs,e,g _ _ q,ek,λx hx=>g.seqT (kt x hx),rv,j5.mono g l⟩
 |.sct _,_,⟨a,e,q⟩=>⟨a,e,g _ _ q⟩
 |.fn _ _,_,⟨a,c,tx,cl,vs,e,q,l⟩=>⟨a,c,tx,cl,vs,e,q.mono g,j5.mono (je g) l⟩
theorem j5.mono{K:k8m}{H H':Hp}(g:j0 H H'):∀{ds:List D}{xs:List V},j5 K H ds xs->j5 K H' ds xs
 |[],_,h=>h
 |_::_,_,⟨x,r,e,h,l⟩=>⟨x,r,e,Enc.mono g h,j5.mono g l⟩
end
section
variable{K:k8m}{H H':Hp}{ds ds':List D}{xs ys:List V}
theorem j5.length:∀{ds:List D}{xs:List V},j5 K H ds xs->xs.length=ds.length
 |[],_,h=>by cases h;rfl
 |_::_,_,⟨x,r,e,_,l⟩=>by subst e;simp[j5.length l]
theorem j5.get:∀{ds:List D}{xs:List V}{i:Nat}{d:D},j5 K H ds xs->ds[i]?=a3 d->∃x,xs[i]?=a3 x/\Enc K H d x
 |[],_,i,d,_,e=>by simp at e
 |_::_,_,0,d,⟨x,r,e,h,_⟩,q=>by subst e;simp at q;subst q;exact⟨x,rfl,h⟩
 |_::_,_,i+1,d,⟨x,r,e,_,l⟩,q=>by subst e;simp at q;obtain⟨y,hy,hd⟩:=j5.get l q;exact⟨y,by simpa using hy,hd⟩
theorem j5.get':∀{ds:List D}{xs:List V}{i:Nat}{x:V},j5 K H ds xs->xs[i]?=a3 x->∃d,ds[i]?=a3 d/\Enc K H d x
 |[],_,i,d,h,e=>by cases h;simp at e
 |d::_,_,0,y,⟨x,r,e,h,_⟩,q=>by subst e;simp at q;subst q;exact⟨d,rfl,h⟩
 |_::_,_,i+1,y,⟨x,r,e,_,l⟩,q=>by subst e;simp at q;obtain⟨y,hy,hd⟩:=j5.get' l q;exact⟨y,by simpa using hy,hd⟩
theorem j5.append:∀{ds ds':List D}{xs ys:List V},j5 K H ds xs->j5 K H ds' ys->j5 K H (ds++ds') (xs++ys)
 |[],_,_,_,h,h'=>by cases h;exact h'
 |_::_,_,_,_,⟨x,r,e,h,l⟩,h'=>by subst e;exact⟨x,_,rfl,h,j5.append l h'⟩
theorem j5.one{d:D}{x:V}(h:Enc K H d x):j5 K H [d] [x]:=⟨x,[],rfl,h,rfl⟩
theorem j5.set:∀{ds:List D}{xs:List V}{i:Nat}{d:D}{x:V},j5 K H ds xs->Enc K H d x->j5 K H (ds.set i d) (xs.set i x)
 |[],_,i,d,x,h,_=>by cases h;exact rfl
 |_::_,_,0,d,y,⟨x,r,e,h,l⟩,q=>by subst e;exact⟨y,r,rfl,q,l⟩
 |_::_,_,i+1,d,y,⟨x,r,e,h,l⟩,q=>by subst e;exact⟨x,_,rfl,h,j5.set l q⟩
theorem j5.take:∀{ds:List D}{xs:List V}(n:Nat),j5 K H ds xs->j5 K H (ds.take n) (xs.take n)
 |[],_,n,h=>by cases h;simp;exact rfl
 |_::_,_,0,⟨x,r,e,h,l⟩=>by simp;exact rfl
 |_::_,_,n+1,⟨x,r,e,h,l⟩=>by subst e;exact⟨x,_,rfl,h,j5.take n l⟩
theorem j5.drop:∀{ds:List D}{xs:List V}(n:Nat),j5 K H ds xs->j5 K H (ds.drop n) (xs.drop n)
 |[],_,n,h=>by cases h;simp;exact rfl
 |_::_,_,0,h=>h
 |_::_,_,n+1,⟨x,r,e,h,l⟩=>by subst e;exact j5.drop n l
theorem j5.rep{ds:List D}{xs:List V}(h:j5 K H ds xs):∀k:Nat,j5 K H (ae k ds).flatten (ae k xs).flatten
 |0=>rfl
 |k+1=>by rw[pq,pq,Tc,Tc];exact h.append (j5.rep h k)
theorem j5.ints(ns:List Int):j5 K H (ns.map D.int) (ns.map V.int):=by
 induction ns with
 |nil=>exact rfl
 |cons n ns ih=>exact⟨_,_,rfl,rfl,ih⟩
end
section
variable{H H' F:Hp}{A A':List aa}{a b:aa}{o:HO}
theorem J8:del H []=H:=funext λb=>if_neg (by simp)
theorem q9:j0 (del H A) H:=λ_ _ h=>(of_del h).2
theorem J7(h:∀b,b∈A'->b∈A):j0 (del H A) (del H A'):=λb o e=>by obtain⟨n,e⟩:=of_del e;rw[j7 λz=>n (h b z)];exact e
theorem Uw(h:a∈A):del (upd H a o) A=del H A:=funext λb=>by
 by_cases e:b∈A
 .rw[qy e,qy e]
 .rw[j7 e,j7 e,jk];rintro rfl;exact e h
noncomputable def mrg(A:List aa)(H F:Hp):Hp:=λb=>if b∈A then H b else F b
theorem Jb(h:b∈A):mrg A H F b=H b:=if_pos h
theorem jm(h:b∉A):mrg A H F b=F b:=if_neg h
theorem Yd(h:∀a∈A,F a=a7):del (mrg A H F) A=F:=funext λb=>by
 by_cases e:b∈A
 .rw[qy e,h b e]
 .rw[j7 e,jm e]
theorem Og(g:j0 (del H A) F):j0 H (mrg A H F):=λb o e=>by
 by_cases z:b∈A
 .rw[Jb z];exact e
 .rw[jm z];exact g b o (by rw[j7 z];exact e)
theorem j8(h:H a=a7):j0 H (upd H a o):=λb u q=>by rw[jk (v8 q h)];exact q
end
def Hd(o:Option HO):Prop:=(∃xs,o=a3 (.lst xs))\/∃xs ep,o=a3 (.dI xs ep)
section
variable{X:Cx}{pins:k8o}{σ σ':St}{H F:Hp}{s s':af}{A:List aa}
theorem Inv.noFs(I:Inv X pins σ H s){b:aa}(hb:b∈X.fs):H b=a7:=by
 have q:b∈frs X.stack:=by
  rcases I.ok.stk with e|⟨e,_⟩
  .rw[e];exact hb
  .rw[e];have hb:b∈frs X.outer:=hb;unfold frs at hb ⊢;rw[cj];split
   .exact hb
   .exact xf _ hb
 exact I.stkFree b q
theorem Inv.hide(I:Inv X pins σ H s)(hA:∀a∈A,Hd (H a)):Inv X (pins++Yk A s.heap) σ (del H A) s where
 ok:=I.ok
 os:=I.os
 bare:=I.bare
 base:={
  keep:=I.base.keep
  slot:=I.base.slot
  free:=λb o e n hx=>by
   have q:=I.base.free b o e n hx
   by_cases z:b∈A
   .exact qy z
   .rw[j7 z];exact q
  there:=I.base.there
  tups:=λb xs e=>by
   have q:=I.base.tups b xs e
   rw[j7];exact q
   intro z;rcases hA b z with ⟨ys,e'⟩|⟨ys,ep,e'⟩<;>(rw[q]at e';cases e')
  frzs:=λb o u e=>by
   have q:=I.base.frzs b o u e
   rw[j7];exact q
   intro z;rcases hA b z with ⟨ys,e'⟩|⟨ys,ep,e'⟩<;>(rw[q]at e';cases e')
  tbls:=λb ps e=>by
   obtain⟨more,q⟩:=I.base.tbls b ps e
   refine⟨more,?_⟩
   rw[j7];exact q
   intro z;rcases hA b z with ⟨ys,e'⟩|⟨ys,ep,e'⟩<;>(rw[q]at e';cases e') }
 loc:=I.loc
 cell:=I.cell
 free:=by
  by_cases z:X.env.locals∈A
  .exact qy z
  .rw[j7 z];exact I.free
 freeC:=λx c e=>by
  by_cases z:c∈A
  .exact qy z
  .rw[j7 z];exact I.freeC x c e
 pin:=λp hp=>by
  rw[<-tu]at hp;rcases Xy.mp hp with hp|hp
  .obtain⟨h1,h2,h3⟩:=I.pin p hp;refine⟨h1,?_,h3⟩;by_cases z:p.1∈A
   .exact qy z
   .rw[j7 z];exact h2
  .obtain⟨h1,h2⟩:=K5 hp;rcases hA _ h1 with ⟨xs,e⟩|⟨xs,ep,e⟩
   .refine⟨h2,qy h1,λz=>?_,λz=>?_,λv z=>?_⟩
    .rw[z,I.free]at e;cases e
    .rw[I.noFs z]at e;cases e
    .obtain⟨_,its,n,_,q⟩:=(show jh X.prog X.w H s.heap p.1 (.lst xs)from I.hok _ _ e)
     rw[h2]at q;rw[aw q]at z;cases z
   .refine⟨h2,qy h1,λz=>?_,λz=>?_,λv z=>?_⟩
    .rw[z,I.free]at e;cases e
    .rw[I.noFs z]at e;cases e
    .obtain⟨_,_,_,ob,es,q,_,qd,_⟩:=(show jh X.prog X.w H s.heap p.1 (.dI xs ep)from I.hok _ _ e)
     rw[h2]at q;rw[aw q,qd]at z;cases z
 hok:=λa o e=>by
  obtain⟨n,e⟩:=of_del e;refine jh.stay (I.hok a o e) (λb u _ q=>q) (λb q=>?_) (λb xs q=>?_) (λb _ _ q=>?_)
  .rw[j7];exact q;intro z;rcases hA b z with ⟨ys,e'⟩|⟨ys,ep,e'⟩<;>(rw[q]at e';cases e')
  .rw[j7];exact q;intro z;rcases hA b z with ⟨ys,e'⟩|⟨ys,ep,e'⟩<;>(rw[q]at e';cases e')
  .rw[j7];exact q;intro z;rcases hA b z with ⟨ys,e'⟩|⟨ys,ep,e'⟩<;>(rw[q]at e';cases e')
 len:=I.len
theorem Inv.unhide(I0:Inv X pins σ H s)(hA:∀a∈A,Hd (H a))(I:Inv X (pins++Yk A s.heap) σ' F s') :
  (∀a∈A,F a=a7)/\Inv X pins σ' (mrg A H F) s':=by
 have pinned:∀a∈A,∃o,s.heap.get? a=a3 o/\s'.heap.get? a=a3 o/\F a=a7:=λa ha=>by
  have ob:∃o,s.heap.get? a=a3 o:=by
   rcases hA a ha with ⟨xs,e⟩|⟨xs,ep,e⟩
   .obtain⟨_,its,n,_,q⟩:=(show jh X.prog X.w H s.heap a (.lst xs)from I0.hok _ _ e)
    exact⟨_,q⟩
   .obtain⟨_,_,_,o,es,q,_⟩:=(show jh X.prog X.w H s.heap a (.dI xs ep)from I0.hok _ _ e)
    exact⟨_,q⟩
  obtain⟨o,q⟩:=ob;obtain⟨h1,h2,_⟩:=I.pin (a,_) (Xb _ (Xb _ (v9 ha q)));exact⟨_,q,h1,h2⟩
 have hF:∀a∈A,F a=a7:=λa ha=>let ⟨_,_,_,q⟩:=pinned a ha;q;have out:∀{b:aa}{o:HO},F b=a3 o->b∉A:=λ{b o} e z=>by rw[hF b z]at e;cases e
 refine⟨hF,?_⟩;exact{
  ok:=I.ok
  os:=I.os
  bare:=I.bare
  base:={
   keep:=I.base.keep
   slot:=I.base.slot
   free:=λb o e n hx=>by
    by_cases z:b∈A
    .rw[Jb z];exact I0.base.free b o e n hx
    .rw[jm z];exact I.base.free b o e n hx
   there:=I.base.there
   tups:=λb xs e=>by
    have q:=I.base.tups b xs e
    rw[jm (out q)];exact q
   frzs:=λb o u e=>by
    have q:=I.base.frzs b o u e
    rw[jm (out q)];exact q
   tbls:=λb ps e=>by
    obtain⟨more,q⟩:=I.base.tbls b ps e
    exact⟨more,by rw[jm (out q)];exact q⟩ }
  loc:=I.loc
  cell:=I.cell
  free:=by
   by_cases z:X.env.locals∈A
   .rw[Jb z];exact I0.free
   .rw[jm z];exact I.free
  freeC:=λx c e=>by
   by_cases z:c∈A
   .rw[Jb z];exact I0.freeC x c e
   .rw[jm z];exact I.freeC x c e
  pin:=λp hp=>by
   obtain⟨h1,h2,h3⟩:=I.pin p (by rw[<-tu];exact Xv _ hp)
   refine⟨h1,?_,h3⟩
   by_cases z:p.1∈A
   .rw[Jb z];exact(I0.pin p hp).2.1
   .rw[jm z];exact h2
  hok:=λa o e=>by
   by_cases z:a∈A
   .rw[Jb z]at e
    obtain⟨o',q1,q2,_⟩:=pinned a z
    rcases hA a z with ⟨xs,e'⟩|⟨xs,ep,e'⟩
    .rw[e']at e;cases e
     obtain⟨hl,its,n,r,q⟩:=(show jh X.prog X.w H s.heap a (.lst xs)from I0.hok _ _ e')
     rw[q]at q1;cases q1
     exact⟨hl,its,n,r,q2⟩
    .rw[e']at e;cases e
     obtain⟨z1,z2,z3,ob,es,q,z4⟩:=(show jh X.prog X.w H s.heap a (.dI xs ep)from I0.hok _ _ e')
     rw[q]at q1;cases q1
     exact⟨z1,z2,z3,_,es,q2,z4⟩
   .rw[jm z]at e
    refine jh.stay (I.hok a o e) (λb u _ q=>q) (λb q=>?_) (λb xs q=>?_) (λb _ _ q=>?_)
    .rw[jm (out q)];exact q
    .rw[jm (out q)];exact q
    .rw[jm (out q)];exact q
  len:=I.len }
end
def Qf(X:Cx)(e:ao):TE:=λσ H Q=>∀pins s,Inv X pins σ H s->aq (ay X.prog X.w) X.A (aA e X.env) (EP X pins σ Q) X.xe s
def j7t(X:Cx)(e:ao):TT:=λσ H Q=>∀pins s,Inv X pins σ H s->aq (ay X.prog X.w) X.A (fR e X.env (aA e X.env)) (TP X pins σ Q) X.xe s
def Dj(X:Cx)(es:List ao):TA:=λσ H Q=>∀pos pins s,Inv X pins σ H s->aq (ay X.prog X.w) X.A (iR (aY pos (a9 es X.env))) (AP X pins σ Q) X.xe s
def j7u(X:Cx)(st:bp):TS:=λD σ H=>∀pins s,Inv X pins σ H s->aq (ay X.prog X.w) X.A (exec st X.env) (SP X pins D) X.xe s
def Bw(X:Cx)(sts:List bp):TS:=λD σ H=>∀pins s,Inv X pins σ H s->aq (ay X.prog X.w) X.A (execs sts X.env) (SP X pins D) X.xe s
def j03(X:Cx)(tg iter:ao):TI:=λσ H R=>∀pins s,Inv X pins σ H s ->
 aq (ay X.prog X.w) X.A (aA iter X.env) (λv s1=>aq (ay X.prog X.w) X.A (i4 v) (PIE X pins σ tg R) X.xe s1) X.xe s
section
variable{X:Cx}{e tg:ao}{es:List ao}{st:bp}{sts:List bp}{σ:St}{H:Hp}
theorem peS:PE X e (Qf X e):=λpins s _ _ _ I h=>h pins s I
theorem ptS:PT X e (j7t X e):=λpins s _ _ _ I h=>h pins s I
theorem paS:PA X es (Dj X es):=λpos pins s _ _ _ I h=>h pos pins s I
theorem psS:PS X st (j7u X st):=λpins s _ _ _ I h=>h pins s I
theorem Ol:PSs X sts (Bw X sts):=λpins s _ _ _ I h=>h pins s I
theorem piS:PI X tg e (j03 X tg e):=λpins s _ _ _ I h=>h pins s I
theorem PE.to{t:TE}(h:PE X e t){Q:VK}(q:t σ H Q):Qf X e σ H Q:=λpins s I=>h pins s σ H Q I q
theorem PT.to{t:TT}(h:PT X e t){Q:Bool->Hp->Prop}(q:t σ H Q):j7t X e σ H Q:=λpins s I=>h pins s σ H Q I q
theorem PA.to{t:TA}(h:PA X es t){Q:List V->Hp->Prop}(q:t σ H Q):Dj X es σ H Q:=λpos pins s I=>h pos pins s σ H Q I q
theorem PS.to{t:TS}(h:PS X st t){D:Ends}(q:t D σ H):j7u X st D σ H:=λpins s I=>h pins s σ H D I q
theorem PSs.to{t:TS}(h:PSs X sts t){D:Ends}(q:t D σ H):Bw X sts D σ H:=λpins s I=>h pins s σ H D I q
theorem PI.to{t:TI}(h:PI X tg e t){R:It->Hp->Prop}(q:t σ H R):j03 X tg e σ H R:=λpins s I=>h pins s σ H R I q
theorem j3o{A:List aa}{Q Q':VK}(hA:∀a∈A,Hd (H a))(h:Qf X e σ (del H A) Q')(hq:∀v F,Q' v F->(∀a∈A,F a=a7)->Q v (mrg A H F)):Qf X e σ H Q :=
 λpins s I=>thn (h _ s (I.hide hA)) λv s' ⟨x,F,I',r,q⟩=>let ⟨n,I2⟩:=I.unhide hA I';⟨x,_,I2,r,hq x F q n⟩
theorem j3n{A:List aa}{R R':It->Hp->Prop}(hA:∀a∈A,Hd (H a))(h:j03 X tg e σ (del H A) R')(hq:∀J F,R' J F->(∀a∈A,F a=a7)->R J (mrg A H F)):j03 X tg e σ H R :=
 λpins s I=>thn (h _ s (I.hide hA)) λv s' h1=>thn h1 λitv s2 ⟨it,fp,tn,J,F,e,I',T,t0,fk,q⟩=>by
  obtain⟨n,I2⟩:=I.unhide hA I';refine⟨it,fp,tn,J,_,e,I2,T,t0,λb hb=>?_,hq J F q n⟩;obtain⟨f0,f1,f2,f3,f4,f5⟩:=fk b hb;refine⟨?_,f1,f2,f3,f4,λp hp=>f5 p (by rw[<-tu];exact Xv _ hp)⟩;by_cases z:b∈A
  .exfalso;have ob:∃o,s.heap.get? b=a3 o:=by
    rcases hA b z with ⟨xs,e⟩|⟨xs,ep,e⟩
    .obtain⟨_,its,n,_,q⟩:=(show jh X.prog X.w H s.heap b (.lst xs)from I.hok _ _ e)
     exact⟨_,q⟩
    .obtain⟨_,_,_,o,es,q,_⟩:=(show jh X.prog X.w H s.heap b (.dI xs ep)from I.hok _ _ e)
     exact⟨_,q⟩
   obtain⟨o,q⟩:=ob;exact f5 (b,o) (Xb _ (Xb _ (v9 z q))) rfl
  .rw[jm z];exact f0
end
inductive Sl where
 |un
 |val (d:D)
 |own (a:aa) (ds:List D)
 |raw (a:aa) (o:dz) (x:aj)
noncomputable abbrev Rho:=List Sl
noncomputable def Sl.addr:Sl->Option aa
 |.own a _=>a3 a
 |_=>a7
noncomputable def owns(ρ:Rho):List aa:=ρ.filterMap Sl.addr
theorem Qm{ρ:Rho}{i:Nat}{a:aa}{ds:List D}(h:ρ[i]?=a3 (.own a ds)):a∈owns ρ:=Tg.mpr ⟨_,Xr h,rfl⟩
theorem Vg{ρ:Rho}{a:aa}(h:a∈owns ρ):∃(i:Nat)(ds:List D),ρ[i]?=a3 (.own a ds):=by
 obtain⟨s,hs,e⟩:=Tg.mp h;obtain⟨i,hi⟩:=List.mem_iff_getElem?.mp hs;cases s with
 |own b ds=>cases e;exact⟨i,ds,hi⟩
 |un=>cases e
 |val d=>cases e
 |raw b o x=>cases e
theorem jo(s:Sl)(ρ:Rho):owns (s::ρ)=(match s.addr with|some a=>a::owns ρ|none=>owns ρ):=by unfold owns;rw[cj];cases s.addr<;>rfl
theorem jy{s:Sl}(hs:s.addr=a7):∀{ρ:Rho}{i:Nat},(owns (ρ.set i s)).Sublist (owns ρ)
 |[],_=>cU _
 |x::r,0=>by
  rw[T8,jo,jo,hs];cases x.addr with
  |none=>exact cU _
  |some a=>exact List.sublist_cons_self _ _
 |x::r,i+1=>by
  rw[t7,jo,jo];have ih:=jy hs (ρ:=r) (i:=i);cases x.addr with
  |none=>exact ih
  |some a=>exact ih.cons_cons a
theorem Vt{a:aa}{ds ds':List D}:∀{ρ:Rho}{i:Nat},ρ[i]?=a3 (.own a ds)->owns (ρ.set i (.own a ds'))=owns ρ
 |[],_,h=>by simp at h
 |x::r,0,h=>by simp at h;subst h;rw[T8,jo,jo];rfl
 |x::r,i+1,h=>by simp at h;rw[t7,jo,jo,Vt h]
theorem O3{s:Sl}(hs:s.addr=a7):∀{ρ:Rho}{i:Nat},(∀a l,ρ[i]?≠a3 (.own a l))->owns (ρ.set i s)=owns ρ
 |[],_,_=>rfl
 |x::r,0,h=>by
  rw[T8,jo,jo,hs];cases x with
  |own a l=>exact absurd rfl (h a l)
  |un=>rfl
  |val d=>rfl
  |raw a o x=>rfl
 |x::r,i+1,h=>by rw[t7,jo,jo,O3 hs (λa l=>by simpa using h a l)]
theorem Jo{a:aa}{ds:List D}:∀{ρ:Rho}{i:Nat},(owns ρ).Nodup->a∉owns ρ->(owns (ρ.set i (.own a ds))).Nodup/\∀b∈owns (ρ.set i (.own a ds)),b=a\/b∈owns ρ
 |[],_,n,_=>⟨n,λb hb=>.inr hb⟩
 |x::r,0,n,h=>by
  rw[T8,jo];rw[jo]at n h;have e:(Sl.own a ds).addr=a3 a:=rfl;rw[e];cases q:x.addr with
  |none =>rw[q]at n h;exact⟨Xn.mpr ⟨h,n⟩,λb hb=>(xn.mp hb).elim .inl λz=>.inr (by rw[jo,q];exact z)⟩
  |some c =>rw[q]at n h;exact⟨Xn.mpr ⟨λz=>h (xf _ z),(Xn.mp n).2⟩,λb hb=>(xn.mp hb).elim .inl λz=>.inr (by rw[jo,q];exact xf _ z)⟩
 |x::r,i+1,n,h=>by
  rw[t7,jo];rw[jo]at n h;cases q:x.addr with
  |none =>rw[q]at n h;obtain⟨i1,i2⟩:=Jo (ds:=ds) (i:=i) n h;exact⟨i1,λb hb=>(i2 b hb).elim .inl λz=>.inr (by rw[jo,q];exact z)⟩
  |some c =>
   rw[q]at n h;obtain⟨n1,n2⟩:=Xn.mp n;obtain⟨i1,i2⟩:=Jo (ds:=ds) (i:=i) n2 (λz=>h (xf _ z));refine⟨Xn.mpr ⟨λz=>?_,i1⟩,λb hb=>?_⟩
   .rcases i2 c z with e|z
    .subst e;exact h (xq ..)
    .exact n1 z
   .rcases xn.mp hb with e|z
    .exact .inr (by rw[jo,q];exact e▸xq ..)
    .exact(i2 b z).elim .inl λz=>.inr (by rw[jo,q];exact xf _ z)
theorem Yl{a:aa}{l l':List D}:∀{ρ:Rho}{i j:Nat},(owns ρ).Nodup->ρ[i]?=a3 (.own a l)->ρ[j]?=a3 (.own a l')->i=j
 |[],i,_,_,h,_=>by simp at h
 |x::r,0,0,_,_,_=>rfl
 |x::r,0,j+1,n,h,h'=>by simp at h h';subst h;rw[jo]at n;exact absurd (Qm h') (Xn.mp n).1
 |x::r,i+1,0,n,h,h'=>by simp at h h';subst h';rw[jo]at n;exact absurd (Qm h) (Xn.mp n).1
 |x::r,i+1,j+1,n,h,h'=>by
  simp at h h';have n':(owns r).Nodup:=by
   rw[jo]at n;cases q:x.addr with
   |none=>rw[q]at n;exact n
   |some c=>rw[q]at n;exact(Xn.mp n).2
  rw[Yl n' h h']
noncomputable def Zn:List aj:=["worst_cost_of_ask","least_numbers","whole_cost_of_ask","round_numbers"]
def TabOk(K:k8m)(H:Hp):Prop:=∀x∈Zn,∀c P,W.tabIn K x=a3 (c,P)->H P=a3 (.cod (jx x))
section
variable{K:k8m}{H H':Hp}
theorem TabOk.mono(h:TabOk K H)(g:j0 H H'):TabOk K H':=λx hx c P e=>g _ _ (h x hx c P e)
theorem TabOk.upd{a:aa}{o u:HO}(h:TabOk K H)(e:H a=a3 u)(n:∀q,u≠.cod q):TabOk K (upd H a o):=λx hx c P z=>by have q:=h x hx c P z;rw[jk];exact q;intro y;subst y;rw[e]at q;exact n _ (aw q)
theorem TabOk.del{A:List aa}(h:TabOk K H)(hA:∀a∈A,∃xs,H a=a3 (.lst xs)):TabOk K (del H A):=λx hx c P z=>by have q:=h x hx c P z;rw[j7];exact q;intro y;obtain⟨xs,e⟩:=hA _ y;rw[q]at e;cases e
end
structure Rep(K:k8m)(ρ:Rho)(σ:St)(H:Hp):Prop where
 len:σ.length=ρ.length
 val:∀(i:Nat)(d:D),ρ[i]?=a3 (.val d)->∃v,σ[i]?=a3 (a3 v)/\Enc K (del H (owns ρ)) d v
 own:∀(i:Nat)(a:aa)(ds:List D),ρ[i]?=a3 (.own a ds)->σ[i]?=a3 (a3 (.ref a))/\∃xs,H a=a3 (.lst xs)/\j5 K (del H (owns ρ)) ds xs
 nd:(owns ρ).Nodup
 raw:∀(i:Nat)(a:aa)(o:dz)(x:aj),ρ[i]?=a3 (.raw a o x)->σ[i]?=a3 (a3 (.ref a))/\del H (owns ρ) a=a3 (.frz o (.own a))/\W.nsIn K au x=a3 (a3 o.cls)
 tb:TabOk K H
section
variable{K:k8m}{ρ ρ':Rho}{σ:St}{H H':Hp}{i:Nat}{d:D}{v:V}{a:aa}{ds ds':List D}{xs:List V}
theorem Rep.owned(R:Rep K ρ σ H):∀a∈owns ρ,∃xs,H a=a3 (.lst xs):=λa h=>by obtain⟨i,ds,e⟩:=Vg h;obtain⟨_,xs,q,_⟩:=R.own i a ds e;exact⟨xs,q⟩
theorem Rep.fresh(R:Rep K ρ σ H)(h:H a=a7):a∉owns ρ:=λz=>by obtain⟨xs,e⟩:=R.owned a z;rw[h]at e;cases e
theorem Rep.grow(R:Rep K ρ σ H)(g:j0 H H'):Rep K ρ σ H' :=
 ⟨R.len,λi d e=>let ⟨v,q,h⟩:=R.val i d e;⟨v,q,h.mono (je g)⟩,λi a ds e=>let ⟨q,xs,h,l⟩:=R.own i a ds e;⟨q,xs,g _ _ h,l.mono (je g)⟩,R.nd,λi a o x e=>let ⟨q,h,z⟩:=R.raw i a o x e;⟨q,je g _ _ h,z⟩,R.tb.mono g⟩
theorem getElem?_set_of{α:Type}{l:List α}{i j:Nat}{x y:α}(h:(l.set i x)[j]?=a3 y):(i=j/\y=x/\i<l.length)\/(i≠j/\l[j]?=a3 y):=by
 rw[cL]at h;split at h
 .rename_i e;subst e;split at h
  .rename_i z;cases h;exact .inl ⟨rfl,rfl,z⟩
  .cases h
 .rename_i e;exact .inr ⟨e,h⟩
theorem Wr{α:Type}{l:List α}{i:Nat}{x:α}(h:i<l.length):(l.set i x)[i]?=a3 x:=by simp[h]
theorem zq{α:Type}{l:List α}{i j:Nat}{x:α}(h:i≠j):(l.set i x)[j]?=l[j]?:=by simp[h]
theorem Rep.set_val(R:Rep K ρ σ H)(e:Enc K (del H (owns ρ)) d v):Rep K (ρ.set i (.val d)) (σ.set i (a3 v)) H:=by
 have sub:(owns (ρ.set i (.val d))).Sublist (owns ρ):=jy rfl;have g:j0 (del H (owns ρ)) (del H (owns (ρ.set i (.val d)))):=J7 λb hb=>sub.subset hb;refine⟨by simp[R.len],λj d' h=>?_,λj a ds h=>?_,sub.nodup R.nd,λj a o x h=>?_,R.tb⟩
 .rcases getElem?_set_of h with ⟨rfl,z,hl⟩|⟨n,h⟩
  .cases z;exact⟨v,Wr (by rw[R.len];exact hl),e.mono g⟩
  .obtain⟨u,q,h⟩:=R.val j d' h;exact⟨u,by rw[zq n];exact q,h.mono g⟩
 .rcases getElem?_set_of h with ⟨rfl,z,_⟩|⟨n,h⟩
  .cases z
  .obtain⟨q,xs,h,l⟩:=R.own j a ds h;exact⟨by rw[zq n];exact q,xs,h,l.mono g⟩
 .rcases getElem?_set_of h with ⟨rfl,z,_⟩|⟨n,h⟩
  .cases z
  .obtain⟨q,h,z⟩:=R.raw j a o x h;exact⟨by rw[zq n];exact q,g _ _ h,z⟩
theorem Rep.set_un{v:Option V}(R:Rep K ρ σ H):Rep K (ρ.set i .un) (σ.set i v) H:=by
 have sub:(owns (ρ.set i .un)).Sublist (owns ρ):=jy rfl;have g:j0 (del H (owns ρ)) (del H (owns (ρ.set i .un))):=J7 λb hb=>sub.subset hb;refine⟨by simp[R.len],λj d' h=>?_,λj a ds h=>?_,sub.nodup R.nd,λj a o x h=>?_,R.tb⟩
 .rcases getElem?_set_of h with ⟨rfl,z,hl⟩|⟨n,h⟩
  .cases z
  .obtain⟨u,q,h⟩:=R.val j d' h;exact⟨u,by rw[zq n];exact q,h.mono g⟩
 .rcases getElem?_set_of h with ⟨rfl,z,_⟩|⟨n,h⟩
  .cases z
  .obtain⟨q,xs,h,l⟩:=R.own j a ds h;exact⟨by rw[zq n];exact q,xs,h,l.mono g⟩
 .rcases getElem?_set_of h with ⟨rfl,z,_⟩|⟨n,h⟩
  .cases z
  .obtain⟨q,h,z⟩:=R.raw j a o x h;exact⟨by rw[zq n];exact q,g _ _ h,z⟩
theorem Rep.set_own(R:Rep K ρ σ H)(g:j0 H H')(ha:H a=a7)(e:H' a=a3 (.lst xs))(l:j5 K (del H' (a::owns ρ)) ds xs):Rep K (ρ.set i (.own a ds)) (σ.set i (a3 (.ref a))) H':=by
 have na:=R.fresh ha;obtain⟨nd,sub⟩:=Jo (ds:=ds) (i:=i) R.nd na;have g1:j0 (del H' (a::owns ρ)) (del H' (owns (ρ.set i (.own a ds)))):=J7 λb hb=>by
  rcases sub b hb with e|z
  .exact e▸xq ..
  .exact xf _ z
 have g2:j0 (del H (owns ρ)) (del H' (a::owns ρ)):=λb o q=>by
  obtain⟨n,q⟩:=of_del q;rw[j7];exact g b o q;intro z;rcases xn.mp z with e|z
  .subst e;rw[ha]at q;cases q
  .exact n z
 refine⟨by simp[R.len],λj d' h=>?_,λj b ds' h=>?_,nd,λj b o x h=>?_,R.tb.mono g⟩
 .rcases getElem?_set_of h with ⟨rfl,z,hl⟩|⟨n,h⟩
  .cases z
  .obtain⟨u,q,h⟩:=R.val j d' h;exact⟨u,by rw[zq n];exact q,h.mono (g2.trans g1)⟩
 .rcases getElem?_set_of h with ⟨rfl,z,hl⟩|⟨n,h⟩
  .cases z;exact⟨Wr (by rw[R.len];exact hl),xs,e,l.mono g1⟩
  .obtain⟨q,ys,h,l⟩:=R.own j b ds' h;exact⟨by rw[zq n];exact q,ys,g _ _ h,l.mono (g2.trans g1)⟩
 .rcases getElem?_set_of h with ⟨rfl,z,hl⟩|⟨n,h⟩
  .cases z
  .obtain⟨q,h,z⟩:=R.raw j b o x h;exact⟨by rw[zq n];exact q,g1 _ _ (g2 _ _ h),z⟩
theorem Rep.upd_own(R:Rep K ρ σ H)(h:ρ[i]?=a3 (.own a ds))(l:j5 K (del H (owns ρ)) ds' xs):Rep K (ρ.set i (.own a ds')) σ (upd H a (.lst xs)):=by
 have eo:owns (ρ.set i (.own a ds'))=owns ρ:=Vt h;have ed:del (upd H a (.lst xs)) (owns ρ)=del H (owns ρ):=Uw (Qm h);refine⟨by simp[R.len],λj d' q=>?_,λj b l' q=>?_,by rw[eo];exact R.nd,λj b o x q=>?_,let ⟨_,_,z,_⟩:=R.own i a ds h;R.tb.upd z λ_ y=>by cases y⟩
 .rw[eo,ed];rcases getElem?_set_of q with ⟨_,z,_⟩|⟨n,q⟩
  .cases z
  .exact R.val j d' q
 .rw[eo,ed];rcases getElem?_set_of q with ⟨rfl,z,_⟩|⟨n,q'⟩
  .cases z;exact⟨(R.own i a ds h).1,xs,jc,l⟩
  .obtain⟨z,ys,y,l''⟩:=R.own j b l' q';refine⟨z,ys,?_,l''⟩;have nb:b≠a:=λe=>n (Yl R.nd h (e▸q'));rw[jk nb];exact y
 .rw[eo,ed];rcases getElem?_set_of q with ⟨_,z,_⟩|⟨n,q⟩
  .cases z
  .exact R.raw j b o x q
theorem Rep.freeze(R:Rep K ρ σ H)(h:ρ[i]?=a3 (.own a ds)):Rep K (ρ.set i (.val (.lst ds))) σ H:=by
 obtain⟨hs,xs,hx,l⟩:=R.own i a ds h;have sub:(owns (ρ.set i (.val (.lst ds)))).Sublist (owns ρ):=jy rfl;have g:j0 (del H (owns ρ)) (del H (owns (ρ.set i (.val (.lst ds))))):=J7 λb hb=>sub.subset hb;have na:a∉owns (ρ.set i (.val (.lst ds))):=λz=>by
  obtain⟨j,l',q⟩:=Vg z;rcases getElem?_set_of q with ⟨_,z,_⟩|⟨n,q⟩
  .cases z
  .exact n (Yl R.nd h q)
 refine⟨by simp[R.len],λj d' q=>?_,λj b l' q=>?_,sub.nodup R.nd,λj b o x q=>?_,R.tb⟩
 .rcases getElem?_set_of q with ⟨rfl,z,_⟩|⟨n,q⟩
  .cases z;exact⟨_,hs,a,xs,rfl,.inl (.inl (by rw[j7 na];exact hx)),l.mono g⟩
  .obtain⟨u,q,h⟩:=R.val j d' q;exact⟨u,q,h.mono g⟩
 .rcases getElem?_set_of q with ⟨rfl,z,_⟩|⟨n,q⟩
  .cases z
  .obtain⟨q,ys,h,l⟩:=R.own j b l' q;exact⟨q,ys,h,l.mono g⟩
 .rcases getElem?_set_of q with ⟨_,z,_⟩|⟨n,q⟩
  .cases z
  .obtain⟨q,h,z⟩:=R.raw j b o x q;exact⟨q,g _ _ h,z⟩
end
def DE(X:Cx)(ρ:Rho)(e:ao)(d:D):Prop:=∀σ H Q,Rep X.K ρ σ H->(∀v H',j0 H H'->Enc X.K (del H' (owns ρ)) d v->Q v H')->Qf X e σ H Q
def DT(X:Cx)(ρ:Rho)(e:ao)(d:D):Prop:=∀σ H Q,Rep X.K ρ σ H->(∀v H',j0 H H'->Enc X.K H' d v->Q v H')->Qf X e σ H Q
def DO(X:Cx)(ρ:Rho)(e:ao)(ds:List D):Prop:=∀σ H Q,Rep X.K ρ σ H->(∀a xs H',j0 H H'->H a=a7->H' a=a3 (.lst xs)->j5 X.K (del H' (a::owns ρ)) ds xs->Q (.ref a) H')->Qf X e σ H Q
def DL(X:Cx)(ρ:Rho)(e:ao)(ds:List D):Prop:=∀σ H Q,Rep X.K ρ σ H->(∀a xs H',j0 H H'->H' a=a3 (.lst xs)->j5 X.K (del H' (owns ρ)) ds xs->Q (.ref a) H')->Qf X e σ H Q
def DB(X:Cx)(ρ:Rho)(e:ao)(b:Bool):Prop:=∀σ H Q,Rep X.K ρ σ H->(∀H',j0 H H'->Q b H')->j7t X e σ H Q
def DA(X:Cx)(ρ:Rho)(es:List ao)(ds:List D):Prop:=∀σ H Q,Rep X.K ρ σ H->(∀vs H',j0 H H'->j5 X.K (del H' (owns ρ)) ds vs->Q vs H')->Dj X es σ H Q
def DTA(X:Cx)(ρ:Rho)(es:List ao)(ds:List D):Prop:=∀σ H Q,Rep X.K ρ σ H->(∀vs H',j0 H H'->j5 X.K H' ds vs->Q vs H')->Dj X es σ H Q
def j7s(X:Cx)(e:ao):TT:=λσ H Q=>∀whole pins s,Inv X pins σ H s->aq (ay X.prog X.w) X.A (fR e X.env whole) (TP X pins σ Q) X.xe s
theorem pwS{X:Cx}{e:ao}:PW X e (j7s X e):=λwhole pins s _ _ _ I h=>h whole pins s I
theorem PW.to{X:Cx}{e:ao}{t:TT}{σ:St}{H:Hp}(h:PW X e t){Q:Bool->Hp->Prop}(q:t σ H Q):j7s X e σ H Q:=λwhole pins s I=>h whole pins s σ H Q I q
def DW(X:Cx)(ρ:Rho)(e:ao)(b:Bool):Prop:=∀σ H Q,Rep X.K ρ σ H->(∀H',j0 H H'->Q b H')->j7s X e σ H Q
mutual
noncomputable def Qq:D->Bool
 |.lst _=>a4
 |.dct _ _=>a4
 |.sct _=>a4
 |.fn _ _=>a4
 |.tup ds=>zc ds
 |_=>a6
noncomputable def zc:List D->Bool
 |[]=>a6
 |d::ds=>Qq d&&zc ds
end
mutual
theorem Enc.hide{K:k8m}{H:Hp}{A:List aa}(hA:∀a∈A,Hd (H a)):∀{d:D}{v:V},Qq d=a6->Enc K H d v->Enc K (del H A) d v
 |.non,_,_,h=>h
 |.bl _,_,_,h=>h
 |.int _,_,_,h=>h
 |.str _,_,_,h=>h
 |.lst _,_,n,_=>by cases n
 |.dct _ _,_,n,_=>by cases n
 |.sct _,_,n,_=>by cases n
 |.fn _ _,_,n,_=>by cases n
 |.tup ds,_,n,⟨a,xs,e,q,l⟩=>by
  refine⟨a,xs,e,?_,j5.hide hA (by simpa [Qq]using n) l⟩;have out:∀{o:HO},H a=a3 o->(∀ys,o≠.lst ys)->(∀ys ep,o≠.dI ys ep)->del H A a=a3 o:=λ{o} h z z2=>by
   rw[j7];exact h;intro y;rcases hA a y with ⟨ys,e'⟩|⟨ys,ep,e'⟩
   .rw[h]at e';cases e';exact z ys rfl
   .rw[h]at e';cases e';exact z2 ys ep rfl
  rcases q with (q|⟨o,q⟩)|q
  .exact .inl (.inl (out q (λ_ z=>by cases z) λ_ _ z=>by cases z))
  .exact .inl (.inr ⟨o,out q (λ_ z=>by cases z) λ_ _ z=>by cases z⟩)
  .exact .inr q
theorem j5.hide{K:k8m}{H:Hp}{A:List aa}(hA:∀a∈A,Hd (H a)):∀{ds:List D}{xs:List V},zc ds=a6->j5 K H ds xs->j5 K (del H A) ds xs
 |[],_,_,h=>h
 |d::ds,_,n,⟨x,r,e,h,l⟩=>by
  have n':Qq d=a6/\zc ds=a6:=by simpa [zc]using n
  exact⟨x,r,e,Enc.hide hA n'.1 h,j5.hide hA n'.2 l⟩
end
section
variable{X:Cx}{ρ:Rho}{e a b c:ao}{es:List ao}{d da db:D}{ds ds':List D}{i j:Int}{pos:aO}{k:Nat}{x:aj}
theorem DE.toT(h:DE X ρ e d):DT X ρ e d:=λσ H Q R q=>h σ H Q R λv H' g l=>q v H' g (l.mono q9)
theorem DT.toE(h:DT X ρ e d)(n:Qq d=a6:=by rfl):DE X ρ e d:=λσ H Q R q=>h σ H Q R λv H' g l=>q v H' g (l.hide (λa ha=>.inl ((R.grow g).owned a ha)) n)
theorem DO.toL(h:DO X ρ e ds):DL X ρ e ds:=λσ H Q R q=>h σ H Q R λa xs H' g n m l=>q a xs H' g m (l.mono (J7 λb hb=>xf _ hb))
theorem DO.toE(h:DO X ρ e ds):DE X ρ e (.lst ds):=λσ H Q R q=>h σ H Q R λa xs H' g n m l =>q _ H' g ⟨a,xs,rfl,.inl (.inl (by rw[j7 (R.fresh n)];exact m)),l.mono (J7 λb hb=>xf _ hb)⟩
theorem DL.toT(h:DL X ρ e ds):DT X ρ e (.lst ds):=λσ H Q R q=>h σ H Q R λa xs H' g m l=>q _ H' g ⟨a,xs,rfl,.inl (.inl m),l.mono q9⟩
theorem DW.toB{k:Bool}(h:DW X ρ e k):DB X ρ e k:=λσ H Q R q pins s I=>h σ H Q R q _ pins s I
theorem DE.eq(h:DE X ρ e d){d':D}(q:d=d'):DE X ρ e d':=q▸h
theorem DB.eq{b b':Bool}(h:DB X ρ e b)(q:b=b'):DB X ρ e b':=q▸h
end
section
variable{X:Cx}{ρ:Rho}{e a b c:ao}{es:List ao}{d da db:D}{ds ds':List D}{i j:Int}{pos p:aO}{k:Nat}{x:aj}
theorem DE.var(k:Nat)(h:ρ[k]?=a3 (.val d))(hN:X.N[k]?=a3 x:=by rfl)(hv:Vis X.env.scope x:=by first|exact bq rfl|exact bH (bq rfl)|exact bH (bH rfl))
  (hd:(x==k8q)=a4:=by decide) (hcd:(x==k8r)=a4:=by decide):DE X ρ (.Name x pos) d:=λσ H Q R q=>by
 obtain⟨v,hs,en⟩:=R.val k d h;exact(Ql hN hv hd hcd).to ⟨v,hs,q v H (j0.refl H) en⟩
theorem DL.var(k:Nat){l:aa}(h:ρ[k]?=a3 (.own l ds))(hN:X.N[k]?=a3 x:=by rfl)(hv:Vis X.env.scope x:=by first|exact bq rfl|exact bH (bq rfl)|exact bH (bH rfl))
  (hd:(x==k8q)=a4:=by decide) (hcd:(x==k8r)=a4:=by decide):DL X ρ (.Name x pos) ds:=λσ H Q R q=>by
 obtain⟨hs,xs,m,en⟩:=R.own k l ds h;exact(Ql hN hv hd hcd).to ⟨_,hs,q l xs H (j0.refl H) m en⟩
theorem DE.glob {u:a8} {v:V} (hg:Gl X x) (hm:X.mg x=a3 u) (r:RelV v u) (h:∀H,Enc X.K H d v) (hd:(x==k8q)=a4:=by decide):DE X ρ (.Name x pos) d :=
 λσ H Q R q=>(j2k hg hm r hd).to (q v H (j0.refl H) (h _))
theorem DE.int{i:Int}{n:Nat}{pos:aO}:DE X ρ (.Constant (.int i) n pos) (.int i):=λσ H Q R q=>j5n.to (q _ H (j0.refl H) rfl)
theorem DE.bl{b:Bool}{n:Nat}:DE X ρ (.Constant (.bool b) n pos) (.bl b):=λσ H Q R q=>jjk.to (q _ H (j0.refl H) rfl)
theorem DE.non{n:Nat}:DE X ρ (.Constant .none n pos) .non:=λσ H Q R q=>j08.to (q _ H (j0.refl H) rfl)
theorem DE.str{y:aj}{n:Nat}:DE X ρ (.Constant (.str y) n pos) (.str y):=λσ H Q R q=>j5k.to (q _ H (j0.refl H) rfl)
theorem DE.arI0{op:jO}{g:Int->Int->Int}(ho:OpR X (bj op) (rI0 λi j=>.int (g i j)))(ha:DT X ρ a (.int i))(hb:DT X ρ b (.int j)):DE X ρ (.BinOp a op b pos) (.int (g i j)):=λσ H Q R q =>(U5 ho peS peS).to (ha σ H _ R λv H1 g1 e1=>hb σ H1 _ (R.grow g1) λu H2 g2 e2=>⟨i,j,e1,e2,q _ H2 (g1.trans g2) rfl⟩)
theorem DE.arI{op:jO}{C:Int->Int->Prop}{g:Int->Int->Int}(ho:OpR X (bj op) (rI C λi j=>.int (g i j)))(ha:DT X ρ a (.int i))(hb:DT X ρ b (.int j))(hC:C i j):DE X ρ (.BinOp a op b pos) (.int (g i j)):=λσ H Q R q =>(U5 ho peS peS).to (ha σ H _ R λv H1 g1 e1=>hb σ H1 _ (R.grow g1) λu H2 g2 e2=>⟨i,j,e1,e2,hC,q _ H2 (g1.trans g2) rfl⟩)
theorem DE.add(ha:DT X ρ a (.int i))(hb:DT X ρ b (.int j)):DE X ρ (.BinOp a .Add b pos) (.int (i+j)):=DE.arI0 jfy ha hb
theorem DE.sub(ha:DT X ρ a (.int i))(hb:DT X ρ b (.int j)):DE X ρ (.BinOp a .Sub b pos) (.int (i-j)):=DE.arI0 jfq ha hb
theorem DE.mul(ha:DT X ρ a (.int i))(hb:DT X ρ b (.int j))(h:j4o i j):DE X ρ (.BinOp a .Mult b pos) (.int (i*j)):=DE.arI jfv ha hb h
theorem DE.mod(ha:DT X ρ a (.int i))(hb:DT X ρ b (.int j))(h:0<j):DE X ρ (.BinOp a .Mod b pos) (.int (i%j)):=DE.arI jfw ha hb h
theorem DE.pow(ha:DT X ρ a (.int i))(hb:DT X ρ b (.int j))(h:j4n i j):DE X ρ (.BinOp a .Pow b pos) (.int (i^j.toNat)):=DE.arI jfu ha hb h
theorem DE.shl(ha:DT X ρ a (.int i))(hb:DT X ρ b (.int j))(h:j4n i j):DE X ρ (.BinOp a .LShift b pos) (.int (i*2^j.toNat)):=DE.arI (g:=λi j=>i*2^j.toNat) jfs ha hb h
theorem DE.neg(ha:DT X ρ a (.int i)):DE X ρ (.UnaryOp .USub a pos) (.int (-i)):=λσ H Q R q =>(jjj jeh peS).to (ha σ H _ R λv H1 g1 e1=>⟨i,e1,q _ H1 g1 rfl⟩)
theorem DE.cmpI{op:gc}{g:Int->Int->Bool}(ho:OpR X (aR op) (rI0 λi j=>.bl (g i j)))(hm:aG op b=a4)(ha:DT X ρ a (.int i))(hb:DT X ρ b (.int j)):DE X ρ (.Compare a [op] [b] pos) (.bl (g i j)):=λσ H Q R q =>(Jm ho peS peS hm).to (ha σ H _ R λv H1 g1 e1=>hb σ H1 _ (R.grow g1) λu H2 g2 e2=>⟨i,j,e1,e2,q _ H2 (g1.trans g2) rfl⟩)
theorem DB.cmpI{op:gc}{g:Int->Int->Bool}(ho:OpR X (aR op) (rI0 λi j=>.bl (g i j)))(hm:aG op b=a4)(ha:DT X ρ a (.int i))(hb:DT X ρ b (.int j)):DB X ρ (.Compare a [op] [b] pos) (g i j):=λσ H Q R q =>(Jl ho peS peS hm).to (ha σ H _ R λv H1 g1 e1=>hb σ H1 _ (R.grow g1) λu H2 g2 e2=>⟨i,j,e1,e2,_,rfl,q H2 (g1.trans g2)⟩)
theorem DB.lt(ha:DT X ρ a (.int i))(hb:DT X ρ b (.int j)):DB X ρ (.Compare a [.Lt] [b] pos) (decide (i<j)):=DB.cmpI jag (za _) ha hb
theorem DB.le(ha:DT X ρ a (.int i))(hb:DT X ρ b (.int j)):DB X ρ (.Compare a [.LtE] [b] pos) (decide (i<=j)):=DB.cmpI Io (za _) ha hb
theorem DB.gt(ha:DT X ρ a (.int i))(hb:DT X ρ b (.int j)):DB X ρ (.Compare a [.Gt] [b] pos) (decide (j<i)):=DB.cmpI jah (za _) ha hb
theorem DB.ge(ha:DT X ρ a (.int i))(hb:DT X ρ b (.int j)):DB X ρ (.Compare a [.GtE] [b] pos) (decide (j<=i)):=DB.cmpI jai (za _) ha hb
theorem DE.lt(ha:DT X ρ a (.int i))(hb:DT X ρ b (.int j)):DE X ρ (.Compare a [.Lt] [b] pos) (.bl (decide (i<j))):=DE.cmpI jag (za _) ha hb
theorem DE.le(ha:DT X ρ a (.int i))(hb:DT X ρ b (.int j)):DE X ρ (.Compare a [.LtE] [b] pos) (.bl (decide (i<=j))):=DE.cmpI Io (za _) ha hb
theorem DE.gt(ha:DT X ρ a (.int i))(hb:DT X ρ b (.int j)):DE X ρ (.Compare a [.Gt] [b] pos) (.bl (decide (j<i))):=DE.cmpI jah (za _) ha hb
theorem DE.ge(ha:DT X ρ a (.int i))(hb:DT X ρ b (.int j)):DE X ρ (.Compare a [.GtE] [b] pos) (.bl (decide (j<=i))):=DE.cmpI jai (za _) ha hb
noncomputable def D.sc:D->Option V
 |.non=>a3 .non
 |.bl b=>a3 (.bl b)
 |.int i=>a3 (.int i)
 |.str x=>a3 (.str x)
 |_=>a7
theorem D.sc_enc{K:k8m}{H:Hp}{d:D}{u v:V}(h:d.sc=a3 u)(q:Enc K H d v):v=u:=by cases d<;>simp[D.sc]at h<;>subst h<;>exact q
theorem DE.eqS{u v:V}(ha:DT X ρ a da)(hb:DT X ρ b db)(h1:da.sc=a3 u:=by rfl)(h2:db.sc=a3 v:=by rfl)(h:Dk u v=a6:=by rfl):DE X ρ (.Compare a [.Eq] [b] pos) (.bl (decide (u=v))):=λσ H Q R q =>
 (Jm jaj peS peS (za _)).to (ha σ H _ R λx H1 g1 e1=>hb σ H1 _ (R.grow g1) λy H2 g2 e2=>by
  cases D.sc_enc h1 e1;cases D.sc_enc h2 e2;exact⟨h,q _ H2 (g1.trans g2) rfl⟩)
theorem DE.neS{u v:V}(ha:DT X ρ a da)(hb:DT X ρ b db)(h1:da.sc=a3 u:=by rfl)(h2:db.sc=a3 v:=by rfl)(h:Dk u v=a6:=by rfl):DE X ρ (.Compare a [.NotEq] [b] pos) (.bl (!decide (u=v))):=λσ H Q R q =>
 (Jm jaf peS peS (za _)).to (ha σ H _ R λx H1 g1 e1=>hb σ H1 _ (R.grow g1) λy H2 g2 e2=>by
  cases D.sc_enc h1 e1;cases D.sc_enc h2 e2;exact⟨h,q _ H2 (g1.trans g2) rfl⟩)
theorem DB.eqS{u v:V}(ha:DT X ρ a da)(hb:DT X ρ b db)(h1:da.sc=a3 u:=by rfl)(h2:db.sc=a3 v:=by rfl)(h:Dk u v=a6:=by rfl):DB X ρ (.Compare a [.Eq] [b] pos) (decide (u=v)):=λσ H Q R q =>
 (Jl jaj peS peS (za _)).to (ha σ H _ R λx H1 g1 e1=>hb σ H1 _ (R.grow g1) λy H2 g2 e2=>by
  cases D.sc_enc h1 e1;cases D.sc_enc h2 e2;exact⟨h,_,rfl,q H2 (g1.trans g2)⟩)
theorem DB.neS{u v:V}(ha:DT X ρ a da)(hb:DT X ρ b db)(h1:da.sc=a3 u:=by rfl)(h2:db.sc=a3 v:=by rfl)(h:Dk u v=a6:=by rfl):DB X ρ (.Compare a [.NotEq] [b] pos) (!decide (u=v)):=λσ H Q R q =>
 (Jl jaf peS peS (za _)).to (ha σ H _ R λx H1 g1 e1=>hb σ H1 _ (R.grow g1) λy H2 g2 e2=>by
  cases D.sc_enc h1 e1;cases D.sc_enc h2 e2;exact⟨h,_,rfl,q H2 (g1.trans g2)⟩)
theorem Wd(i j:Int):decide (V.int i=V.int j)=decide (i=j):=by
 by_cases h:i=j
 .subst h;simp
 .rw[decide_eq_false h,decide_eq_false (λz=>h (V.int.inj z))]
theorem j34(i j:Bool):decide (V.bl i=V.bl j)=(i==j):=by cases i<;>cases j<;>rfl
theorem j15(i j:aj):decide (V.str i=V.str j)=decide (i=j):=by
 by_cases h:i=j
 .subst h;simp
 .rw[decide_eq_false h,decide_eq_false (λz=>h (V.str.inj z))]
theorem DE.eqI(ha:DT X ρ a (.int i))(hb:DT X ρ b (.int j)):DE X ρ (.Compare a [.Eq] [b] pos) (.bl (decide (i=j))):=(DE.eqS ha hb).eq (by rw[Wd])
theorem DE.neI(ha:DT X ρ a (.int i))(hb:DT X ρ b (.int j)):DE X ρ (.Compare a [.NotEq] [b] pos) (.bl (!decide (i=j))):=(DE.neS ha hb).eq (by rw[Wd])
theorem DB.eqI(ha:DT X ρ a (.int i))(hb:DT X ρ b (.int j)):DB X ρ (.Compare a [.Eq] [b] pos) (decide (i=j)):=(DB.eqS ha hb).eq (by rw[Wd])
theorem DB.neI(ha:DT X ρ a (.int i))(hb:DT X ρ b (.int j)):DB X ρ (.Compare a [.NotEq] [b] pos) (!decide (i=j)):=(DB.neS ha hb).eq (by rw[Wd])
theorem DE.neB{x y:Bool}(ha:DT X ρ a (.bl x))(hb:DT X ρ b (.bl y)):DE X ρ (.Compare a [.NotEq] [b] pos) (.bl (x != y)):=(DE.neS ha hb).eq (by rw[j34];rfl)
theorem DB.neB{x y:Bool}(ha:DT X ρ a (.bl x))(hb:DT X ρ b (.bl y)):DB X ρ (.Compare a [.NotEq] [b] pos) (x != y):=(DB.neS ha hb).eq (by rw[j34];rfl)
noncomputable def D.isNon:D->Bool
 |.non=>a6
 |_=>a4
theorem U9{K:k8m}{H:Hp}{d:D}{v:V}(q:Enc K H d v):decide (v=V.non)=d.isNon:=by
 cases d with
 |non=>cases(show v=.non from q);rfl
 |bl b=>cases(show v=.bl b from q);rfl
 |int b=>cases(show v=.int b from q);rfl
 |str b=>cases(show v=.str b from q);rfl
 |tup l=>obtain⟨a,xs,e,_⟩:=q;subst e;rfl
 |lst l=>obtain⟨a,xs,e,_⟩:=q;subst e;rfl
 |dct ks l=>obtain⟨a,xs,ep,vs,e,_⟩:=q;subst e;rfl
 |sct k=>obtain⟨a,e,_⟩:=q;subst e;rfl
 |fn x l=>obtain⟨a,c,tx,cl,vs,e,_⟩:=q;subst e;rfl
theorem DE.isN{n:Nat}{p2:aO}(ha:DT X ρ a d):DE X ρ (.Compare a [.Is] [.Constant .none n p2] pos) (.bl d.isNon):=λσ H Q R q =>(jfn (j5o peS)).to (ha σ H _ R λx H1 g1 e1=>q _ H1 g1 (by rw[U9 e1];rfl))
theorem DB.isN{n:Nat}{p2:aO}(ha:DT X ρ a d):DB X ρ (.Compare a [.Is] [.Constant .none n p2] pos) d.isNon:=λσ H Q R q =>(jfh (j5o peS)).to (ha σ H _ R λx H1 g1 e1=>⟨_,rfl,by rw[U9 e1];exact q H1 g1⟩)
theorem DB.val{k:Bool}(ha:DT X ρ a (.bl k))(he:∀whole,fR a X.env whole=(do let v <-whole;g6 a.pos;bL [v] (truthy v)):=by intro _;rfl):DB X ρ a k:=λσ H Q R q =>(jff peS he).to (ha σ H _ R λx H1 g1 e1=>⟨_,e1,q H1 g1⟩)
theorem DW.and1{k:Bool}(ha:DB X ρ a k):DW X ρ (.BoolOp .And [a] pos) k:=λσ H Q R q=>(jc5 ptS).to (ha σ H Q R q)
theorem DW.or1{k:Bool}(ha:DB X ρ a k):DW X ρ (.BoolOp .Or [a] pos) k:=λσ H Q R q=>(jfd ptS).to (ha σ H Q R q)
theorem DW.and{k m:Bool}{rest:List ao}(ha:DB X ρ a k)(hb:k=a6->DW X ρ (.BoolOp .And (b::rest) pos) m):DW X ρ (.BoolOp .And (a::b::rest) pos) (k&&m):=λσ H Q R q =>
 (jfe ptS pwS).to (ha σ H _ R λH1 g1=>by
  cases k with
  |false=>exact j0o (q H1 g1)
  |true=>exact j0n (hb rfl σ H1 Q (R.grow g1) λH2 g2=>q H2 (g1.trans g2)))
theorem DW.or{k m:Bool}{rest:List ao}(ha:DB X ρ a k)(hb:k=a4->DW X ρ (.BoolOp .Or (b::rest) pos) m):DW X ρ (.BoolOp .Or (a::b::rest) pos) (k || m):=λσ H Q R q =>
 (jjh ptS pwS).to (ha σ H _ R λH1 g1=>by
  cases k with
  |true=>exact j0n (q H1 g1)
  |false=>exact j0o (hb rfl σ H1 Q (R.grow g1) λH2 g2=>q H2 (g1.trans g2)))
theorem DB.not{k:Bool}(ha:DB X ρ a k):DB X ρ (.UnaryOp .Not a pos) (!k):=λσ H Q R q=>(jfg ptS).to (ha σ H _ R λH1 g1=>q H1 g1)
theorem DE.and{k m:Bool}{rest:List ao}(ha:DT X ρ a (.bl k))(hb:k=a6->DE X ρ (.BoolOp .And (b::rest) pos) (.bl m)):DE X ρ (.BoolOp .And (a::b::rest) pos) (.bl (k&&m)):=λσ H Q R q =>
 (jfo peS peS).to (ha σ H _ R λx H1 g1 e1=>⟨k,e1,by
  cases k with
  |false=>exact j0o (q _ H1 g1 rfl)
  |true=>exact j0n (hb rfl σ H1 Q (R.grow g1) λv H2 g2=>q v H2 (g1.trans g2))⟩)
theorem DE.ite{k:Bool}{d':D}(hc:DB X ρ c k)(ha:k=a6->DE X ρ a d)(hb:k=a4->DE X ρ b d'):DE X ρ (.IfExp c a b pos) (if k=a6 then d else d'):=λσ H Q R q =>
 (j87 ptS peS peS).to (hc σ H _ R λH1 g1=>by
  cases k with
  |true=>exact j0n (ha rfl σ H1 Q (R.grow g1) λv H2 g2 z=>q v H2 (g1.trans g2) (by rw[if_pos rfl];exact z))
  |false=>exact j0o (hb rfl σ H1 Q (R.grow g1) λv H2 g2 z=>q v H2 (g1.trans g2) (by rw[if_neg xm];exact z)))
theorem DA.nil:DA X ρ [] []:=λσ H Q R q=>jz.to (q [] H (j0.refl H) rfl)
theorem DA.cons(ha:DE X ρ a d)(hr:DA X ρ es ds)(hs:a9 (a::es) X.env=(a4,aA a X.env)::a9 es X.env:=by rfl):DA X ρ (a::es) (d::ds):=λσ H Q R q =>(jd peS paS hs).to (ha σ H _ R λv H1 g1 e1=>hr σ H1 _ (R.grow g1) λvs H2 g2 e2=>q _ H2 (g1.trans g2) ⟨v,vs,rfl,e1.mono (je g2),e2⟩)
theorem DTA.nil:DTA X ρ [] []:=λσ H Q R q=>jz.to (q [] H (j0.refl H) rfl)
theorem DTA.cons(ha:DT X ρ a d)(hr:DTA X ρ es ds)(hs:a9 (a::es) X.env=(a4,aA a X.env)::a9 es X.env:=by rfl):DTA X ρ (a::es) (d::ds):=λσ H Q R q =>(jd peS paS hs).to (ha σ H _ R λv H1 g1 e1=>hr σ H1 _ (R.grow g1) λvs H2 g2 e2=>q _ H2 (g1.trans g2) ⟨v,vs,rfl,e1.mono g2,e2⟩)
theorem DE.tup{n:Nat}{x1}(h:DA X ρ es ds)(hl:ds.length<=ar:=by simp only[X3,T5];decide):DE X ρ (.Tuple es x1 pos) (.tup ds):=λσ H Q R q =>(j5j paS).to (h σ H _ R λvs H1 g1 e1=>⟨by rw[e1.length];exact hl,λp hp=>q _ _ (g1.trans (j8 hp)) ⟨p,vs,rfl,.inl (.inl (by rw[j7 ((R.grow g1).fresh hp)];exact jc)),e1.mono (je (j8 hp))⟩⟩)
theorem DO.lst(h:DA X ρ es ds)(hl:ds.length<=ar:=by simp only[X3,T5];decide):DO X ρ (.List es pos) ds:=λσ H Q R q =>
 (jfm paS).to (h σ H _ R λvs H1 g1 e1=>⟨by rw[e1.length];exact hl,λp hp=>q p vs _ (g1.trans (j8 hp)) (g1.free hp) jc (e1.mono λb o z=>by
  obtain⟨n,z⟩:=of_del z
  rw[j7];exact j8 hp b o z
  intro y
  rcases xn.mp y with y|y
  .subst y;rw[hp]at z;cases z
  .exact n y)⟩)
theorem j5.atI{K:k8m}{H:Hp}{xs:List V}(h:j5 K H ds xs)(q:atI ds i=a3 d):∃x,L2.atI xs i=a3 x/\Enc K H d x:=by
 unfold L2.atI at q ⊢;rw[h.length];cases z:ixN ds.length i with
 |none=>rw[z]at q;cases q
 |some k =>rw[z]at q;exact h.get q
noncomputable def cutD(ds:List D)(lo hi:Option Int):List D:=(ds.drop (HT.sIx ds.length 0 lo)).take (HT.sIx ds.length ds.length hi-HT.sIx ds.length 0 lo)
theorem j5.cut{K:k8m}{H:Hp}{xs:List V}(h:j5 K H ds xs)(lo hi:Option Int):j5 K H (cutD ds lo hi) (Ri xs lo hi):=by unfold cutD Ri;rw[h.length];exact(h.drop _).take _
theorem Wc{K:k8m}{H1:Hp}{A:List aa}{ds:List D}{xs:List V}{p:aa}{o:HO}(hp:H1 p=a7)(e1:j5 K (del H1 A) ds xs):j5 K (del (upd H1 p o) (p::A)) ds xs:=e1.mono λb o z=>by
 obtain⟨n,z⟩:=of_del z;rw[j7];exact j8 hp b o z;intro y;rcases xn.mp y with y|y
 .subst y;rw[hp]at z;cases z
 .exact n y
theorem DO.rep(ha:DL X ρ a ds)(hb:DT X ρ b (.int i))(h1:-(2^63)<=i)(h2:i<2^63)(hl:ds.length*i.toNat<=ar):DO X ρ (.BinOp a .Mult b pos) (ae i.toNat ds).flatten:=λσ H Q R q =>
 (U5 jft peS peS).to (ha σ H _ R λl xs H1 g1 m1 e1=>hb σ H1 _ (R.grow g1) λu H2 g2 e2 =>
  ⟨l,i,xs,rfl,e2,g2 _ _ m1,h1,h2,by rw[e1.length];exact hl,λp hp=>q p _ _ ((g1.trans g2).trans (j8 hp)) ((g1.trans g2).free hp) jc (Wc hp ((e1.mono (je g2)).rep _))⟩)
theorem DE.lenT (ha:DT X ρ a (.tup ds)) (hm:X.mg "len" = a7) (hg:Gl X "len":=by rfl) (hs:a9 [a] X.env=[(a4,aA a X.env)]:=by rfl) {p2:aO}:DE X ρ (.Call (.Name "len" p2) [a] [] pos) (.int ds.length):=λσ H Q R q =>(vm Rm hg hm eK (jd peS jz hs) (by decide) (by decide) hs).to (ha σ H _ R λv H1 g1 ⟨l,xs,e,sq,en⟩=>⟨l,xs,by rw[e],.inr sq,q _ H1 g1 (by rw[en.length];rfl)⟩)
theorem DE.lenL (ha:DT X ρ a (.lst ds)) (hm:X.mg "len" = a7) (hg:Gl X "len":=by rfl) (hs:a9 [a] X.env=[(a4,aA a X.env)]:=by rfl) {p2:aO}:DE X ρ (.Call (.Name "len" p2) [a] [] pos) (.int ds.length):=λσ H Q R q =>(vm Rm hg hm eK (jd peS jz hs) (by decide) (by decide) hs).to (ha σ H _ R λv H1 g1 ⟨l,xs,e,sq,en⟩=>⟨l,xs,by rw[e],.inl sq,q _ H1 g1 (by rw[en.length];rfl)⟩)
end
def framed(sp:Sp):Sp:=λvs H Q E=>∃A:List aa,(∀a∈A,∃xs,H a=a3 (.lst xs))/\sp vs (del H A) (λv F=>(∀a∈A,F a=a7)->Q v (mrg A H F)) E
theorem FnOk.framed{P:av}{w:az}{K:k8m}{mg:k8p}{base:aD}{k:Nat}{f:aa}{fd:aQ}{ps:List aj}{sp:Sp}(F:FnOk P w K mg base CX0 k f fd ps sp) :
  FnOk P w K mg base CX0 k f fd ps (framed sp) where
 len:=λvs H Q E ⟨A,_,h⟩=>F.len vs _ _ _ h
 run:=by
  rintro A0 outer s H args us vs Q E hr e0 hb rv ⟨A,hA,h⟩;have nd:∀{b:aa},H b=a7->del H A b=a7:=λ{b} q=>by
   by_cases z:b∈A
   .exact qy z
   .rw[j7 z];exact q
  have out:∀{b:aa}{o:HO},H b=a3 o->(∀ys,o≠.lst ys)->del H A b=a3 o:=λ{b o} q z=>by rw[j7];exact q;intro y;obtain⟨ys,e'⟩:=hA b y;rw[q]at e';cases e';exact z ys rfl
  have e1:Env0 P w K mg base A0 outer s (del H A):=⟨e0.frames,e0.mod,λb o q=>⟨(e0.bs b o q).1,nd (e0.bs b o q).2⟩,e0.bsz,e0.funs,λb hb=>nd (e0.frf b hb),
   λa o q=>by
    obtain⟨_,q⟩:=of_del q
    exact jh.stay (e0.hok a o q) (λb u _ z=>z) (λb z=>out z λ_ y=>by cases y) (λb xs z=>out z λ_ y=>by cases y) (λb _ _ z=>out z λ_ y=>by cases y),e0.bare⟩
  refine bB (F.run A0 outer s (del H A) args us vs _ E hr e1 hb rv h) λr s' hq=>?_;cases r with
  |error e=>exact(show False from hq).elim
  |ok fl =>
   cases fl with
   |next=>exact(show False from hq).elim
   |brk=>exact(show False from hq).elim
   |cont=>exact(show False from hq).elim
   |ret u =>
    obtain⟨v,H',os,bare,un,hok',rel,q⟩:=(show CE outer P w (del H A) s _ u s' from hq)
    have kept:∀a∈A,∃o,s.heap.get? a=a3 o/\s'.heap.get? a=a3 o/\H' a=a7:=λa ha=>by
     obtain⟨xs,e⟩:=hA a ha;obtain⟨_,its,n,_,z⟩:=(show jh P w H s.heap a (.lst xs)from e0.hok _ _ e)
     have nf:a∉frs outer:=λy=>by rw[e0.frf a y]at e;cases e
     exact⟨_,z,un.keep a _ z (qy ha) nf (by simp),un.free a _ z (qy ha) (by simp)⟩
    have hF:∀a∈A,H' a=a7:=λa ha=>let ⟨_,_,_,z⟩:=kept a ha;z;have outF:∀{b:aa}{o:HO},H' b=a3 o->b∉A:=λ{b o} e z=>by rw[hF b z]at e;cases e
    refine⟨v,mrg A H H',os,bare,?_,λa o e=>?_,rel,q hF⟩
    .exact{
      keep:=λb o e n=>un.keep b o e (nd n)
      slot:=λb o e n=>un.slot b o e (nd n)
      free:=λb o e n hx=>by
       by_cases z:b∈A
       .rw[Jb z];exact n
       .rw[jm z];exact un.free b o e (nd n) hx
      there:=un.there
      tups:=λb xs e=>by
       have z:=un.tups b xs (out e λ_ y=>by cases y)
       rw[jm (outF z)];exact z
      frzs:=λb o u e=>by
       have z:=un.frzs b o u (out e λ_ y=>by cases y)
       rw[jm (outF z)];exact z
      tbls:=λb ps e=>by
       obtain⟨more,z⟩:=un.tbls b ps (out e λ_ y=>by cases y)
       exact⟨more,by rw[jm (outF z)];exact z⟩ }
    .by_cases z:a∈A
     .rw[Jb z]at e;obtain⟨xs,e'⟩:=hA a z;rw[e']at e;cases e;obtain⟨hl,its,n,r,y⟩:=(show jh P w H s.heap a (.lst xs)from e0.hok _ _ e')
      obtain⟨o',q1,q2,_⟩:=kept a z;rw[y]at q1;cases q1;exact⟨hl,its,n,r,q2⟩
     .rw[jm z]at e;refine jh.stay (hok' a o e) (λb u _ q=>q) (λb q=>?_) (λb xs q=>?_) (λb _ _ q=>?_)
      .rw[jm (outF q)];exact q
      .rw[jm (outF q)];exact q
      .rw[jm (outF q)];exact q
def spP(K:k8m)(S:List D->D->Prop):Sp:=λvs H Q _=>∃A ds d,TabOk K H/\(∀a∈A,∃xs,H a=a3 (.lst xs))/\j5 K (del H A) ds vs/\S ds d/\∀v H',j0 H H'->Enc K (del H' A) d v->Q v H'
def spF(K:k8m)(S:List D->List D->Prop):Sp:=λvs H Q _=>∃A ds l,TabOk K H/\(∀a∈A,∃xs,H a=a3 (.lst xs))/\j5 K (del H A) ds vs/\S ds l /\
 ∀a xs H',j0 H H'->H a=a7->H' a=a3 (.lst xs)->j5 K (del H' (a::A)) l xs->Q (.ref a) H'
def jlg(K:k8m)(S:List D->D->Prop):Sp:=λvs H Q _=>∃ds d,TabOk K H/\j5 K H ds vs/\S ds d/\∀v H',j0 H H'->Enc K H' d v->Q v H'
def jlh(K:k8m)(S:List D->List D->Prop):Sp:=λvs H Q _=>∃ds l,TabOk K H/\j5 K H ds vs/\S ds l/\∀a xs H',j0 H H'->H a=a7->H' a=a3 (.lst xs)->j5 K (del H' [a]) l xs->Q (.ref a) H'
section
variable{P:av}{w:az}{K:k8m}{mg:k8p}{base:aD}{k:Nat}{f:aa}{fd:aQ}{ps:List aj}
theorem FnOk.toP{S:List D->D->Prop}(F:FnOk P w K mg base CX0 k f fd ps (jlg K S)):FnOk P w K mg base CX0 k f fd ps (spP K S) :=
 F.framed.imp λvs H Q E ⟨A,ds,d,tb,hA,en,hS,q⟩=>⟨A,hA,ds,d,tb.del hA,en,hS,λv F g e hF=>q v _ (Og g) (by rw[Yd hF];exact e)⟩
theorem FnOk.toF{S:List D->List D->Prop}(F:FnOk P w K mg base CX0 k f fd ps (jlh K S)):FnOk P w K mg base CX0 k f fd ps (spF K S) :=
 F.framed.imp λvs H Q E ⟨A,ds,l,tb,hA,en,hS,q⟩=>⟨A,hA,ds,l,tb.del hA,en,hS,λa xs F g n e l' hF=>by
  have na:a∉A:=λz=>by rw[hF a z]at e;cases e
  refine q a xs _ (Og g) (by rw[j7 na]at n;exact n) (by rw[jm na];exact e) (l'.mono λb o z=>?_)
  obtain⟨n1,z⟩:=of_del z
  have nb:b∉A:=λy=>by rw[hF b y]at z;cases z
  rw[j7,jm nb];exact z
  intro y
  rcases xn.mp y with y|y
  .exact n1 (by rw[y];exact xj.mpr rfl)
  .exact nb y⟩
end
noncomputable def j4a:List aj:=["dearest_way","cost_on_whole","worst_table","worst_plan","foe_answer","whole_table","whole_plan","mean_price"]
noncomputable def kG(us ws:List a8):List a8:=match ws with
 |[w]=>us++[w]
 |_=>[]
noncomputable def kGV(vs zs:List V):List V:=match zs with
 |[z]=>vs++[z]
 |_=>[]
def Dfl(K:k8m)(x:aj)(fd:aQ)(ps:List aj):Prop:=x∈j4a->Binds K fd ps [.none]/\KBinds K fd ps ["prices"] kG kGV
structure Cal(X:Cx)(x:aj)(sp:Sp):Prop where
 ex:∃(k:Nat)(f:aa)(fd:aQ)(ps:List aj),FnOk X.prog X.w X.K X.mg X.base CX0 k f fd ps sp/\Room (k+1) X.A/\X.mg x=a3 (.ref f)/\W.keepIn X.K (.ref f)=a6/\Binds X.K fd ps []/\Dfl X.K x fd ps
section
variable{X:Cx}{ρ:Rho}{e a:ao}{es:List ao}{d:D}{ds l:List D}{pos p:aO}{x:aj}
theorem DE.call{S:List D->D->Prop}(c:Cal X x (spP X.K S))(ha:DA X ρ (e::es) ds)(hS:S ds d)(hg:Gl X x:=by rfl)(hdb:(x==k8q)=a4:=by decide)
  (he:a9 (e::es) X.env=(a4,aA e X.env)::a9 es X.env:=by rfl) (hpl:(aY pos (a9 es X.env)).any (·.1)=a4:=by rfl):DE X ρ (.Call (.Name x p) (e::es) [] pos) d:=λσ H Q R q=>by
 obtain⟨k,f,fd,ps,F,hr,hm,hk,hb,_⟩:=c.ex;refine(M6 F (hr.mono (Pk _)) hg hm hk hb .nil Im paS hdb he hpl).to (ha σ H _ R λvs H1 g1 e1=>?_);show spP X.K S (vs++[]) H1 Q E0;rw[Xu];exact⟨owns ρ,ds,d,R.tb.mono g1,(R.grow g1).owned,e1,hS,λv H2 g2 z=>q v H2 (g1.trans g2) z⟩
theorem DT.call{S:List D->D->Prop}(c:Cal X x (spP X.K S))(ha:DTA X ρ (e::es) ds)(hS:S ds d)(hg:Gl X x:=by rfl)(hdb:(x==k8q)=a4:=by decide)
  (he:a9 (e::es) X.env=(a4,aA e X.env)::a9 es X.env:=by rfl) (hpl:(aY pos (a9 es X.env)).any (·.1)=a4:=by rfl):DT X ρ (.Call (.Name x p) (e::es) [] pos) d:=λσ H Q R q=>by
 obtain⟨k,f,fd,ps,F,hr,hm,hk,hb,_⟩:=c.ex;refine(M6 F (hr.mono (Pk _)) hg hm hk hb .nil Im paS hdb he hpl).to (ha σ H _ R λvs H1 g1 e1=>?_);show spP X.K S (vs++[]) H1 Q E0;rw[Xu];exact⟨[],ds,d,R.tb.mono g1,(λa h=>nomatch h),by rw[J8];exact e1,hS,λv H2 g2 z=>q v H2 (g1.trans g2) (by rw[J8]at z;exact z)⟩
theorem DO.call{S:List D->List D->Prop}(c:Cal X x (spF X.K S))(ha:DA X ρ (e::es) ds)(hS:S ds l)(hg:Gl X x:=by rfl)(hdb:(x==k8q)=a4:=by decide)
  (he:a9 (e::es) X.env=(a4,aA e X.env)::a9 es X.env:=by rfl) (hpl:(aY pos (a9 es X.env)).any (·.1)=a4:=by rfl):DO X ρ (.Call (.Name x p) (e::es) [] pos) l:=λσ H Q R q=>by
 obtain⟨k,f,fd,ps,F,hr,hm,hk,hb,_⟩:=c.ex;refine(M6 F (hr.mono (Pk _)) hg hm hk hb .nil Im paS hdb he hpl).to (ha σ H _ R λvs H1 g1 e1=>?_);show spF X.K S (vs++[]) H1 Q E0;rw[Xu];exact⟨owns ρ,ds,l,R.tb.mono g1,(R.grow g1).owned,e1,hS,λa xs H2 g2 n m z=>q a xs H2 (g1.trans g2) (g1.free n) m z⟩
end
inductive Rt where
 |val (d:D)
 |fresh (ds:List D)
noncomputable def Rt.d:Rt->D
 |.val d=>d
 |.fresh l=>.lst l
structure Po where
 nx:Rho->Prop
 rt:Rt->Prop
 bk:Rho->Prop:=λ_=>False
 ct:Rho->Prop:=λ_=>False
 ex:aj->Rho->Prop:=λ_ _=>False
structure Fl(N:aa->Prop)(H:Hp)(h:aD)(e:aa)(C:a8):Prop where
 new:∀b,N b->b≠e
 free:H e=a7
 obj:∃(oe:dz)(vs:Array a8)(a0:a8),h.get? e=a3 oe/\oe.cls=C/\oe.data=.fields vs/\vs[0]?=a3 a0 /\
  (vs[1]?=a3 .none\/∃(T:aa)(oT:dz)(ts:Array a8),vs[1]?=a3 (.ref T)/\T≠e/\h.get? T=a3 oT/\oT.data=.fields ts/\ts[3]?=a3 .none/\H T=a7/\∀b,N b->b≠T)
def Old(X:Cx)(pins:k8o)(b:aa):Prop:=(∃o,X.s₀.heap.get? b=a3 o/\b∉X.ex)\/(∃p∈X.pn++pins,p.1=b)\/b=X.env.locals\/∃x,X.env.cells.lookup x=a3 b
def Ld(X:Cx)(σ:St)(H:Hp)(x:aj):Prop:=∀(pins:k8o) (H':Hp) (s':af) (e:aa) (C:a8),Inv X pins σ H' s'->j0 H H'->X.mg x=a3 C->Fl (Old X pins) H' s'.heap e C->X.xe (.ref e) s'
def Fr0(ρ ρ':Rho)(H H':Hp):Prop:=j0 (del H (owns ρ)) (del H' (owns ρ'))
def Le(K:k8m)(ρ:Rho)(H H':Hp)(v:V):Rt->Prop
 |.val d=>j0 (del H (owns ρ)) H'/\Enc K H' d v
 |.fresh ds=>∃a xs,v=.ref a/\j0 (del H (owns ρ)) (del H' [a])/\H' a=a3 (.lst xs)/\j5 K (del H' [a]) ds xs
structure EndsOk(X:Cx)(ρ:Rho)(H:Hp)(P:Po)(E:Ends):Prop where
 nx:∀ρ' σ' H',P.nx ρ'->Rep X.K ρ' σ' H'->Fr0 ρ ρ' H H'->E.nx σ' H'
 bk:∀ρ' σ' H',P.bk ρ'->Rep X.K ρ' σ' H'->Fr0 ρ ρ' H H'->E.bk σ' H'
 ct:∀ρ' σ' H',P.ct ρ'->Rep X.K ρ' σ' H'->Fr0 ρ ρ' H H'->E.ct σ' H'
 rt:∀r v H',P.rt r->Le X.K ρ H H' v r->E.rt v H'
 ex:∀x ρ' σ' H',P.ex x ρ'->Rep X.K ρ' σ' H'->Fr0 ρ ρ' H H'->Ld X σ' H' x
theorem Le.step{K:k8m}{ρ ρ1:Rho}{H H1 H':Hp}{v:V}{r:Rt}(f:Fr0 ρ ρ1 H H1)(h:Le K ρ1 H1 H' v r):Le K ρ H H' v r:=by
 cases r with
 |val d=>exact⟨f.trans h.1,h.2⟩
 |fresh ds=>obtain⟨a,xs,e,g,m,l⟩:=h;exact⟨a,xs,e,f.trans g,m,l⟩
theorem EndsOk.step{X:Cx}{ρ ρ1:Rho}{H H1:Hp}{P:Po}{E:Ends}(h:EndsOk X ρ H P E)(f:Fr0 ρ ρ1 H H1):EndsOk X ρ1 H1 P E :=
 ⟨λρ' σ' H' n R g=>h.nx ρ' σ' H' n R (f.trans g),λρ' σ' H' n R g=>h.bk ρ' σ' H' n R (f.trans g),λρ' σ' H' n R g=>h.ct ρ' σ' H' n R (f.trans g),λr v H' n g=>h.rt r v H' n (Le.step f g),λx ρ' σ' H' n R g=>h.ex x ρ' σ' H' n R (f.trans g)⟩
theorem Fr0.grow{ρ:Rho}{H H':Hp}(g:j0 H H'):Fr0 ρ ρ H H':=je g
theorem Fr0.refl(ρ:Rho)(H:Hp):Fr0 ρ ρ H H:=j0.refl _
theorem Fr0.drop{ρ ρ':Rho}{H:Hp}(h:∀b∈owns ρ',b∈owns ρ):Fr0 ρ ρ' H H:=J7 h
theorem Fr0.new{ρ:Rho}{H H':Hp}{i:Nat}{a:aa}{ds:List D}{K:k8m}{σ:St}(R:Rep K ρ σ H)(g:j0 H H')(n:H a=a7):Fr0 ρ (ρ.set i (.own a ds)) H H':=λb o q=>by
 obtain⟨nb,q⟩:=of_del q;rw[j7];exact g b o q;intro z;rcases(Jo (ds:=ds) (i:=i) R.nd (R.fresh n)).2 b z with e|z
 .subst e;rw[n]at q;cases q
 .exact nb z
def DS(X:Cx)(ρ:Rho)(st:bp)(P:Po):Prop:=∀σ H E,Rep X.K ρ σ H->EndsOk X ρ H P E->j7u X st E σ H
def DSs(X:Cx)(ρ:Rho)(sts:List bp)(P:Po):Prop:=∀σ H E,Rep X.K ρ σ H->EndsOk X ρ H P E->Bw X sts E σ H
section
variable{X:Cx}{ρ:Rho}{e a b c:ao}{es:List ao}{st:bp}{rest sa sb body:List bp}{P:Po}{d:D}{ds ds':List D}{pos p p1 p2 p3:aO}{x:aj}{i:Nat}
theorem DSs.nil(h:P.nx ρ):DSs X ρ [] P:=λσ H E R q=>jc6.to (q.nx ρ σ H h R (Fr0.refl ρ H))
theorem DSs.cons{N:Rho->Prop}(h1:DS X ρ st { P with nx:=N })(h2:∀ρ1,N ρ1->DSs X ρ1 rest P):DSs X ρ (st::rest) P:=λσ H E R q =>(W2 psS Ol).to (h1 σ H { E with nx:=Bw X rest E } R ⟨λρ' σ' H' n R' f=>h2 ρ' n σ' H' E R' (q.step f),q.bk,q.ct,q.rt,q.ex⟩)
theorem DSs.freeze(i:Nat){l:aa}(h:ρ[i]?=a3 (.own l ds))(h2:DSs X (ρ.set i (.val (.lst ds))) body P):DSs X ρ body P:=λσ H E R q =>h2 σ H E (R.freeze h) (q.step (.drop λb hb=>(jy rfl).subset hb))
theorem DSs.forget(i:Nat)(h2:DSs X (ρ.set i .un) body P):DSs X ρ body P:=λσ H E R q=>by
 have z:=R.set_un (i:=i) (v:=a7);have R':Rep X.K (ρ.set i .un) σ H:=by
  have q:=R.set_un (i:=i) (v:=(σ[i]?).join);have e:σ.set i ((σ[i]?).join)=σ:=by
   apply sy;intro j;rw[cL];split
   .rename_i h;subst h;split
    .rename_i h;rw[kh h];rfl
    .rename_i h;rw[Pj nofun]
   .rfl
  rw[e]at q;exact q
 exact h2 σ H E R' (q.step (.drop λb hb=>(jy rfl).subset hb))
theorem DS.set(i:Nat)(he:DE X ρ e d)(h:P.nx (ρ.set i (.val d)))(hN:X.N.Nodup)(hi:X.N[i]?=a3 x:=by rfl)(hx:Loc X.env.scope x:=by first|exact bq rfl|exact bH rfl)
  (hs:aZ e (a3 (.Name x p)) pos.line X.env=pure a4:=by rfl) (hf:X.fn x=a6\/X.env.scope.names.lookup x=a3 .local:=by first|exact .inl rfl|exact .inr rfl):DS X ρ (.Assign [.Name x p] e pos) P:=λσ H E R q =>
 (Ur hN hi hx peS hs hf).to (he σ H _ R λv H1 g1 e1=>q.nx _ _ H1 h ((R.grow g1).set_val e1) (j0.trans (Fr0.grow g1) (Fr0.drop λb hb=>(jy rfl).subset hb)))
theorem DS.setO(i:Nat)(he:DO X ρ e ds)(h:∀l,P.nx (ρ.set i (.own l ds)))(hN:X.N.Nodup)(hi:X.N[i]?=a3 x:=by rfl)(hx:Loc X.env.scope x:=by first|exact bq rfl|exact bH rfl)
  (hs:aZ e (a3 (.Name x p)) pos.line X.env=pure a4:=by rfl) (hf:X.fn x=a6\/X.env.scope.names.lookup x=a3 .local:=by first|exact .inl rfl|exact .inr rfl):DS X ρ (.Assign [.Name x p] e pos) P:=λσ H E R q =>
 (Ur hN hi hx peS hs hf).to (he σ H _ R λl xs H1 g1 n m e1=>q.nx _ _ H1 (h l) (R.set_own g1 n m e1) (.new R g1 n))
theorem DS.if{k:Bool}(hc:DB X ρ c k)(ha:k=a6->DSs X ρ sa P)(hb:k=a4->DSs X ρ sb P):DS X ρ (.If c sa sb pos) P:=λσ H E R q =>
 (jji ptS Ol Ol).to (hc σ H _ R λH1 g1=>by
  cases k with
  |true=>exact j0n (ha rfl σ H1 E (R.grow g1) (q.step (.grow g1)))
  |false=>exact j0o (hb rfl σ H1 E (R.grow g1) (q.step (.grow g1))))
theorem DS.ret(he:DT X ρ e d)(h:P.rt (.val d)):DS X ρ (.Return (a3 e) pos) P:=λσ H E R q =>(Wv peS).to (he σ H _ R λv H1 g1 e1=>q.rt _ v H1 h ⟨q9.trans g1,e1⟩)
theorem DS.retO(he:DO X ρ e ds)(h:P.rt (.fresh ds)):DS X ρ (.Return (a3 e) pos) P:=λσ H E R q =>
 (Wv peS).to (he σ H _ R λl xs H1 g1 n m e1=>q.rt _ _ H1 h ⟨l,xs,rfl,(λb o z=>by
  obtain⟨nb,z⟩:=of_del z
  rw[j7];exact g1 b o z
  intro y;rw[xj.mp y,n]at z;cases z),m,e1.mono (J7 λb hb=>by rw[xj.mp hb];exact xq ..)⟩)
theorem DS.retV(k:Nat){l:aa}(hk:ρ[k]?=a3 (.own l ds))(h:P.rt (.fresh ds))(hN:X.N[k]?=a3 x:=by rfl)(hv:Vis X.env.scope x:=by first|exact bq rfl|exact bH (bq rfl)|exact bH (bH rfl))
  (hd:(x==k8q)=a4:=by decide) (hcd:(x==k8r)=a4:=by decide):DS X ρ (.Return (a3 (.Name x p)) pos) P:=λσ H E R q=>by
 obtain⟨hs,xs,m,en⟩:=R.own k l ds hk;have g:j0 (del H (owns ρ)) (del H [l]):=J7 λb hb=>by rw[xj.mp hb];exact Qm hk
 exact(Wv (Ql hN hv hd hcd)).to ⟨_,hs,q.rt _ _ H h ⟨l,xs,rfl,g,m,en.mono g⟩⟩
theorem DS.expr(he:DT X ρ e d)(h:P.nx ρ)(hs:aZ e a7 pos.line X.env=pure a4:=by rfl):DS X ρ (.Expr e pos) P:=λσ H E R q =>(Rz peS hs).to (he σ H _ R λv H1 g1 e1=>q.nx ρ σ H1 h (R.grow g1) (.grow g1))
theorem j0s{σ:St}{H H':Hp}{l:aa}{o:HO}(hk:ρ[i]?=a3 (.own l ds))(g:j0 H H'):Fr0 ρ (ρ.set i (.own l ds')) H (upd H' l o):=by unfold Fr0;rw[Vt hk,Uw (Qm hk)];exact je g
theorem DS.append(i:Nat){l:aa}(hk:ρ[i]?=a3 (.own l ds))(he:DE X ρ e d)(hl:ds.length<ar)(h:P.nx (ρ.set i (.own l (ds++[d]))))
  (hN:X.N[i]?=a3 x:=by rfl) (hv:Vis X.env.scope x:=by first|exact bq rfl|exact bH (bq rfl)|exact bH (bH rfl)) (hd:(x==k8q)=a4:=by decide) (hcd:(x==k8r)=a4:=by decide)
  (hst:a9 [e] X.env=[(a4,aA e X.env)]:=by rfl) (hline:(p1.endLine==p2.line)=a6:=by rfl)
  (hbase:bf (.Name x p) "append" X.env (aA (.Name x p) X.env)=aA (.Name x p) X.env:=by rfl) (hfew:((aY p2 (a9 [e] X.env)).all (λx=>!x.1)&&(cH p2 (bD [] X.env)).all (λx=>x.1.isSome)
   && decide (([e]:List ao).length+([]:List bx).length+(if ([]:List bx).isEmpty then 0 else 1)<30))=a6:=by rfl)
  (hs:aZ (.Call (.Attribute (.Name x p) "append" p1) [e] [] p2) a7 pos.line X.env=pure a4:=by rfl) :
  DS X ρ (.Expr (.Call (.Attribute (.Name x p) "append" p1) [e] [] p2) pos) P:=λσ H E R q=>by
 obtain⟨hσ,xs,m,en⟩:=R.own i l ds hk;refine(Rz (Nb du hV PySem.F.type_list_append K6 (Ql hN hv hd hcd) (jd peS jz hst) hbase hfew hline hst rfl) hs).to ?_;refine⟨_,hσ,.inl ⟨rfl,xs,.inl (.inl m)⟩,he σ H _ R λv H1 g1 e1=>⟨l,xs,v,rfl,rfl,g1 _ _ m,by rw[en.length];exact hl,?_⟩⟩;exact q.nx _ σ _ h ((R.grow g1).upd_own hk ((en.mono (je g1)).append (.one e1))) (j0s (σ:=σ) hk g1)
theorem DS.extend(i:Nat){l:aa}(hk:ρ[i]?=a3 (.own l ds))(he:DO X ρ e ds')(hl:ds.length+ds'.length<=ar)(h:P.nx (ρ.set i (.own l (ds++ds'))))
  (hN:X.N[i]?=a3 x:=by rfl) (hv:Vis X.env.scope x:=by first|exact bq rfl|exact bH (bq rfl)|exact bH (bH rfl)) (hd:(x==k8q)=a4:=by decide) (hcd:(x==k8r)=a4:=by decide)
  (hst:a9 [e] X.env=[(a4,aA e X.env)]:=by rfl) (hline:(p1.endLine==p2.line)=a6:=by rfl)
  (hbase:bf (.Name x p) "extend" X.env (aA (.Name x p) X.env)=aA (.Name x p) X.env:=by rfl) (hfew:((aY p2 (a9 [e] X.env)).all (λx=>!x.1)&&(cH p2 (bD [] X.env)).all (λx=>x.1.isSome)
   && decide (([e]:List ao).length+([]:List bx).length+(if ([]:List bx).isEmpty then 0 else 1)<30))=a6:=by rfl)
  (hs:aZ (.Call (.Attribute (.Name x p) "extend" p1) [e] [] p2) a7 pos.line X.env=pure a4:=by rfl) :
  DS X ρ (.Expr (.Call (.Attribute (.Name x p) "extend" p1) [e] [] p2) pos) P:=λσ H E R q=>by
 obtain⟨hσ,xs,m,en⟩:=R.own i l ds hk;refine(Rz (Nb du hJ PySem.F.type_list_extend j5u (Ql hN hv hd hcd) (jd peS jz hst) hbase hfew hline hst rfl) hs).to ?_;refine⟨_,hσ,.inl ⟨rfl,xs,.inl (.inl m)⟩,he σ H _ R λb ys H1 g1 n1 m1 e1=>⟨l,b,xs,ys,rfl,rfl,g1 _ _ m,m1,by rw[en.length,e1.length];exact hl,?_⟩⟩;exact q.nx _ σ _ h ((R.grow g1).upd_own hk ((en.mono (je g1)).append (e1.mono (J7 λc hc=>xf _ hc)))) (j0s (σ:=σ) hk g1)
def Uk(K:k8m)(F:Hp)(J:It)(ds:List D):Prop:=∀(i:Nat)(H:Hp)(A:List aa),j0 F (del H A)->(∀a∈A,H a≠a7) ->
 (i<ds.length->J.go i H)/\(ds.length<=i->J.stop i H)/\∀x H',J.yld i H x H'->j0 H H'/\∀d,ds[i]?=a3 d->Enc K (del H' A) d x
def DI(X:Cx)(ρ:Rho)(tg it:ao)(ds:List D):Prop:=∀σ H R,Rep X.K ρ σ H->(∀J H',j0 H H'->Uk X.K (del H' (owns ρ)) J ds->R J H')->j03 X tg it σ H R
variable{tg it:ao}
theorem j6d{K:k8m}{F:Hp}{l:aa}{xs:List V}(sq:SqL K F l xs)(en:j5 K F ds xs):Uk K F (Itl K l) ds:=λi H A g hA=>by
 have sq':SqL K H l xs:=q9.seq (g.seq sq);refine⟨λh=>?_,λh=>⟨xs,sq',by rw[en.length];exact h⟩,λx H' ⟨e,y⟩=>?_⟩
 .obtain⟨v,hv,_⟩:=en.get (kh h);exact⟨xs,v,sq',hv⟩
 .subst e;refine⟨j0.refl _,λd hd=>?_⟩;obtain⟨v,hv,ev⟩:=en.get hd;have e:=y xs sq';rw[hv]at e;cases e;exact ev.mono g
theorem j8k{K:k8m}{F:Hp}{l:aa}{xs:List V}(sq:SqT K F l xs)(en:j5 K F ds xs):Uk K F (Itt K l) ds:=λi H A g hA=>by
 have sq':SqT K H l xs:=q9.seqT (g.seqT sq);refine⟨λh=>?_,λh=>⟨xs,sq',by rw[en.length];exact h⟩,λx H' ⟨e,y⟩=>?_⟩
 .obtain⟨v,hv,_⟩:=en.get (kh h);exact⟨xs,v,sq',hv⟩
 .subst e;refine⟨j0.refl _,λd hd=>?_⟩;obtain⟨v,hv,ev⟩:=en.get hd;have e:=y xs sq';rw[hv]at e;cases e;exact ev.mono g
theorem DI.lst(h:DE X ρ it (.lst ds)):DI X ρ tg it ds:=λσ H R r q=>(jca peS).to (h σ H _ r λv H1 g1 ⟨l,xs,e,sq,en⟩=>⟨l,e,⟨xs,q9.seq sq⟩,q _ H1 g1 (j6d sq en)⟩)
theorem DI.tup(h:DE X ρ it (.tup ds)):DI X ρ tg it ds:=λσ H R r q=>(jfj peS).to (h σ H _ r λv H1 g1 ⟨l,xs,e,sq,en⟩=>⟨l,e,⟨xs,q9.seqT sq⟩,q _ H1 g1 (j8k sq en)⟩)
noncomputable def upto(lo:Int)(n:Nat):List D:=(ax n).map λk=>D.int (lo+(k:Nat))
theorem Nm{K:k8m}{F:Hp}(lo:Int)(n:Nat):Uk K F (Itr lo n) (upto lo n):=λi H A g hA=>by
 have hl:(upto lo n).length=n:=by unfold upto;rw[xg,Pa]
 rw[hl];refine⟨λh=>h,λh=>h,λx H' ⟨e,y⟩=>?_⟩;subst e;refine⟨j0.refl _,λd hd=>?_⟩;unfold upto at hd;rw[X6]at hd;cases z:(ax n)[i]? with
 |none=>rw[z]at hd;cases hd
 |some k =>
  rw[z]at hd;have ek:k=i:=by have:=T3 (n:=n) (i:=i) (by have:=(X8.mp z).1;rwa [Pa]at this);rw[this]at z;exact(aw z).symm
  subst ek;cases hd;exact y
theorem DI.range1 {n:Int} (h:DT X ρ a (.int n)) (hm:X.mg "range" = a7) (h1:-(2^62)<=n) (h2:n<2^62) (hg:Gl X "range":=by rfl) (hs:a9 [a] X.env=[(a4,aA a X.env)]:=by rfl):DI X ρ tg (.Call (.Name "range" p) [a] [] pos) (upto 0 n.toNat):=λσ H R r q =>(j5i hg hm (jd peS jz hs) hs).to (h σ H _ r λv H1 g1 e=>⟨n,by rw[show v=.int n from e],h1,h2,q _ H1 g1 (Nm 0 _)⟩)
theorem DI.range2 {m n:Int} (h:DT X ρ a (.int m)) (h':DT X ρ b (.int n)) (hm:X.mg "range" = a7) (h1:-(2^62)<=m) (h2:m<2^62) (h3:-(2^62)<=n) (h4:n<2^62) (hg:Gl X "range":=by rfl) (hs:a9 [a,b] X.env=[(a4,aA a X.env),(a4,aA b X.env)]:=by rfl)
  (hs2:a9 [b] X.env=[(a4,aA b X.env)]:=by rfl) (hs3:a9 [a,b] X.env=(a4,aA a X.env)::a9 [b] X.env:=by rfl):DI X ρ tg (.Call (.Name "range" p) [a,b] [] pos) (upto m (n-m).toNat):=λσ H R r q =>
 (j5h hg hm (jd peS (jd peS jz hs2) hs3) hs hs2).to (h σ H _ r λv H1 g1 e=>h' σ H1 _ (r.grow g1) λu H2 g2 e2=>⟨m,n,by rw[show v=.int m from e,show u=.int n from e2],⟨h1,h2,h3,h4⟩,q _ H2 (g1.trans g2) (Nm m _)⟩)
def j7v(X:Cx)(tg:ao):TG:=λv σ H Q=>∀pins s u,Inv X pins σ H s->RelV v u->aq (ay X.prog X.w) X.A (cX tg X.env u) (λ_ s'=>∃σ' H',Inv X pins σ' H' s'/\Q σ' H') X.xe s
theorem pgS:PG X tg (j7v X tg):=λpins s σ H v u Q I r h=>h pins s u I r
theorem PG.to{t:TG}{σ:St}{H:Hp}{v:V}{Q:St->Hp->Prop}(h:PG X tg t)(q:t v σ H Q):j7v X tg v σ H Q:=λpins s u I r=>h pins s σ H v u Q I r q
def DG(X:Cx)(ρ:Rho)(tg:ao)(d:D)(ρ':Rho):Prop:=(∀b∈owns ρ',b∈owns ρ)/\∀σ H v Q,Rep X.K ρ σ H->Enc X.K (del H (owns ρ)) d v->(∀σ',Rep X.K ρ' σ' H->Q σ' H)->j7v X tg v σ H Q
theorem DG.name(i:Nat)(hN:X.N.Nodup)(hi:X.N[i]?=a3 x:=by rfl)(hx:Loc X.env.scope x:=by first|exact bq rfl|exact bH rfl)(hf:X.fn x=a6\/X.env.scope.names.lookup x=a3 .local:=by first|exact .inl rfl|exact .inr rfl):DG X ρ (.Name x p) d (ρ.set i (.val d)) :=
 ⟨λb hb=>(jy rfl).subset hb,λσ H v Q R en q=>(M5 hN hi hx hf).to (q _ (R.set_val en))⟩
theorem DS.for(W:Nat->Rho->Prop)(hi:DI X ρ tg it ds)(h0:W 0 ρ)(hs:∀i d ρ',ds[i]?=a3 d->W i ρ'->∃ρ2,DG X ρ' tg d ρ2/\DSs X ρ2 body { nx:=W (i+1),rt:=P.rt,bk:=P.nx,ct:=W (i+1),ex:=P.ex })
  (hd:∀ρ',W ds.length ρ'->P.nx ρ') (hc:X.calm=a6) (hp:gw (ay X.prog X.w) X.A X.env X.xe) (hf:∀x,aH it X.env x=pure x:=by intro _;rfl):DS X ρ (.For tg it body [] pos) P:=λσ H E R q=>by
 refine(j5a hp hc piS pgS Ol hf).to (hi σ H _ R λJ H1 g1 ok=>?_);refine⟨λi m σ' H'=>∃ρ',W i ρ'/\Rep X.K ρ' σ' H'/\Fr0 ρ ρ' H1 H'/\m=ds.length-i/\i<=ds.length,⟨ds.length,ρ,h0,R.grow g1,Fr0.refl _ _,rfl,Ti _⟩,?_⟩;rintro i m σ' H' ⟨ρ',w,R',f,rfl,hle⟩;obtain⟨go,stop,yld⟩:=ok i H' (owns ρ') f λa ha=>by obtain⟨xs,e⟩:=R'.owned a ha;rw[e];simp
 by_cases hlt:i<ds.length
 .refine .inr ⟨go hlt,λσ2 H2=>∃ρ2,W (i+1) ρ2/\Rep X.K ρ2 σ2 H2/\Fr0 ρ ρ2 H1 H2,λσ2 H2 ⟨ρ2,w2,R2,f2⟩=>⟨ds.length-(i+1),by omega,ρ2,w2,R2,f2,rfl,hlt⟩,λx H2 y=>?_⟩;obtain⟨g2,en⟩:=yld x H2 y;obtain⟨ρ2,⟨sub,hG⟩,hB⟩:=hs i ds[i] ρ' (kh hlt) w;refine hG σ' H2 x _ (R'.grow g2) (en _ (kh hlt)) λσ3 R3=>?_;have f2:Fr0 ρ ρ2 H1 H2:=j0.trans f (j0.trans (Fr0.grow g2) (Fr0.drop sub));refine hB σ3 H2 _ R3 ⟨λρ3 σ4 H4 n R4 f4=>⟨ρ3,n,R4,f2.trans f4⟩,λρ3 σ4 H4 n R4 f4=>q.nx ρ3 σ4 H4 n R4 ((Fr0.grow g1).trans (f2.trans f4)),λρ3 σ4 H4 n R4 f4=>⟨ρ3,n,R4,f2.trans f4⟩,λr v H4 n z=>q.rt r v H4 n (Le.step ((Fr0.grow g1).trans f2) z),λx ρ3 σ4 H4 n R4 f4=>q.ex x ρ3 σ4 H4 n R4 ((Fr0.grow g1).trans (f2.trans f4))⟩
 .have e:i=ds.length:=by omega
  subst e;exact .inl ⟨stop (xx _),q.nx ρ' σ' H' (hd ρ' w) R' ((Fr0.grow g1).trans f)⟩
end
noncomputable def qw(N:List aj)(ds:List D):Rho:=ds.map Sl.val++ae (N.length-ds.length) Sl.un
theorem Ve(N:List aj)(ds:List D):owns (qw N ds)=[]:=by
 unfold owns qw;rw[List.filterMap_append];have h1:(ds.map Sl.val).filterMap Sl.addr=[]:=List.filterMap_eq_nil_iff.mpr λs hs=>by obtain⟨d,_,rfl⟩:=xr.mp hs;rfl
 have h2:(ae (N.length-ds.length) Sl.un).filterMap Sl.addr=[]:=List.filterMap_eq_nil_iff.mpr λs hs=>by rw[(Tt.mp hs).2];rfl
 rw[h1,h2];rfl
theorem U0{K:k8m}{H:Hp}{N:List aj}{ds:List D}{vs:List V}(tb:TabOk K H)(h:j5 K H ds vs):Rep K (qw N ds) (start N vs) H:=by
 have ho:=Ve N ds;have hl:=h.length;refine⟨by unfold qw start;simp[hl],λi d e=>?_,λi a l e=>?_,by rw[ho];exact eO,λi a o y e=>?_,tb⟩
 .rw[ho,J8];unfold qw at e;by_cases z:i<ds.length
  .rw[T4 (by simpa using z),X6]at e;rw[kh z]at e;cases e;obtain⟨v,hv,en⟩:=h.get (kh z);refine⟨v,?_,en⟩;unfold start;rw[T4 (by rw[xg,hl];exact z),X6,hv];rfl
  .rw[dh (by simpa using z)]at e;have:=Xr e;cases(Tt.mp this).2
 .have:=Qm e;rw[ho]at this;cases this
 .unfold qw at e;rcases Xy.mp (Xr e)with z|z
  .obtain⟨d,_,q⟩:=xr.mp z;cases q
  .cases(Tt.mp z).2
section
variable{P:av}{w:az}{K:k8m}{mg:k8p}{base:aD}{x qual:aj}{st:bp}{f:aa}{fd:aQ}{N ps:List aj}{k:Nat}
def Rq(K:k8m)(f:aa)(cdv:a8):Prop:=∃(oc:a8)(od:Option aa)(fd:aQ)(sl:Array (Option a8)),K.lookup f=a3 ⟨oc,od,.func fd,sl⟩/\fd.code=cdv
theorem Fun.okC{sp:Sp}(F:Fun K x qual st f fd)(S:FnScope N ps (jb st))(len:∀vs H Q E,sp vs H Q E->vs.length=ps.length)
  (hbody:∀(cdv:a8)(A:aC)(outer:List dS)(s:af)(H:Hp)(vs:List V)(Q:VK) (E:XK),Rq K f cdv->Room k (A.deeper (bI qual (jb st) s.heap.objs.size f cdv))->sp vs H Q E ->
   ∃t,PSs (vo CX0 P w K mg base N qual (jb st) f cdv A outer s H E).nox (jr st) t/\t { nx:=λ_ H'=>Q .non H',rt:=Q } (start N vs) H):FnOk P w K mg base CX0 (k+1) f fd ps sp:=by
 obtain⟨oc,od,dV,kV,doc,pm,an,cdv,ct,osl,rfl,lk,hcd⟩:=F.ex;refine jat lk hcd S len λA outer s H vs Q E hr hsp=>?_;obtain⟨t,h,q⟩:=hbody cdv A outer s H vs Q E ⟨oc,od,_,osl,lk,rfl⟩ hr hsp;exact⟨t,h.nox,q⟩
theorem Cg{S:List D->D->Prop}(F:Fun K x qual st f fd)(Sc:FnScope N ps (jb st))(hl:∀ds d,S ds d->ds.length=ps.length)
  (hbody:∀(cdv:a8)(A:aC)(outer:List dS)(s:af)(H:Hp)(E:XK),Rq K f cdv->Room k (A.deeper (bI qual (jb st) s.heap.objs.size f cdv))->∀ds d,S ds d ->
   DSs (vo CX0 P w K mg base N qual (jb st) f cdv A outer s H E).nox (qw N ds) (jr st) { nx:=λ_=>d=.non,rt:=λr=>r.d=d }):FnOk P w K mg base CX0 (k+1) f fd ps (spP K S):=by
 refine FnOk.toP (F.okC Sc (λvs H Q E ⟨ds,d,tb,en,hS,_⟩=>by rw[en.length];exact hl ds d hS) λcdv A outer s H vs Q E hcv hr ⟨ds,d,tb,en,hS,q⟩=>⟨_,Ol,?_⟩);have ho:=Ve N ds;refine hbody cdv A outer s H E hcv hr ds d hS (start N vs) H _ (U0 tb en) ⟨λρ' σ' H' n R f=>?_,λ_ _ _ z=>z.elim,λ_ _ _ z=>z.elim,λr v H' n z=>?_,λ_ _ _ _ z=>z.elim⟩
 .subst n;unfold Fr0 at f;rw[ho,J8]at f;exact q _ H' (f.trans q9) rfl
 .cases r with
  |val d' =>cases(show d'=d from n);obtain⟨g,en'⟩:=z;rw[ho,J8]at g;exact q v H' g en'
  |fresh l =>cases(show D.lst l=d from n);obtain⟨a,xs,e,g,m,en'⟩:=z;rw[ho,J8]at g;exact q v H' (g.trans q9) ⟨a,xs,e,.inl (.inl m),en'.mono q9⟩
theorem j94{S:List D->List D->Prop}(F:Fun K x qual st f fd)(Sc:FnScope N ps (jb st))(hl:∀ds d,S ds d->ds.length=ps.length)
  (hbody:∀(cdv:a8)(A:aC)(outer:List dS)(s:af)(H:Hp)(E:XK),Rq K f cdv->Room k (A.deeper (bI qual (jb st) s.heap.objs.size f cdv))->∀ds l,S ds l ->
   DSs (vo CX0 P w K mg base N qual (jb st) f cdv A outer s H E).nox (qw N ds) (jr st) { nx:=λ_=>False,rt:=λr=>r=.fresh l }):FnOk P w K mg base CX0 (k+1) f fd ps (spF K S):=by
 refine FnOk.toF (F.okC Sc (λvs H Q E ⟨ds,d,tb,en,hS,_⟩=>by rw[en.length];exact hl ds d hS) λcdv A outer s H vs Q E hcv hr ⟨ds,l,tb,en,hS,q⟩=>⟨_,Ol,?_⟩);have ho:=Ve N ds;refine hbody cdv A outer s H E hcv hr ds l hS (start N vs) H _ (U0 tb en) ⟨λρ' σ' H' n R f=>n.elim,λ_ _ _ z=>z.elim,λ_ _ _ z=>z.elim,λr v H' n z=>?_,λ_ _ _ _ z=>z.elim⟩;cases(show r=.fresh l from n);obtain⟨a,xs,e,g,m,en'⟩:=z;rw[ho,J8]at g;subst e;refine q a xs H' (g.trans q9) ?_ m en';cases y:H a with
 |none=>rfl
 |some o=>have:=g a o y;rw[qy (xj.mpr rfl)]at this;cases this
end
section
variable{prog:av}{w:az}{A:aC}{R:fm->af->Prop}{s:af}
theorem j17{elt target iter:ao}{ifs:List ao}{scope:br}{pos:aO}{it acc:a8}{env:dS}(I:Nat->af->Prop)
  (turn:∀n s,I n s->aq (ay prog w) A (ck it) (λr s₁=>match r with
   |none=>R (.ok .next) s₁
   |some v=>aq (ay prog w) A (eU target it v) (λ_ s₁'=>aq (ay prog w) A (cX target env v) (λ_ s₂ =>
     aq (ay prog w) A (forIn ifs a6 λc r=>if r=a6 then do let ok <-fR c env (aA c env);pure (c9 ok)else pure (c9 r)) (λok s₃ =>
      if ok=a6 then aq (ay prog w) A (aA elt env) (λx s₄ =>
       aq (ay prog w) A (call (.builtin "list.append") [acc,x]) (λ_ s₅=>∃m,m<n/\I m s₅) (λ_ _=>False) s₄) (λ_ _=>False) s₃
      else ∃m,m<n/\I m s₃) (λ_ _=>False) s₂) (λ_ _=>False) s₁') (λ_ _=>False) s₁) (λ_ _=>False) s)
  (n:Nat) (h:I n s) :
  c8 (ay prog w) A (.compLoop (.ListComp elt [⟨target,iter,ifs,0⟩] scope pos) 0 it acc env) R s:=by
 refine codeAny_loop rfl I (λn s hI=>?_) n h;show aq _ A ((compTurn (.ListComp elt [⟨target,iter,ifs,0⟩] scope pos) 0 it acc env).onRaise (λx=>do noteFrame x env;theTreesLotGoes x)) _ _ s;refine wpAny_noted ?_;rw[compTurn_list];refine a5 (fL (a5 (bE (turn n s hI) (λr s₁ h₁=>?_) λ_ _ h'=>h'.elim)));cases r with
 |none=>exact ah h₁
 |some v =>
  refine a5 (bE h₁ (λ_ s₁' h₁'=>?_) λ_ _ h'=>h'.elim);refine a5 (bE h₁' (λ_ s₂ h₂=>a5 (bE h₂ (λok s₃ h₃=>?_) λ_ _ h'=>h'.elim)) λ_ _ h'=>h'.elim);cases ok with
  |false=>exact ah ⟨rfl,h₃⟩
  |true =>exact a5 (a5 (bE h₃ (λx s₄ h₄=>a5 (bE h₄ (λ_ s₅ h₅=>ah (ah ⟨rfl,h₅⟩)) λ_ _ h'=>h'.elim)) λ_ _ h'=>h'.elim))
end
noncomputable def v5(env:dS):List (aj×bG)->List (aj×aa)->List (aj×aa)
 |[],acc=>acc
 |(n,k)::r,acc=>v5 env r (if k==.free then(match env.cells.lookup n with|some a=>(n,a)::acc|none=>acc)else acc)
theorem Fg{scope:br}{env:dS}(h:∀y∈scope.names,y.2=.free->(env.cells.lookup y.1).isSome=a6):dJ scope env=pure (v5 env scope.names []):=by
 simp only[dJ];have step:∀(names:List (aj×bG)) (acc:List (aj×aa)),(∀y∈names,y.2=.free->(env.cells.lookup y.1).isSome=a6) ->
   (forIn names acc (λx r=>(do if (x.2==bu)=a6 then(do let a <-cellOf env x.1;pure (c9 ((x.1,a)::r)))else pure (c9 r):mi _)):mi _)=pure (v5 env names acc):=by
  intro names;induction names with
  |nil=>intro acc _;rfl
  |cons y r ih =>
   intro acc hy;obtain⟨n,k⟩:=y;rw[List.forIn_cons];by_cases e:(k==bu)=a6
   .have hk:k=.free:=by simpa using e
    have hs:=hy (n,k) (xq ..) hk;obtain⟨a,ha⟩:=Pg.mp hs;have hc:cellOf env n=pure a:=by unfold cellOf;rw[ha]
    simp only[e,if_true,hc,pure_bind];rw[ih _ λz hz=>hy z (xf _ hz)];simp only[v5,e,if_true,ha]
   .have e':(k==bu)=a4:=by simpa using e
    simp only[e',Xp,if_false,pure_bind];rw[ih _ λz hz=>hy z (xf _ hz)];simp only[v5,e',Xp,if_false]
 have:=step scope.names [] h;rw[show(forIn scope.names ([]:List (aj×aa)) λx r=>_)=_ from this];rfl
theorem Km{env:dS}{y:aj}{c:aa}:∀{names:List (aj×bG)} {acc:List (aj×aa)},(∀y c,acc.lookup y=a3 c->env.cells.lookup y=a3 c)->(v5 env names acc).lookup y=a3 c->env.cells.lookup y=a3 c
 |[],acc,h,q=>h y c q
 |(n,k)::r,acc,h,q=>by
  unfold v5 at q;refine Km (acc:=_) ?_ q;intro z d hz;split at hz
  .split at hz
   .rename_i a ha;rw[Xl]at hz;split at hz
    .rename_i e;have e':z=n:=by simpa using e
     subst e';cases hz;exact ha
    .exact h z d hz
   .exact h z d hz
  .exact h z d hz
theorem Fj{env:dS}{y:aj}:∀{names:List (aj×bG)} {acc:List (aj×aa)},(acc.lookup y).isSome=a6->((v5 env names acc).lookup y).isSome=a6
 |[],acc,h=>h
 |(n,k)::r,acc,h=>by
  unfold v5;refine Fj ?_;split
  .split
   .rw[Xl];split
    .rfl
    .exact h
   .exact h
  .exact h
theorem Wh{env:dS}{y:aj}(hs:(env.cells.lookup y).isSome=a6):∀{names:List (aj×bG)} {acc:List (aj×aa)},(y,bu)∈names->((v5 env names acc).lookup y).isSome=a6
 |[],acc,h=>nomatch h
 |(n,k)::r,acc,h=>by
  unfold v5;rcases xn.mp h with e|h
  .cases e;refine Fj ?_;obtain⟨a,ha⟩:=Pg.mp hs;rw[if_pos (by rfl),ha];rw[Xl];simp
  .exact Wh hs h
noncomputable def Js(scope:br)(env:dS)(N:List aj)(cs:List Nat):Bool :=
 scope.names.all (λy=>(y.2 != .cell || scope.names.lookup y.1==a3 .cell)&&(y.2 != .local || scope.names.lookup y.1==a3 .local)&&(y.2 != .free || ((env.cells.lookup y.1).isSome&&(env.kindOf y.1==a3 .cell || env.kindOf y.1==a3 .free)))) &&
 (ax N.length).all (λj=>cs.contains j || (match N[j]? with|some y=>scope.names.lookup y != a3 .local&&scope.names.lookup y != a3 .cell|none=>a6))
theorem lookup_mem{α β:Type}[BEq α][LawfulBEq α]{l:List (α×β)}{a:α}{b:β}(h:l.lookup a=a3 b):(a,b)∈l:=by
 induction l with
 |nil=>cases h
 |cons x r ih =>
  obtain⟨c,d⟩:=x;rw[Xl]at h;split at h
  .rename_i e;cases h;have e':a=c:=by simpa using e
   subst e';exact xq ..
  .exact xf _ (ih h)
theorem Jc{env:dS}{x:aj}{k':bG}:∀{names:List (aj×bG)},
  (names.map λ(n,k)=>if (k==bu&&env.scope.kind==.function&&env.kindOf n==a3 .cell) then(n,bK) else(n,k)).lookup x=a3 k' ->
  ∃k,names.lookup x=a3 k/\(k'=k\/(k=.free/\k'=.cell))
 |[],h=>by cases h
 |(n,k)::r,h=>by
  rw[Xa]at h;rw[Xl];by_cases hc:(k==bu&&env.scope.kind==.function&&env.kindOf n==a3 .cell)=a6
  .dsimp only at h;rw[if_pos hc,Xl]at h;cases e:x==n with
   |true =>
    rw[e]at h;cases h;have:(k==bu)=a6:=by
     cases z:k==bu with
     |true=>rfl
     |false=>rw[z]at hc;simp at hc
    exact⟨k,rfl,.inr ⟨by simpa using this,rfl⟩⟩
   |false=>rw[e]at h;exact Jc h
  .dsimp only at h;rw[if_neg hc,Xl]at h;cases e:x==n with
   |true=>rw[e]at h;cases h;exact⟨_,rfl,.inl rfl⟩
   |false=>rw[e]at h;exact Jc h
theorem Yu:∀(names:List (aj×bG)) (n:Nat) (acc:List (aj×aa)),aU n names acc=aU n names []++acc
 |[],_,_=>rfl
 |(x,k)::r,n,acc=>by
  unfold aU;split
  .rw[Yu r (n+1) ((x,n)::acc),Yu r (n+1) [(x,n)],tu];rfl
  .exact Yu r n acc
theorem Fo:∀{names:List (aj×bG)} {n:Nat} {x:aj} {c:aa},(x,c)∈aU n names []->(x,bK)∈names/\n<=c
 |[],_,_,_,h=>nomatch h
 |(y,k)::r,n,x,c,h=>by
  unfold aU at h;split at h
  .rename_i hk;rw[Yu]at h;rcases Xy.mp h with h|h
   .have q:=Fo h;exact⟨xf _ q.1,Nat.le_of_succ_le q.2⟩
   .cases xj.mp h;have hk:k=bK:=by simpa using hk
    subst hk;exact⟨xq ..,xx _⟩
  .have q:=Fo h;exact⟨xf _ q.1,q.2⟩
theorem Y0{β:Type}:∀{l m:List (aj×β)} {y:aj},(l++m).lookup y=(l.lookup y).or (m.lookup y)
 |[],m,y=>rfl
 |(x,b)::r,m,y=>by
  rw[dQ,Xl,Xl];split
  .rfl
  .exact Y0
theorem Ko{names:List (aj×bG)}{n:Nat}{acc:List (aj×aa)}{y:aj}{c:aa}(h:(aU n names acc).lookup y=a3 c) :
  ((y,c)∈aU n names []/\(y,bK)∈names/\n<=c)\/((aU n names []).lookup y=a7/\acc.lookup y=a3 c):=by
 rw[Yu,Y0]at h;cases e:(aU n names []).lookup y with
 |some c'=>rw[e]at h;cases h;have q:=lookup_mem e;exact .inl ⟨q,Fo q⟩
 |none=>rw[e]at h;exact .inr ⟨rfl,h⟩
theorem jhw{names:List (aj×bG)}{n:Nat}{acc:List (aj×aa)}{y:aj}(h:(y,bK)∉names):(aU n names acc).lookup y=acc.lookup y:=by
 rw[Yu,Y0];cases e:(aU n names []).lookup y with
 |some c'=>exact absurd (Fo (lookup_mem e)).1 h
 |none=>rfl
theorem jdy{names:List (aj×bG)}{n:Nat}{acc:List (aj×aa)}{y:aj}(h:(acc.lookup y).isSome=a6):∃c,(aU n names acc).lookup y=a3 c:=by
 rw[Yu,Y0];cases e:(aU n names []).lookup y with
 |some c'=>exact⟨c',rfl⟩
 |none=>obtain⟨c,hc⟩:=Pg.mp h;exact⟨c,hc⟩
theorem j0f{M:kC}{A:aC}{E:k8n}{s:af}{scope:br}{globals:aa}{closure:List (aj×aa)}{qual:aj}{env:dS}{Q:dS->af->Prop}
  (hQ:Q { scope:=scope,locals:=s.heap.objs.size,globals:=globals,cells:=aU (s.heap.objs.size+1) scope.names closure,qual:=qual,func:=a7,code:=env.code,frame:=env.frame,builtins:=env.builtins }
   { s with heap:=iF (s.heap.push { cls:=.type "dict",data:=.dict #[] }) scope.names }) :
  aq M A (i5 scope globals closure [] qual a7 .none (a3 env)) Q E s:=by
 simp only[i5,eV,if_true];refine a5 (wpAny_alloc ?_);refine a5 (wpAny_layCells _ (λname kind cells=>by cases hkc:kind==bK<;>simp[hkc]) _ _ _ _ ?_);rw[show({ s with heap:=s.heap.push { cls:=.type "dict",data:=.dict #[] } }:af).heap.objs.size=s.heap.objs.size+1 from Tp ..];exact a5 (ah (ah hQ))
noncomputable abbrev cCx(X:Cx)(scope:br)(C:aa)(s:af)(H:Hp)(fp:List aa)(pn:k8o):Cx :=
 { X with env:=compEnvC scope (aU (C+1) scope.names (v5 X.env scope.names [])) C X.env,s₀:=s,H₀:=H,outer:=X.stack,stack:=X.stack,ex:=fp,fn:=λx=>scope.names.lookup x==a3 .cell,pn:=pn,xe:=λ_ _=>False }
noncomputable def Yx(scope:br)(y:aj):Bool:=scope.names.lookup y==a3 .local || scope.names.lookup y==a3 .cell
theorem Zy{env:dS}:∀{names:List (aj×bG)} {x:aj},names.lookup x=a3 .cell ->
  (names.map λ(n,k)=>if (k==bu&&env.scope.kind==.function&&env.kindOf n==a3 .cell) then(n,bK) else(n,k)).lookup x=a3 .cell
 |[],_,h=>by simp at h
 |(n,k)::r,x,h=>by
  have ih:=@Zy env r x;rw[Xa];cases hx:x==n with
  |true =>simp only[Xl,hx]at h;cases h;simp[Xl,hx]
  |false =>
   simp only[Xl,hx]at h;dsimp only;by_cases hc:(k==bu&&env.scope.kind==.function&&env.kindOf n==a3 .cell)=a6
   .rw[if_pos hc];simp only[Xl,hx];exact ih h
   .rw[if_neg hc];simp only[Xl,hx];exact ih h
theorem Ru{X:Cx}{scope:br}{C:aa}{s:af}{H:Hp}{fp:List aa}{pn:k8o}{y:aj}(h:Yx scope y=a6):Loc (cCx X scope C s H fp pn).env.scope y:=by
 unfold Yx at h;rw[cA]at h;rcases h with h|h
 .exact .inl (jL (by simpa using h))
 .exact .inr (Zy (by simpa using h))
theorem Bq{X:Cx}{scope:br}{C:aa}{s:af}{H:Hp}{fp:List aa}{pn:k8o}{y:aj}(h:Yx scope y=a6):(cCx X scope C s H fp pn).fn y=a6\/(cCx X scope C s H fp pn).env.scope.names.lookup y=a3 .local:=by
 unfold Yx at h;rw[cA]at h;rcases h with h|h
 .exact .inr (jL (by simpa using h))
 .exact .inl h
def DTs(X:Cx)(ρ:Rho)(ifs:List ao)(b:Bool):Prop:=match ifs with
 |[]=>b=a6
 |[c]=>DB X ρ c b
 |_=>False
theorem DTs.nil{X:Cx}{ρ:Rho}:DTs X ρ [] a6:=rfl
theorem DTs.one{X:Cx}{ρ:Rho}{c:ao}{b:Bool}(h:DB X ρ c b):DTs X ρ [c] b:=h
theorem DTs.run{X:Cx}{ρ:Rho}{ifs:List ao}{b:Bool}(h:DTs X ρ ifs b){pins:k8o}{σ:St}{H:Hp}{s:af}(I:Inv X pins σ H s)(R:Rep X.K ρ σ H) :
  aq (ay X.prog X.w) X.A (forIn ifs a6 λc r=>if r=a6 then do let ok <-fR c X.env (aA c X.env);pure (c9 ok)else pure (c9 r)) (λok s'=>ok=b/\∃H',Inv X pins σ H' s'/\j0 H H') X.xe s:=by
 match ifs,h with
 |[],h=>exact wpAny_tests_nil ⟨h.symm,H,I,j0.refl H⟩
 |[c],h=>exact wpAny_tests_one (thn (h σ H (λk H'=>k=b/\j0 H H') R (λH' g=>⟨rfl,g⟩) pins s I) λk s' ⟨H',I',e,g⟩=>⟨e,H',I',g⟩)
theorem Rep.weaken{K:k8m}{ρ:Rho}{σ σ':St}{H:Hp}(R:Rep K ρ σ H)(hl:σ'.length=σ.length)(h:∀(i:Nat),ρ[i]?≠a3 .un->σ'[i]?=σ[i]?):Rep K ρ σ' H :=
 ⟨by rw[hl,R.len],λi d e=>let ⟨v,q,z⟩:=R.val i d e;⟨v,by rw[h i (by rw[e];simp)];exact q,z⟩,λi a ds e=>let ⟨q,z⟩:=R.own i a ds e;⟨by rw[h i (by rw[e];simp)];exact q,z⟩,R.nd,λi a o x e=>let ⟨q,z⟩:=R.raw i a o x e;⟨by rw[h i (by rw[e];simp)];exact q,z⟩,R.tb⟩
noncomputable def mask(cs:List Nat)(σ:St):St:=σ.mapIdx λj v=>if cs.contains j then a7 else v
theorem O5(cs:List Nat)(σ:St):(mask cs σ).length=σ.length:=by unfold mask;simp
theorem j8f{cs:List Nat}{σ:St}{j:Nat}{v:V}(h:(mask cs σ)[j]?=a3 (a3 v)):j∉cs/\σ[j]?=a3 (a3 v):=by
 unfold mask at h;rw[iy]at h;cases e:σ[j]? with
 |none=>rw[e]at h;cases h
 |some u =>
  rw[e]at h;have h':(if cs.contains j then a7 else u)=a3 v:=aw h;by_cases z:cs.contains j=a6
  .rw[if_pos z]at h';cases h'
  .rw[if_neg z]at h';subst h';exact⟨λy=>z (by simpa using y),rfl⟩
theorem j8e{cs:List Nat}{σ:St}{j:Nat}(h:j∉cs):(mask cs σ)[j]?=σ[j]?:=by
 unfold mask;rw[iy];cases e:σ[j]? with
 |none=>rfl
 |some u=>simp[h]
def Wk(ρ2 ρ:Rho):Prop:=∀K σ H,Rep K ρ2 σ H->Rep K ρ σ H
theorem Zk(H:Hp)(A B:List aa):del (del H A) B=del H (A++B):=funext λb=>by unfold del;by_cases h1:b∈A<;>by_cases h2:b∈B<;>simp[h1,h2]
structure Loose(X:Cx)(pins:k8o)(H:Hp)(C:aa):Prop where
 free:H C=a7
 loc:C≠X.env.locals
 new:X.s₀.heap.objs.size<=C
 cell:∀x c,X.env.cells.lookup x=a3 c->c≠C
 pin:∀p∈X.pn++pins,p.1≠C
section
variable{X:Cx}{pins:k8o}{σ:St}{H2:Hp}{s2:af}{ρ:Rho}{tg elt iter:ao}{ifs:List ao}{scope:br}{pos:aO}{ds:List D}{cs:List Nat}{p:D->Bool}{g:D->D}
theorem Kh{J:It}{fp:List aa}{it:aa}{tn:Nat->aD->Prop}(I2:Inv X pins σ H2 s2)(R2:Rep X.K ρ σ H2)(T:Turn X.prog X.w X.K tg J fp it tn)(st2:tn 0 s2.heap)(f2:∀b∈fp,zm X pins H2 b)
  (ok:Uk X.K (del H2 (owns ρ)) J ds) (hc:X.calm=a6) (hkind:scope.kind=.function) (hok:Js scope X.env X.N cs=a6) (hcs:∀j∈cs,ρ[j]?=a3 .un) (hsz:ds.length<=ar)
  (hb:∀C s H fp pn,∀d∈ds,∃ρ2,DG (cCx X scope C s H fp pn) ρ tg d ρ2/\Wk ρ2 ρ/\owns ρ2=owns ρ/\DTs (cCx X scope C s H fp pn) ρ2 ifs (p d)/\(p d=a6->DE (cCx X scope C s H fp pn) ρ2 elt (g d)))
  {E:k8n} {RR:a8->aa->fm->af->Prop}
  (hRR:∀D C xs H' s' m,Inv X pins σ H' s'->j0 H2 H'->H2 D=a7->H' D=a3 (.lst xs)->j5 X.K (del H' (D::owns ρ)) ((ds.filter p).map g) xs->s'.heap.Ns C m->Loose X pins H' C->RR (.ref D) C (.ok .next) s') :
  aq (ay X.prog X.w) X.A (newList []) (λacc s₃=>aq (ay X.prog X.w) X.A (i5 scope X.env.globals (v5 X.env scope.names []) [] X.env.qual a7 .none (a3 X.env)) (λcenv s₄ =>
   c8 (ay X.prog X.w) X.A (.compStart (.ListComp elt [⟨tg,iter,ifs,0⟩] scope pos) 0 (.ref it) acc { cenv with scope:=relabel scope X.env }) (RR acc cenv.locals) s₄) E s₃) E s2:=by
 unfold Js at hok;rw[Xg]at hok;obtain⟨hn,hN⟩:=hok;have hn':∀y∈scope.names,(y.2=.cell->scope.names.lookup y.1=a3 .cell)/\(y.2=.free->(X.env.cells.lookup y.1).isSome=a6/\(X.env.kindOf y.1=a3 .cell\/X.env.kindOf y.1=a3 .free)):=λy hy=>by have:=T7.mp hn y hy;simp only[Xg,bne_iff_ne,ne_eq,cA,beq_iff_eq]at this;obtain⟨⟨a,_⟩,c⟩:=this;exact⟨λe=>a.elim (λz=>absurd e z) id,λe=>c.elim (λz=>absurd e z) id⟩
 have nocell:∀{y:aj},scope.names.lookup y=a3 .free->(y,bK)∉scope.names:=λ{y} h z=>by have q:=(hn' _ z).1 rfl;rw[h]at q;cases q
 have hloc:∀(j:Nat)(y:aj),X.N[j]?=a3 y->j∉cs->scope.names.lookup y≠a3 .local/\scope.names.lookup y≠a3 .cell:=λj y hj hc=>by
  have hlt:j<X.N.length:=(X8.mp hj).1;have:=T7.mp hN j (X5.mpr hlt);rw[hj]at this;simp only[cA,Xg,bne_iff_ne,ne_eq]at this;rcases this with z|z
  .exact absurd (by simpa using z) hc
  .exact z
 have cl_of:∀{y:aj}{c:aa},(v5 X.env scope.names []).lookup y=a3 c->X.env.cells.lookup y=a3 c:=λ{y c} h=>Km (λ_ _ z=>by cases z) h;refine aM (j0f ?_);dsimp only;generalize hH2:s2.heap.push { cls:=.type "list",dict:=a7,data:=.seq ([]:List a8).toArray }=hp2;have keep1:∀b o,hp2.get? b=a3 o->(iF (hp2.push { cls:=.type "dict",data:=.dict #[] }) scope.names).get? b=a3 o:=λb o e=>lJ _ _ b o (km _ e);have hns₁:(iF (hp2.push { cls:=.type "dict",data:=.dict #[] }) scope.names).Ns hp2.objs.size (λ_=>a7):=(Heap.Ns.new hp2 (.type "dict")).keeps (lJ _ _);have okl:=cellsFrom_ok scope.names (hp2.push { cls:=.type "dict",data:=.dict #[] }) (hp2.objs.size+1) [] ⟨λ_ _ hm=>(nomatch hm),List.Pairwise.nil⟩ (by rw[Tp];exact xx _);rw[Tp]at okl;generalize iF (hp2.push { cls:=.type "dict",data:=.dict #[] }) scope.names=h₁ at keep1 hns₁ okl ⊢;have hC:hp2.objs.size=s2.heap.objs.size+1:=by rw[<-hH2,Tp]
 have hDC:s2.heap.objs.size≠hp2.objs.size:=by rw[hC];exact Xd (T9 _)
 have hCle:s2.heap.objs.size<=hp2.objs.size:=by rw[hC];exact Pk _
 have below:∀b,b<s2.heap.objs.size->b≠hp2.objs.size/\b≠s2.heap.objs.size:=λb hb=>⟨by rw[hC];exact Xd (S5 hb),Xd hb⟩
 have old:∀b o,s2.heap.get? b=a3 o->h₁.get? b=a3 o:=λb o e=>keep1 b o (hH2▸km _ e);have hacc:h₁.get? s2.heap.objs.size=a3 { cls:=.type "list",dict:=a7,data:=.seq ([]:List a8).toArray }:=keep1 _ _ (hH2▸xu _ rfl);have none_of:∀b,s2.heap.objs.size<=b->s2.heap.get? b=a7:=λb hb=>by
  cases e:s2.heap.get? b with
  |none=>rfl
  |some o'=>exact absurd (X4 e) (Nat.not_lt.mpr hb)
 have hD0:H2 s2.heap.objs.size=a7:=I2.fresh;generalize hDd:s2.heap.objs.size=Dd at *;generalize hCc:hp2.objs.size=C at *;have hC0:H2 C=a7:=I2.hok.fresh (by rw[hDd];exact hCle);have pinlt:∀p∈X.pn++pins,p.1<Dd:=λp hp=>by rw[<-hDd];exact X4 (I2.pin p hp).1
 have celllt:∀y c,X.env.cells.lookup y=a3 c->c<Dd:=λy c h=>by obtain⟨v,o,e,_⟩:=I2.cell y c h;rw[<-hDd];exact X4 e
 have loclt:X.env.locals<Dd:=by rw[<-hDd];exact I2.lt
 have fplt:∀b∈fp,b<Dd:=λb hb=>by obtain⟨o,e,_⟩:=T.obj _ _ st2 b hb;rw[<-hDd];exact X4 e
 have hDlt:Dd<C:=by omega
 have cellD:∀{y:aj}{c:aa},(aU (C+1) scope.names (v5 X.env scope.names [])).lookup y=a3 c->((y,c)∈aU (C+1) scope.names []/\C+1<=c)\/X.env.cells.lookup y=a3 c:=λ{y c} h=>by
  rcases Ko h with ⟨q,_,z⟩|⟨_,q⟩
  .exact .inl ⟨q,z⟩
  .exact .inr (cl_of q)
 have celln:∀{y:aj}{c b:aa},(aU (C+1) scope.names (v5 X.env scope.names [])).lookup y=a3 c->b<Dd->(∀c,X.env.cells.lookup y=a3 c->c≠b)->c≠b:=λ{y c b} h hb ho=>by
  rcases cellD h with ⟨_,z⟩|q
  .exact Py (Pr hb (Pr hDlt (S6 z)))
  .exact ho c q
 have okc:(cCx X scope C s2 H2 fp (X.pn++pins)).Ok:={
  mod:=I2.ok.mod
  kind:=hkind
  glob:=I2.ok.glob
  blt:=I2.ok.blt
  above:=by show s2.heap.objs.size<=C;rw[hDd];exact hCle
  inj:=λx y c h1 h2=>by
   rcases cellD h1 with ⟨m1,z1⟩|q1<;>rcases cellD h2 with ⟨m2,z2⟩|q2
   .exact name_of_addr okl.apart m1 m2
   .exact absurd (Pr (celllt y c q2) (Pr hDlt (S6 z1))) (Xz _)
   .exact absurd (Pr (celllt x c q1) (Pr hDlt (S6 z2))) (Xz _)
   .exact I2.ok.inj x y c q1 q2
  has:=λx h=>by
   have key:∀k',(relabel scope X.env).names.lookup x=a3 k'->(k'=.cell\/k'=.free)->∃c,(aU (C+1) scope.names (v5 X.env scope.names [])).lookup x=a3 c:=λk' hk hk'=>by
    obtain⟨k,hl,e⟩:=Jc hk
    have hm:=lookup_mem hl
    have hk0:k=.free\/k=.cell:=by
     rcases e with e|e
     .subst e
      exact hk'.symm
     .exact .inl e.1
    rcases hk0 with hk0|hk0
    .subst hk0
     exact jdy (Wh ((hn' _ hm).2 rfl).1 hm)
    .subst hk0
     exact Pg.mp (W.cellsFrom_some _ _ _ (.inl hl))
   rcases h with h|h
   .exact key _ h (.inl rfl)
   .exact key _ h (.inr rfl)
  cab:=λx c h h2=>by
   have hx:scope.names.lookup x=a3 .cell:=by simpa using h
   show s2.heap.objs.size<=c
   rw[hDd]
   rcases Ko h2 with ⟨_,_,z⟩|⟨z,_⟩
   .exact d9 (Pr hDlt (S6 z))
   .obtain⟨c',hc'⟩:=Pg.mp (W.cellsFrom_some scope.names (C+1) [] (.inl hx))
    rw[z]at hc';cases hc'
  hd:=I2.ok.hd
  frames:=I2.ok.frames
  stk:=.inl rfl
  exf:=λb hb=>⟨Xd (Pr (fplt b hb) hDlt),λx c h=>celln h (fplt b hb) λc q=>(f2 b hb).2.2.2.2.1 x c q⟩
  bs:=I2.bs
  bsz:=Xj I2.ok.bsz I2.sz
  noex:=λb o e hb=>by
   rcases(f2 b hb).2.2.2.1 with z|z
   .exact I2.ok.noex b o e z
   .exact absurd (X4 e) (Nat.not_lt.mpr (Xj I2.ok.bsz z))
  exfs:=λb hb hf=>by
   rcases xn.mp (I2.stkSub b hf)with z|z
   .exact(f2 b hb).2.1 z
   .exact(f2 b hb).2.2.1 z
  funs:=I2.stack
  frf:=I2.stkFree }
 have hpush:HOk X.prog X.w (upd H2 Dd (.lst [])) h₁:=HOk.laid I2.hok old (by rw[hDd];exact xx _) ⟨Ti _,[],_,.nil,hacc⟩;have I0:Inv (cCx X scope C s2 H2 fp (X.pn++pins)) [] (mask cs σ) (upd H2 Dd (.lst [])) { s2 with heap:=h₁ }:={
  ok:=okc
  os:=rfl
  bare:=I2.bare
  base:=Un.laid old (by rw[hDd];exact xx _) hD0
  loc:=by
   refine⟨_,hns₁,λj y v hj hv hvis=>?_⟩
   obtain⟨hjc,hσ⟩:=j8f hv
   obtain⟨m,hm,hlook⟩:=I2.loc
   have key:∀k',(relabel scope X.env).names.lookup y=a3 k'->scope.names.lookup y=a3 .free:=λk' hk=>by
    obtain⟨k,hl,e⟩:=Jc hk
    have hmm:=lookup_mem hl
    have:k=.free:=by
     rcases e with e|e
     .subst e
      rcases hvis with z|z|z
      .have z:=hk.symm.trans z;cases z;exact absurd hl (hloc j y hj hjc).1
      .have z:=hk.symm.trans z;cases z;exact absurd hl (hloc j y hj hjc).2
      .have z:=hk.symm.trans z;cases z;rfl
     .exact e.1
    rw[hl,this]
   have hfree:scope.names.lookup y=a3 .free:=by rcases hvis with z|z|z<;>exact key _ z
   have hmm:=lookup_mem hfree
   obtain⟨hs,hk⟩:=(hn' _ hmm).2 rfl
   have hvis':Vis X.env.scope y:=by rcases hk with z|z;exact .inr (.inl z);exact .inr (.inr z)
   obtain⟨u,ru,look⟩:=hlook j y v hj hσ hvis'
   refine⟨u,ru,?_⟩
   rcases look with ⟨z,_⟩|⟨_,c,hcl,hcv⟩
   .rcases hk with y'|y'<;>rw[y']at z<;>cases z
   .refine .inr ⟨?_,c,?_,?_⟩
    .rcases hvis with z|z|z
     .exfalso
      obtain⟨k,hl,e⟩:=Jc z
      rw[hfree]at hl;cases hl
      rcases e with e|e
      .cases e
      .cases e.2
     .exact .inl z
     .exact .inr z
    .obtain⟨c',hc'⟩:=Pg.mp (Wh (acc:=[]) hs hmm)
     have:=cl_of hc'
     rw[hcl]at this;cases this
     exact(jhw (nocell hfree)).trans hc'
    .obtain⟨o,e,d⟩:=hcv
     exact⟨o,old _ _ e,d⟩
  cell:=λx c h=>by
   rcases cellD h with ⟨q,_⟩|q
   .exact⟨_,(okl.empty x c q).1⟩
   .obtain⟨v,o,e,d⟩:=I2.cell x c q
    exact⟨v,o,old _ _ e,d⟩
  free:=by show upd H2 Dd (.lst []) C=a7;rw[jk (Py hDlt)];exact hC0
  freeC:=λx c h=>by
   rcases cellD h with ⟨_,z⟩|q
   .rw[jk (Py (Pr hDlt (S6 z)))];exact I2.hok.fresh (by rw[hDd];exact d9 (Pr hDlt (S6 z)))
   .rw[jk (Xd (celllt x c q))];exact I2.freeC x c q
  pin:=λp hp=>by
   rw[Xu]at hp
   obtain⟨h1,h2,h3,h4,h5⟩:=I2.pin p hp
   have hlt:=pinlt p hp
   refine⟨old _ _ h1,by rw[jk (Xd hlt)];exact h2,Xd (Pr hlt hDlt),λz=>?_,h5⟩
   rcases xn.mp (I2.stkSub _ z)with y|y
   .exact h3 y
   .exact h4 y
  hok:=hpush
  len:=by rw[O5];exact I2.len }
 have hDo:Dd∉owns ρ:=R2.fresh hD0;have fpok:∀{H':Hp},(∀b∈fp,H' b=a7)->∀b∈fp,zm (cCx X scope C s2 H2 fp (X.pn++pins)) [] H' b:=λ{H'} hn b hb =>⟨hn b hb,Xd (Pr (fplt b hb) hDlt),okc.exfs b hb,.inl hb,λx c h=>celln h (fplt b hb) λc q=>(f2 b hb).2.2.2.2.1 x c q,λp hp=>by rw[Xu]at hp;exact(f2 b hb).2.2.2.2.2 p hp⟩
 have R0:Rep X.K ρ (mask cs σ) H2:=R2.weaken (O5 _ _) λj hj=>j8e λz=>hj (hcs j z);have e0:del (upd H2 Dd (.lst [])) [Dd]=H2:=by
  rw[Uw (xj.mpr rfl)]
  funext b
  by_cases z:b∈[Dd]
  .rw[qy z,xj.mp z,hD0]
  .exact j7 z
 have loop:∀s₃:af,s₃={ s2 with heap:=h₁ } ->
   c8 (ay X.prog X.w) X.A (.compLoop (.ListComp elt [⟨tg,iter,ifs,0⟩] scope pos) 0 (.ref it) (.ref Dd) (compEnvC scope (aU (C+1) scope.names (v5 X.env scope.names [])) C X.env)) (RR (.ref Dd) C) s₃:=by
  rintro s₃ rfl;refine j17 (λn s=>∃i σ' H' ys,Inv (cCx X scope C s2 H2 fp (X.pn++pins)) [] σ' H' s/\tn i s.heap/\(∀b∈fp,H' b=a7)/\i<=ds.length/\n=ds.length-i/\Rep X.K ρ σ' (del H' [Dd])/\j0 H2 (del H' [Dd])/\H' Dd=a3 (.lst ys) /\
   j5 X.K (del H' (Dd::owns ρ)) (((ds.take i).filter p).map g) ys) ?_ ds.length
   ⟨0,mask cs σ,upd H2 Dd (.lst []),[],I0,T.keep _ _ _ st2 (λb _ o e=>old b o e),λb hb=>by rw[jk (Xd (fplt b hb))];exact(f2 b hb).1,Ti _,rfl,by rw[e0];exact R0,by rw[e0];exact j0.refl _,jc,rfl⟩
  rintro n s3 ⟨i,σ3,H3,ys,I3,st3,fr3,hle,rfl,R3,g3,m3,en3⟩;have F3:j0 (del H2 (owns ρ)) (del H3 (Dd::owns ρ)):=by
   have:del H3 (Dd::owns ρ)=del (del H3 [Dd]) (owns ρ):=by rw[Zk];rfl
   rw[this];exact je g3
  obtain⟨go,stop,yld⟩:=ok i H3 (Dd::owns ρ) F3 λa ha=>by
   rcases xn.mp ha with e|ha
   .rw[e,m3];simp
   .obtain⟨xs,e⟩:=R3.owned a ha;rw[(of_del e).2];simp
  by_cases hlt:i<ds.length
  .refine thn (T.item (cCx X scope C s2 H2 fp (X.pn++pins)) rfl rfl rfl hc i [] s3 σ3 H3 (λ_ _=>False) I3 (fpok fr3) st3 (go hlt)) λr s4 ⟨u,hr,h4⟩=>?_;subst hr;refine thn h4 λ_ s5 ⟨x,H5,I5,r5,y5,st5,fr5⟩=>?_;obtain⟨g5,en5⟩:=yld x H5 y5;have hd:ds[i]?=a3 ds[i]:=kh hlt;obtain⟨ρ2,⟨sub,hG⟩,wk,eo,hT,hE⟩:=hb C s2 H2 fp (X.pn++pins) ds[i] (Xm hlt);have m5:H5 Dd=a3 (.lst ys):=g5 _ _ m3;have hA:∀a∈[Dd],Hd (H5 a):=λa ha=>.inl ⟨ys,by rw[xj.mp ha];exact m5⟩;have I5p:=I5.pinned (fpok fr5) (T.obj _ _ st5);have I5h:=I5p.hide hA;have R5:Rep X.K ρ σ3 (del H5 [Dd]):=R3.grow (je g5);have en5':Enc X.K (del (del H5 [Dd]) (owns ρ)) ds[i] x:=by rw[Zk];exact en5 _ hd
   refine thn (hG σ3 (del H5 [Dd]) x (λσ6 F6=>F6=del H5 [Dd]/\Rep X.K ρ2 σ6 F6) R5 en5' (λσ6 R6=>⟨rfl,R6⟩) _ s5 u I5h r5) λ_ s6 ⟨σ6,F6,I6,e6,R6⟩=>?_;subst e6;refine thn (hT.run I6 R6) λokv s7 ⟨e7,F7,I7,g7⟩=>?_;subst e7;have R7:Rep X.K ρ σ6 F7:=wk _ _ _ (R6.grow g7);have g27:j0 H2 F7:=g3.trans ((je g5).trans g7);have en7:j5 X.K (del F7 (owns ρ)) (((ds.take i).filter p).map g) ys:=en3.mono (by
    have:del H3 (Dd::owns ρ)=del (del H3 [Dd]) (owns ρ):=by rw[Zk];rfl
    rw[this];exact je ((je g5).trans g7))
   have iI:∀{F:Hp}{s':af},Inv (cCx X scope C s2 H2 fp (X.pn++pins)) ([]++Yk fp s5.heap) σ6 F s'->Inv (cCx X scope C s2 H2 fp (X.pn++pins)) [] σ6 F s'/\tn (i+1) s'.heap/\∀b∈fp,F b=a7:=λ{F s'} I=>by refine⟨I.unpinned,T.keep _ _ _ st5 λb hb o e=>(I.pin (b,o) (Xb _ (Xb _ (v9 hb e)))).1,λb hb=>?_⟩;obtain⟨o,e,d⟩:=T.obj _ _ st5 b hb;exact(I.pin (b,o) (Xb _ (Xb _ (v9 hb e)))).2.1
   have tk:ds.take (i+1)=ds.take i++[ds[i]]:=by rw[S7,hd];rfl
   cases hp:p ds[i] with
   |false =>
    rw[if_neg xm];obtain⟨hF,I8⟩:=I5p.unhide hA I7;obtain⟨I9,st9,fr9⟩:=iI I8;refine⟨ds.length-(i+1),by omega,i+1,σ6,_,ys,I9,st9,fr9,hlt,rfl,by rw[Yd hF];exact R7,by rw[Yd hF];exact g27,by rw[Jb (xj.mpr rfl)];exact m5,?_⟩;have:del (mrg [Dd] H5 F7) (Dd::owns ρ)=del F7 (owns ρ):=by
     have e:del (mrg [Dd] H5 F7) (Dd::owns ρ)=del (del (mrg [Dd] H5 F7) [Dd]) (owns ρ):=by rw[Zk];rfl
     rw[e,Yd hF]
    rw[this,tk,cB];have e:[ds[i]].filter p=[]:=by simp[hp]
    rw[e,Xu];exact en7
   |true =>
    rw[if_pos rfl];refine thn (hE hp σ6 F7 (λv F8=>j0 F7 F8/\Enc X.K (del F8 (owns ρ2)) (g ds[i]) v) (R6.grow g7) (λv F8 g8 e8=>⟨g8,e8⟩) _ s7 I7) λy s8 ⟨v,F8,I8,r8,g8,e8⟩=>?_;obtain⟨hF,I8'⟩:=I5p.unhide hA I8;rw[eo]at e8;have eH:del (mrg [Dd] H5 F8) (Dd::owns ρ)=del F8 (owns ρ):=by
     have e:del (mrg [Dd] H5 F8) (Dd::owns ρ)=del (del (mrg [Dd] H5 F8) [Dd]) (owns ρ):=by rw[Zk];rfl
     rw[e,Yd hF]
    have hlen:ys.length<ar:=by have e1:=en7.length;have e2:((ds.take i).filter p).length<=(ds.take i).length:=Th _ _;rw[xg]at e1;rw[P0]at e2;omega
    refine thn (K6 _ s8 σ6 (mrg [Dd] H5 F8) (.ref Dd) [v] (.ref Dd) [y] (λ_ H9=>H9=upd (mrg [Dd] H5 F8) Dd (.lst (ys++[v]))) I8' rfl (.cons r8 .nil)
     ⟨Dd,ys,v,rfl,rfl,by rw[Jb (xj.mpr rfl)];exact m5,hlen,rfl⟩) λ_ s9 ⟨_,H9,I9,_,e9⟩=>?_
    subst e9;obtain⟨I10,st10,fr10⟩:=iI I9;have ed:del (upd (mrg [Dd] H5 F8) Dd (.lst (ys++[v]))) [Dd]=F8:=by rw[Uw (xj.mpr rfl),Yd hF]
    refine⟨ds.length-(i+1),by omega,i+1,σ6,_,ys++[v],I10,st10,fr10,hlt,rfl,by rw[ed];exact R7.grow g8,by rw[ed];exact g27.trans g8,jc,?_⟩;rw[Uw (xq ..),eH,tk,cB,Pq];have e:[ds[i]].filter p=[ds[i]]:=by simp[hp]
    rw[e];exact(en7.mono (je g8)).append (.one e8)
  .have hi:i=ds.length:=by omega
   subst hi;refine thn (T.done (cCx X scope C s2 H2 fp (X.pn++pins)) rfl rfl rfl hc ds.length [] s3 σ3 H3 (λ_ _=>False) I3 (fpok fr3) st3 (stop (xx _))) λr s4 ⟨hr,I4⟩=>?_;subst hr;rw[cP]at en3;obtain⟨m,hm,_⟩:=I4.loc;refine hRR Dd C ys H3 s4 m ?_ (g3.trans q9) hD0 m3 en3 hm ⟨I4.free,Py (Pr loclt hDlt),?_,λx c h=>Xd (Pr (celllt x c h) hDlt),λp hp=>Xd (Pr (pinlt p hp) hDlt)⟩
   .exact I2.call' (ch:=fp) I4.os I4.base I4.hok I4.bare λb hb=>⟨(f2 b hb).2.2.2.1,(f2 b hb).2.1,(f2 b hb).2.2.2.2.1,(f2 b hb).2.2.2.2.2⟩
   .have:=I2.sz;omega
 exact codeAny_compStart_list (loop _ rfl) (T.self _ 0 _ _ _ (T.keep _ _ _ st2 (λb _ o e=>old b o e)) (loop _ rfl))
end
section
variable{X:Cx}{ρ:Rho}{tg elt iter:ao}{ifs:List ao}{scope:br}{pos p1 spos:aO}{ds:List D}{cs:List Nat}{p:D->Bool}{g:D->D}{x:aj}{P:Po}
theorem O8{env:dS}{N:List aj}(h:Js scope env N cs=a6):∀y∈scope.names,y.2=.free->(env.cells.lookup y.1).isSome=a6:=λy hy e=>by unfold Js at h;rw[Xg]at h;have:=T7.mp h.1 y hy;simp only[Xg,bne_iff_ne,ne_eq,cA]at this;exact this.2.elim (λz=>absurd e z) λz=>z.1
theorem Rj{env:dS}{N:List aj}(h:Js scope env N cs=a6):∀y∈scope.names,y.2=.local->scope.names.lookup y.1=a3 .local:=λy hy e=>by unfold Js at h;rw[Xg]at h;have:=T7.mp h.1 y hy;simp only[Xg,bne_iff_ne,ne_eq,cA,beq_iff_eq]at this;exact this.1.2.elim (λz=>absurd e z) λz=>z
theorem Inv.loose{pins:k8o}{σ:St}{H:Hp}{s:af}{C:aa}{h':aD}(I:Inv X pins σ H s)(L:Loose X pins H C)(sb:cJ C s.heap h'):Inv X pins σ H { s with heap:=h' } :=
 I.turned (t':=s.toks) (λb o hb e=>sb.extBut b o hb e) L.free L.loc (.inr L.new) L.cell L.pin
theorem DO.comp(cs:List Nat)(p:D->Bool)(g:D->D)(hi:DI X ρ tg iter ds)
  (hb:∀C s H fp pn,∀d∈ds,∃ρ2,DG (cCx X scope C s H fp pn) ρ tg d ρ2/\Wk ρ2 ρ/\owns ρ2=owns ρ/\DTs (cCx X scope C s H fp pn) ρ2 ifs (p d)/\(p d=a6->DE (cCx X scope C s H fp pn) ρ2 elt (g d)))
  (hcs:∀j∈cs,ρ[j]?=a3 .un) (hsz:ds.length<=ar) (hc:X.calm=a6:=by rfl) (hkind:scope.kind=.function:=by rfl) (hok:Js scope X.env X.N cs=a6:=by rfl)
  (hs:∀x,aH iter X.env x=pure x:=by intro _;rfl):DO X ρ (.ListComp elt [⟨tg,iter,ifs,0⟩] scope pos) ((ds.filter p).map g):=λσ H Q R q pins s I=>by
 rw[eval_ListComp];refine iC (use:=a7) rfl hs (Fg (O8 hok)) hkind (Rj hok) (thn (hi σ H (λJ H'=>j0 H H'/\Uk X.K (del H' (owns ρ)) J ds) R (λJ H' g1 ok=>⟨g1,ok⟩) pins s I) λv s1 h1=>thn h1 λitv s2 h2=>?_);obtain⟨it,fp,tn,J,H2,e,I2,T,st2,f2,g2,ok⟩:=h2;subst e;refine Kh (RR:=λacc C=>compPost (ay X.prog X.w) X.A X.xe a7 (EP X pins σ Q) acc C) I2 (R.grow g2) T st2 f2 ok hc hkind hok hcs hsz hb ?_;intro D C xs H' s' m I' gg n m' en hm L;exact⟨m,hm,λh' sb=>⟨.ref D,H',I'.loose L sb,rfl,q D xs H' (g2.trans gg) (g2.free n) m' en⟩⟩
theorem Wk.set{i:Nat}{d:D}(h:ρ[i]?=a3 .un):Wk (ρ.set i (.val d)) ρ:=λK σ H R=>by
 have q:=R.set_un (i:=i) (v:=(σ[i]?).join);have e:σ.set i ((σ[i]?).join)=σ:=by
  apply sy;intro j;rw[cL];split
  .rename_i h;subst h;split
   .rename_i h;rw[kh h];rfl
   .rename_i h;rw[Pj nofun]
  .rfl
 have e2:(ρ.set i (.val d)).set i .un=ρ:=by
  rw[List.set_set];apply sy;intro j;rw[cL];split
  .rename_i z;subst z;split
   .rw[h]
   .rename_i z;rw[Pj nofun]at h;cases h
  .rfl
 rw[e,e2]at q;exact q
theorem Vf{i:Nat}{d:D}(h:ρ[i]?=a3 .un):owns (ρ.set i (.val d))=owns ρ:=O3 rfl λa l z=>by rw[h]at z;cases z
end
section
variable{prog:av}{w:az}{A:aC}{E:k8n}{s:af}
theorem j47{j t:aa}{k:Nat}{its:Array a8}{y:a8}{Q:k8n}(hj:s.heap.IsTupleIter j t k)(ht:s.heap.IsTuple t its)(hy:its[k]?=a3 y)
  (q:∀h',h'.IsTupleIter j t (k+1)->cJ j s.heap h'->Q y { s with heap:=h' }):aq (ay prog w) A (b9 (.ref j)) Q E s:=by
 obtain⟨o,ho,hc,hd⟩:=id hj;obtain⟨ot,hot,_,m,hdt⟩:=ht;unfold b9;refine a5 (bN (name:=aK "__next__") hj.typeIs cc (bM cc hj.typeIs gB ?_ (gr _)));show aq _ _ (field (.ref j) 0 >>= _) _ _ s;refine a5 (cO ho hd (x:=.ref t) rfl ?_);show aq _ _ (if (aB t==aV)=a6 then _ else _) _ _ s;rw[if_neg (show ¬((aB t==aV)=a6)from xm)];show aq _ _ (field (.ref j) 1 >>= _) _ _ s;refine a5 (cO ho hd (x:=.int k 0) rfl ?_);show aq _ _ (bW (.ref t) >>= _) _ _ s;refine a5 (ba hot hdt ?_);simp only[Xc,hy];refine a5 (ff ho hd (by simp) (ah ⟨y,rfl,ah (q _ ?_ (Xx ..))⟩));exact⟨_,eD _ ho (ie (dk hd _)),(jv ..).trans hc,by rw[dk hd];simp[dZ]⟩
theorem j6o{j t:aa}{k:Nat}{its:Array a8}{Q:k8n}(hh:A.handled=a7)(hj:s.heap.IsTupleIter j t k)(ht:s.heap.IsTuple t its)(hy:its[k]?=a7)
  (q:∀h' x,eM j s.heap h'->(∃o,h'.get? x=a3 o/\o.cls=.type "StopIteration")->E (.ref x) { s with heap:=h' }):aq (ay prog w) A (b9 (.ref j)) Q E s:=by
 obtain⟨o,ho,hc,hd⟩:=id hj;obtain⟨ot,hot,_,m,hdt⟩:=ht;unfold b9;refine a5 (bN (name:=aK "__next__") hj.typeIs cc (bM cc hj.typeIs gB ?_ (gr _)));show aq _ _ (field (.ref j) 0 >>= _) _ _ s;refine a5 (cO ho hd (x:=.ref t) rfl ?_);show aq _ _ (if (aB t==aV)=a6 then _ else _) _ _ s;rw[if_neg (show ¬((aB t==aV)=a6)from xm)];show aq _ _ (field (.ref j) 1 >>= _) _ _ s;refine a5 (cO ho hd (x:=.int k 0) rfl ?_);show aq _ _ (bW (.ref t) >>= _) _ _ s;refine a5 (ba hot hdt ?_);simp only[Xc,hy];refine a5 (wpAny_rule (a5 (ff ho hd (by simp) ?_)));show aq _ _ (lV (.type "StopIteration") [] >>= _) _ _ _;refine a5 ?_;simp only[lV,newTuple];refine a5 (aM ?_ (by size_fits));refine a5 (m:=fi _ _) (d6 (a:=aV) (by first|rfl|(simp only[fi];rfl)) ?_);refine aM ?_ (by size_fits);simp only[raiseNew];refine a5 (m9 ?_)
 first|rw[show A.in1.handled=a7 from hh]|rw[hh]
 refine a5 (ah (wpAny_throw ?_));exact q _ _ (((Xx ..).extBut.push _).push _) ⟨_,xu _ rfl,rfl⟩
end
def qz(lst:Bool)(h:aD)(j t:aa)(k:Nat):Prop:=if lst=a6 then h.IsListIter j t k else h.IsTupleIter j t k
def qt(lst:Bool)(h:aD)(t:aa)(its:Array a8):Prop:=if lst=a6 then h.IsList t its else h.IsTuple t its
section
variable{prog:av}{w:az}{A:aC}{E:k8n}{s:af}{lst:Bool}{h h':aD}{j t b:aa}{k:Nat}{its:Array a8}
theorem qz.ext(x:qz lst h j t k)(e:eM b h h')(n:j≠b):qz lst h' j t k:=by
 unfold qz at x ⊢;cases lst with
 |true=>rw[if_pos rfl]at x ⊢;exact x.extBut e n
 |false=>rw[if_neg xm]at x ⊢;exact x.extBut e n
theorem qz.stay(x:qz lst h j t k)(e:∀o,h.get? j=a3 o->h'.get? j=a3 o):qz lst h' j t k:=by
 unfold qz at x ⊢;cases lst with
 |true=>rw[if_pos rfl]at x ⊢;exact x.at e
 |false=>rw[if_neg xm]at x ⊢;exact x.at e
theorem qz.obj(x:qz lst h j t k):∃o,h.get? j=a3 o/\∀v,o.data≠.cell v:=by
 unfold qz at x;cases lst with
 |true=>rw[if_pos rfl]at x;obtain⟨o,e,c,d⟩:=x;exact⟨o,e,λv z=>by rw[d]at z;cases z⟩
 |false=>rw[if_neg xm]at x;obtain⟨o,e,c,d⟩:=x;exact⟨o,e,λv z=>by rw[d]at z;cases z⟩
theorem qt.ext(x:qt lst h t its)(e:eM b h h')(n:t≠b):qt lst h' t its:=by
 unfold qt at x ⊢;cases lst with
 |true=>rw[if_pos rfl]at x ⊢;exact x.extBut e n
 |false=>rw[if_neg xm]at x ⊢;exact x.extBut e n
theorem j4y{y:a8}{Q:k8n}(hj:qz lst s.heap j t k)(ht:qt lst s.heap t its)(hy:its[k]?=a3 y)
  (q:∀h',qz lst h' j t (k+1)->cJ j s.heap h'->Q y { s with heap:=h' }):aq (ay prog w) A (b9 (.ref j)) Q E s:=by
 unfold qz at hj q;unfold qt at ht;cases lst with
 |true=>rw[if_pos rfl]at hj ht;simp only[if_true]at q;exact wpAny_nextOf_list_item hj ht hy q
 |false=>rw[if_neg xm]at hj ht;simp only[Xp,if_false]at q;exact j47 hj ht hy q
theorem Ew{Q:k8n}(hh:A.handled=a7)(hj:qz lst s.heap j t k)(ht:qt lst s.heap t its)(hy:its[k]?=a7)
  (q:∀h' x,eM j s.heap h'->(∃o,h'.get? x=a3 o/\o.cls=.type "StopIteration")->E (.ref x) { s with heap:=h' }):aq (ay prog w) A (b9 (.ref j)) Q E s:=by
 unfold qz at hj;unfold qt at ht;cases lst with
 |true=>rw[if_pos rfl]at hj ht;exact wpAny_nextOf_list_end hh hj ht hy q
 |false=>rw[if_neg xm]at hj ht;exact j6o hh hj ht hy q
end
section
variable{prog:av}{w:az}{A:aC}{E:k8n}{s:af}{l1 l2:Bool}{z TI TO i1 i2 t1 t2:aa}{k:Nat}{us vs:Array a8}{x y a b:a8}
end
noncomputable def Ey(lst:Bool):String:=if lst=a6 then "list_iterator" else "tuple_iterator"
noncomputable abbrev zh1(h:aD)(l1:Bool)(t1:aa):aD:=h.push { cls:=.type (Ey l1),data:=.fields #[.ref t1,.int 0 0] }
section
variable{prog:av}{w:az}{A:aC}{E:k8n}{s:af}{l1 l2:Bool}{t1 t2:aa}{us vs:Array a8}
theorem R8{lst:Bool}{t:aa}{its:Array a8}{Q:k8n}(h:qt lst s.heap t its)(q:Q (.ref s.heap.objs.size) { s with heap:=zh1 s.heap lst t }):aq (ay prog w) A (i4 (.ref t)) Q E s:=by
 unfold qt at h;cases lst with
 |true=>rw[if_pos rfl]at h;exact b8 h q
 |false=>rw[if_neg xm]at h;exact fP h q
end
def SqB(K:k8m)(lst:Bool)(H:Hp)(a:aa)(xs:List V):Prop:=if lst=a6 then SqL K H a xs else SqT K H a xs
section
variable{X:Cx}{pins:k8o}{σ:St}{H:Hp}{s:af}{a p:aa}{xs ys:List V}{lst:Bool}{ch:List aa}{h':aD}
theorem j0.seqB{K:k8m}{H':Hp}(e:j0 H H')(h:SqB K lst H a xs):SqB K lst H' a xs:=by
 unfold SqB at h ⊢;cases lst with
 |true=>rw[if_pos rfl]at h ⊢;exact e.seq h
 |false=>rw[if_neg xm]at h ⊢;exact e.seqT h
theorem Inv.side(I:Inv X pins σ H s)(h:SqB X.K lst H a xs):∃us:List a8,Vals xs us/\qt lst s.heap a us.toArray/\xs.length<=ar:=by
 unfold SqB at h;unfold qt;cases lst with
 |true=>rw[if_pos rfl]at h;obtain⟨its,r,q,l⟩:=I.list h;exact⟨its,r,by rw[if_pos rfl];exact q.isList,l⟩
 |false=>rw[if_neg xm]at h;obtain⟨its,r,q,l⟩:=I.tuple h;exact⟨its,r,by rw[if_neg xm];exact q,l⟩
theorem Inv.side_inj(I:Inv X pins σ H s)(h:SqB X.K lst H a xs)(h':SqB X.K lst H a ys):xs=ys:=by
 unfold SqB at h h';cases lst with
 |true=>rw[if_pos rfl]at h h';exact I.list_inj h h'
 |false=>rw[if_neg xm]at h h';exact I.tuple_inj h h'
theorem Inv.chg(I:Inv X pins σ H s)(hf:∀b∈ch,zm X pins H b)(kp:∀c o,c∉ch->s.heap.get? c=a3 o->h'.get? c=a3 o):Inv X pins σ H { s with heap:=h' }:=by
 refine I.step (g':=s.gens) (t':=s.toks) (d':=s.drawn) (ch:=ch) (λb hb=>⟨(hf b hb).2.2.2.1,(hf b hb).2.1,(hf b hb).2.2.2.2.1,(hf b hb).2.2.2.2.2⟩) (λb o _ _ nc e _=>kp b o nc e) (λb o _ _ nc e _=>⟨o.slots,kp b o nc e⟩)
  (λb o _ _ n=>n) (λb o nc e=>⟨o,kp b o nc e⟩) (λb xs e=>e) (λb o u e=>e) (λb ps e=>⟨#[],by rw[e];simp⟩) (λm hm=>hm.at' λo e=>kp _ o (λz=>(hf _ z).2.1 rfl) e) (λc o e=>?_) I.bare
 have out:∀{b:aa}{u:HO},H b=a3 u->b∉ch:=λ{b u} q z=>by rw[(hf b z).1]at q;cases q
 refine jh.stay (I.hok c o e) (λb u hb q=>kp b u ?_ q) (λb q=>q) (λb xs q=>q) (λb _ _ q=>q);rcases hb with hb|hb
 .subst hb;exact out e
 .exact out hb
theorem Inv.chgT(I:Inv X pins σ H s)(hf:∀b∈ch,zm X pins H b)(kp:∀c o,c∉ch->s.heap.get? c=a3 o->h'.get? c=a3 o){us:List a8}(rv:Vals xs us)(hl:xs.length<=ar)
  (hp:i7 h' s.heap.objs.size us.toArray) (hq:Zx h' s.heap.objs.size):Inv X pins σ (upd H s.heap.objs.size (.tup xs)) { s with heap:=h' }:=by
 have hn:=I.fresh;have nz:∀{b:aa}{o:dz},s.heap.get? b=a3 o->b≠s.heap.objs.size:=λ{b o} e=>Xd (X4 e);have tr:∀{b:aa}{u:HO},H b=a3 u->upd H s.heap.objs.size (.tup xs) b=a3 u:=λ{b u} e=>by rw[jk (v8 e hn)];exact e
 refine I.step (g':=s.gens) (t':=s.toks) (d':=s.drawn) (ch:=ch) (λb hb=>⟨(hf b hb).2.2.2.1,(hf b hb).2.1,(hf b hb).2.2.2.2.1,(hf b hb).2.2.2.2.2⟩) (λb o _ _ nc e _=>kp b o nc e) (λb o _ _ nc e _=>⟨o.slots,kp b o nc e⟩)
  (λb o _ e n=>by rw[jk (nz e)];exact n) (λb o nc e=>⟨o,kp b o nc e⟩) (λb xs e=>tr e) (λb o u e=>tr e) (λb ps e=>⟨#[],by rw[tr e];simp⟩) (λm hm=>hm.at' λo e=>kp _ o (λz=>(hf _ z).2.1 rfl) e) (λc o e=>?_) I.bare
 have out:∀{b:aa}{u:HO},H b=a3 u->b∉ch:=λ{b u} q z=>by rw[(hf b z).1]at q;cases q
 by_cases z:c=s.heap.objs.size
 .subst z;rw[jc]at e;cases e;exact⟨hl,us,rv,hp,hq⟩
 .rw[jk z]at e;refine jh.stay (I.hok c o e) (λb u hb q=>kp b u ?_ q) (λb q=>tr q) (λb xs q=>tr q) (λb _ _ q=>tr q);rcases hb with hb|hb
  .subst hb;exact out e
  .exact out hb
end
section
variable{X:Cx}{ρ:Rho}{a b:ao}{es:List ao}{n:Nat}{pos p q1 q2:aO}{ds ds':List D}{l1 l2:Bool}
noncomputable def D.seq(lst:Bool)(ds:List D):D:=if lst=a6 then .lst ds else .tup ds
theorem V9{K:k8m}{H:Hp}{lst:Bool}{v:V}(h:Enc K H (D.seq lst ds) v):∃t xs,v=.ref t/\SqB K lst H t xs/\j5 K H ds xs:=by
 unfold D.seq at h;unfold SqB;cases lst with
 |true=>rw[if_pos rfl]at h;obtain⟨t,xs,e,s,l⟩:=h;exact⟨t,xs,e,by rw[if_pos rfl];exact s,l⟩
 |false=>rw[if_neg xm]at h;obtain⟨t,xs,e,s,l⟩:=h;exact⟨t,xs,e,by rw[if_neg xm];exact s,l⟩
theorem DG.pair{x y:aj}(i j:Nat){d d':D}(hij:i≠j)(hN:X.N.Nodup)(hi:X.N[i]?=a3 x:=by rfl)(hj:X.N[j]?=a3 y:=by rfl)(hx:Loc X.env.scope x:=by first|exact bq rfl|exact bH rfl)(hy:Loc X.env.scope y:=by first|exact bq rfl|exact bH rfl)
  (fx:X.fn x=a6\/X.env.scope.names.lookup x=a3 .local:=by first|exact .inl rfl|exact .inr rfl) (fy:X.fn y=a6\/X.env.scope.names.lookup y=a3 .local:=by first|exact .inl rfl|exact .inr rfl) (hc:X.calm=a6:=by rfl)
  (hn:(bF [.Name x q1,.Name y q2] X.env).length=2:=by rfl) (hst:(bF [.Name x q1,.Name y q2] X.env).findIdx? (·.1)=a7:=by rfl)
  (e1:(bF [.Name x q1,.Name y q2] X.env).map (·.2)=cX (.Name x q1) X.env::(bF [.Name y q2] X.env).map (·.2):=by rfl) (e2:(bF [.Name y q2] X.env).map (·.2)=cX (.Name y q2) X.env::(bF [] X.env).map (·.2):=by rfl) :
  DG X ρ (.Tuple [.Name x q1,.Name y q2] n pos) (.tup [d,d']) ((ρ.set i (.val d)).set j (.val d')):=by
 refine⟨λb hb=>(jy rfl).subset ((jy rfl).subset hb),λσ H v Q R en q=>?_⟩;obtain⟨t,xs,ev,sq,u,r,e,eu,u',r',e',eu',er⟩:=en;subst e e' ev er;refine(jfk hc (j07 (M5 hN hi hx fx) (j07 (M5 hN hj hy fy) jcb e2) e1) hn hst).to ⟨t,[u,u'],rfl,q9.seqT sq,rfl,u,[u'],rfl,u',[],rfl,rfl,?_⟩;refine q _ ?_;have R1:Rep X.K (ρ.set i (.val d)) (σ.set i (a3 u)) H:=R.set_val eu;exact R1.set_val (eu'.mono (J7 λb hb=>(jy rfl).subset hb))
end
noncomputable def D.ty:D->String
 |.non=>"NoneType"
 |.bl _=>"bool"
 |.int _=>"int"
 |.str _=>"str"
 |.tup _=>"tuple"
 |.lst _=>"list"
 |.dct _ _=>"dict"
 |.sct _=>"dict"
 |.fn _ _=>"function"
section
variable{X:Cx}{pins:k8o}{σ:St}{H:Hp}{s:af}{A:aC}{E:k8n}{Q:k8n}{c:a8}{b:Bool}
theorem j6a {d:D} {v:V} {u:a8} (I:Inv X pins σ H s) (en:Enc X.K H d v) (r:RelV v u) (nf:d.ty ≠ "function"):∃P:aD->Prop,PySem.W.KitX X.K u (.type d.ty) P/\P s.heap/\u≠.builtin "__main__.__loader__#opaque":=by
 cases d with
 |non=>cases(show v=.non from en);cases(show u=aV from r);exact⟨_,W.kitx_none,trivial,λz=>nomatch z⟩
 |bl k=>cases(show v=.bl k from en);cases(show u=bJ k from r);exact⟨_,W.kitx_bool,trivial,λz=>nomatch z⟩
 |int k=>cases(show v=.int k from en);obtain⟨t,q⟩:=(show ∃t,u=bo k t from r);cases q;exact⟨_,W.kitx_int,trivial,λz=>nomatch z⟩
 |str k=>cases(show v=.str k from en);obtain⟨t,q⟩:=(show ∃t,u=bO k t from r);cases q;exact⟨_,W.kitx_str,trivial,λz=>nomatch z⟩
 |tup l =>obtain⟨a,xs,e,sq,_⟩:=en;subst e;cases(show u=aB a from r);obtain⟨its,_,⟨o,h1,h2,_⟩,_⟩:=I.tuple sq;exact⟨_,W.kitx_tuple,⟨o,h1,h2⟩,λz=>nomatch z⟩
 |lst l =>obtain⟨a,xs,e,sq,_⟩:=en;subst e;cases(show u=aB a from r);obtain⟨its,_,⟨o,n,h1,h2,_⟩,_⟩:=I.list sq;exact⟨_,W.kitx_list,⟨o,h1,h2⟩,λz=>nomatch z⟩
 |dct ks l =>
  obtain⟨a,xs,ep,vs,e,hx,_⟩:=en;subst e;cases(show u=aB a from r);obtain⟨_,_,_,o,es,h1,h2,_⟩:=(show jh X.prog X.w H s.heap a (.dI xs ep)from I.hok _ _ hx)
  exact⟨_,W.kitx_dict,⟨o,h1,h2.1⟩,λz=>nomatch z⟩
 |sct k =>
  obtain⟨a,e,hx⟩:=en;subst e;cases(show u=aB a from r);obtain⟨_,_,vs,_,o,es,ep,h1,h2,_⟩:=(show jh X.prog X.w H s.heap a (.dK (kvI k))from I.hok _ _ hx)
  exact⟨_,W.kitx_dict,⟨o,h1,h2.1⟩,λz=>nomatch z⟩
 |fn x l=>exact absurd rfl nf
theorem j7b:Jk X (.builtin "isinstance") (λxs H Q=>∃v d c b,xs=[v,.ty c]/\Enc X.K H d v/\d.ty ≠ "function"/\W.kitOne X.K (.type d.ty) (.type c)=a3 b/\Q (.bl b) H):=by rintro pins s σ H xs us Q I r ⟨v,d,c,b,e,en,nf,k,q⟩;subst e;obtain⟨u,u',eu,r1,r2⟩:=vals2 r;subst eu;cases(show u'=bV c from r2);obtain⟨P,Z,hp,hn⟩:=j6a I en r1 nf;exact W.kia_one Z I.kIn hp k hn λtk=>⟨.bl b,H,I.tok tk,rfl,q⟩
theorem j7a:Jk X (.builtin "isinstance") (λxs H Q=>∃(v:V)(t:aa)(d:D)(cs:List String)(b:Bool),xs=[v,.ref t]/\Enc X.K H d v/\d.ty ≠ "function"/\SqT X.K H t (cs.map V.ty)/\W.kitAny X.K (.type d.ty) (cs.map bV)=a3 b/\Q (.bl b) H):=by
 rintro pins s σ H xs us Q I r ⟨v,t,d,cs,b,e,en,nf,sq,k,q⟩;subst e;obtain⟨u,u',eu,r1,r2⟩:=vals2 r;subst eu;cases(show u'=aB t from r2);obtain⟨P,Z,hp,hn⟩:=j6a I en r1 nf;obtain⟨its,rv,⟨⟨cl,dd,da,sl⟩,h1,h2,n,h3⟩,_⟩:=I.tuple sq;have h2:cl=.type "tuple":=h2;have h3:da=.seq its.toArray n:=h3;subst h2 h3;have ei:∀{cs:List String}{its:List a8},Vals (cs.map V.ty) its->its=cs.map bV:=λ{cs}=>by
  induction cs with
  |nil=>intro its h;exact h.zero
  |cons c cs ih=>intro its h;cases h with|cons a b=>cases a;rw[ih b];rfl
 rw[ei rv]at h1;exact W.kia_tup Z I.kIn hp h1 k hn λtk=>⟨.bl b,H,I.tok tk,rfl,q⟩
end
section
variable{X:Cx}{ρ:Rho}{a b:ao}{d:D}{pos p p1 p2 p3:aO}{T T1 T2:aj}{c c1 c2:String}{k:Bool}{n:Nat}
theorem j3u (hg:Gl X T) (hm:X.mg T=a7) (hv:bh T=a3 (.type c)) (hn:T ≠ "__name__":=by decide) (hd:(T==k8q)=a4:=by decide):PE X (.Name T p) (tC (.ty c)):=jcd hg hm hv rfl hn hd
theorem DE.isi1 (ha:DT X ρ a d) (nf:d.ty ≠ "function") (hm:X.mg "isinstance" = a7) (hT:X.mg T=a7) (hv:bh T=a3 (.type c)) (hk:W.kitOne X.K (.type d.ty) (.type c)=a3 k) (hg:Gl X "isinstance":=by rfl) (hg2:Gl X T:=by rfl)
  (hn:T ≠ "__name__":=by decide) (hd:(T==k8q)=a4:=by decide)
  (hs:a9 [a,.Name T p2] X.env=(a4,aA a X.env)::a9 [.Name T p2] X.env:=by rfl) (hs2:a9 [.Name T p2] X.env=(a4,aA (.Name T p2) X.env)::a9 [] X.env:=by rfl) (hpl:(aY pos (a9 [.Name T p2] X.env)).any (·.1)=a4:=by rfl) :
  DE X ρ (.Call (.Name "isinstance" p) [a,.Name T p2] [] pos) (.bl k):=λσ H Q R q =>
 (vm j7b hg hm lL (jd peS (jd (j3u hg2 hT hv hn hd) jz hs2) hs) (by decide) (by decide) hs hpl).to (ha σ H _ R λv H1 g1 e1=>⟨v,d,c,k,rfl,e1,nf,hk,q _ H1 g1 rfl⟩)
theorem DE.isi2 {m:Nat} (ha:DT X ρ a d) (nf:d.ty ≠ "function") (hm:X.mg "isinstance" = a7) (hT1:X.mg T1=a7) (hT2:X.mg T2=a7) (hv1:bh T1=a3 (.type c1)) (hv2:bh T2=a3 (.type c2))
  (hk:W.kitAny X.K (.type d.ty) [.type c1,.type c2]=a3 k) (hg:Gl X "isinstance":=by rfl) (hg1:Gl X T1:=by rfl) (hg2:Gl X T2:=by rfl)
  (hn1:T1 ≠ "__name__":=by decide) (hd1:(T1==k8q)=a4:=by decide) (hn2:T2 ≠ "__name__":=by decide) (hd2:(T2==k8q)=a4:=by decide)
  (hs:a9 [a,.Tuple [.Name T1 p1,.Name T2 p2] m p3] X.env=(a4,aA a X.env)::a9 [.Tuple [.Name T1 p1,.Name T2 p2] m p3] X.env:=by rfl)
  (hs2:a9 [.Tuple [.Name T1 p1,.Name T2 p2] m p3] X.env=(a4,aA (.Tuple [.Name T1 p1,.Name T2 p2] m p3) X.env)::a9 [] X.env:=by rfl) (hpl:(aY pos (a9 [.Tuple [.Name T1 p1,.Name T2 p2] m p3] X.env)).any (·.1)=a4:=by rfl)
  (hs3:a9 [.Name T1 p1,.Name T2 p2] X.env=(a4,aA (.Name T1 p1) X.env)::a9 [.Name T2 p2] X.env:=by rfl) (hs4:a9 [.Name T2 p2] X.env=(a4,aA (.Name T2 p2) X.env)::a9 [] X.env:=by rfl) :
  DE X ρ (.Call (.Name "isinstance" p) [a,.Tuple [.Name T1 p1,.Name T2 p2] m p3] [] pos) (.bl k):=λσ H Q R q =>
 (vm j7a hg hm lL (jd peS (jd (j5j (jd (j3u hg1 hT1 hv1 hn1 hd1) (jd (j3u hg2 hT2 hv2 hn2 hd2) jz hs4) hs3)) jz hs2) hs) (by decide) (by decide) hs hpl).to
  (ha σ H _ R λv H1 g1 e1=>⟨by show 2<=ar;decide,λt ht=>⟨v,t,d,[c1,c2],k,rfl,e1.mono (j8 ht),nf,.inl (.inl jc),hk,q _ _ (g1.trans (j8 ht)) rfl⟩⟩)
end
mutual
noncomputable def deq:D->D->Bool
 |.non,.non=>a6
 |.bl a,.bl b=>a==b
 |.bl a,.int b=>(if a then 1 else 0)==b
 |.int a,.bl b=>a==(if b then 1 else 0)
 |.int a,.int b=>a==b
 |.str a,.str b=>a==b
 |.tup xs,.tup ys=>v6 xs ys
 |.lst xs,.lst ys=>v6 xs ys
 |.dct k xs,.dct m ys=>decide (k=m)&&v6 xs ys
 |.sct k,.sct m=>decide (k=m)
 |_,_=>a4
noncomputable def v6:List D->List D->Bool
 |[],[]=>a6
 |x::xs,y::ys=>deq x y&&v6 xs ys
 |_,_=>a4
end
theorem jhl{a b:Bool}:deq (.bl a) (.bl b)=(a==b):=(rfl)
theorem j13{a b:Int}:deq (.int a) (.int b)=(a==b):=(rfl)
theorem j6p{a b:aj}:deq (.str a) (.str b)=(a==b):=(rfl)
theorem Nx{a b:List D}:deq (.tup a) (.tup b)=v6 a b:=(rfl)
theorem j12{a b:List D}:deq (.lst a) (.lst b)=v6 a b:=(rfl)
theorem Yr:v6 [] []=a6:=(rfl)
theorem Qo{x y:D}{xs ys:List D}:v6 (x::xs) (y::ys)=(deq x y&&v6 xs ys):=(rfl)
theorem Mm{y:D}{ys:List D}:v6 [] (y::ys)=a4:=(rfl)
theorem Mp{x:D}{xs:List D}:v6 (x::xs) []=a4:=(rfl)
mutual
noncomputable def D.dep:D->Nat
 |.tup xs=>D.depL xs+1
 |.lst xs=>D.depL xs+1
 |.dct _ _=>20000
 |.sct _=>20000
 |.fn _ _=>20000
 |_=>0
noncomputable def D.depL:List D->Nat
 |[]=>0
 |x::xs=>max x.dep (D.depL xs)
end
mutual
theorem Be:∀d:D,d.dep<10000->deq d d=a6
 |.non,_=>rfl
 |.bl b,_=>by rw[jhl];simp
 |.int i,_=>by rw[j13];simp
 |.str x,_=>by rw[j6p];simp
 |.tup xs,h=>by rw[Nx];exact Rh xs (by simp only[D.dep]at h;omega)
 |.lst xs,h=>by rw[j12];exact Rh xs (by simp only[D.dep]at h;omega)
 |.dct _ _,h=>by simp[D.dep]at h
 |.sct _,h=>by simp[D.dep]at h
 |.fn _ _,h=>by simp[D.dep]at h
theorem Rh:∀ds:List D,D.depL ds<10000->v6 ds ds=a6
 |[],_=>rfl
 |d::ds,h=>by rw[D.depL]at h;rw[Qo,Be d nofun,Rh ds nofun];rfl
end
theorem Ys:∀{xs ys:List D},xs.length≠ys.length->v6 xs ys=a4
 |[],[],h=>absurd rfl h
 |[],_::_,_=>by simp[Yr,Qo,Mm,Mp]
 |_::_,[],_=>by simp[Yr,Qo,Mm,Mp]
 |x::xs,y::ys,h=>by have:=Ys (xs:=xs) (ys:=ys) (by simpa using h);simp[Yr,Qo,Mm,Mp,this]
theorem Zr{f:Nat->Bool}:∀{xs ys:List D},xs.length=ys.length->(∀(j:Nat) x y,xs[j]?=a3 x->ys[j]?=a3 y->f j=deq x y)->(ax xs.length).all f=v6 xs ys
 |[],[],_,_=>by simp[Yr,Qo,Mm,Mp]
 |[],_::_,h,_=>by simp at h
 |_::_,[],h,_=>by simp at h
 |x::xs,y::ys,h,hf=>by have ih:=Zr (f:=λj=>f (j+1)) (xs:=xs) (ys:=ys) (by simpa using h) (λj a b ha hb=>hf (j+1) a b (by simpa using ha) (by simpa using hb));rw[X3,Td,gD,hf 0 x y rfl rfl,kH];simp only[Qo];rw[<-ih];rfl
section
variable{X:Cx}{pins:k8o}{σ:St}{H:Hp}{s:af}
theorem j0a(I:Inv X pins σ H s){a:aa}{xs ys:List V}(h:SqT X.K H a xs)(h':SqL X.K H a ys):False:=by obtain⟨_,_,⟨o,h1,h2,_⟩,_⟩:=I.tuple h;obtain⟨_,_,⟨o',n,h1',h2',_⟩,_⟩:=I.list h';rw[h1]at h1';cases h1';rw[h2]at h2';injection h2' with e;exact absurd e (by decide)
noncomputable def D.atom:D->Option V
 |.non=>a3 .non
 |.bl b=>a3 (.bl b)
 |.int i=>a3 (.int i)
 |.str x=>a3 (.str x)
 |_=>a7
theorem Enc.at_{K:k8m}{d:D}{v u:V}(h:Enc K H d v)(e:d.atom=a3 u):v=u:=by
 cases d with
 |non=>cases e;exact(show v=.non from h)
 |bl b=>cases e;exact(show v=.bl b from h)
 |int i=>cases e;exact(show v=.int i from h)
 |str x=>cases e;exact(show v=.str x from h)
 |_=>cases e
theorem Enc.ref{K:k8m}{d:D}{v:V}(h:Enc K H d v)(e:d.atom=a7):∃a,v=.ref a:=by
 cases d with
 |tup l=>obtain⟨a,_,e,_⟩:=h;exact⟨a,e⟩
 |lst l=>obtain⟨a,_,e,_⟩:=h;exact⟨a,e⟩
 |dct k l=>obtain⟨a,_,_,_,e,_⟩:=h;exact⟨a,e⟩
 |sct k=>obtain⟨a,e,_⟩:=h;exact⟨a,e⟩
 |fn x l=>obtain⟨a,_,_,_,_,e,_⟩:=h;exact⟨a,e⟩
 |_=>cases e
theorem ja2{d d':D}{u:V}(h:d.atom=a3 u)(h':d'.atom=a3 u):d=d':=by cases d<;>cases d'<;>first|(cases h;done)|(cases h';done)|(cases h;cases h';rfl)|(cases h;cases h')
theorem j1h{d:D}{a:aa}(h:d.atom=a3 (.ref a)):False:=by cases d<;>cases h
theorem jgx(I:Inv X pins σ H s){d d':D}{v:V}(hd:d.dep<10000)(hd':d'.dep<10000)(h:Enc X.K H d v)(h':Enc X.K H d' v) :
  d=d'\/∃ds ds' xs,((d=.tup ds/\d'=.tup ds')\/(d=.lst ds/\d'=.lst ds'))/\j5 X.K H ds xs/\j5 X.K H ds' xs:=by
 cases e:d.atom with
 |some u =>
  have ev:=h.at_ e;subst ev;cases e':d'.atom with
  |some u'=>exact .inl (ja2 e ((h'.at_ e')▸e'))
  |none=>obtain⟨a,ea⟩:=h'.ref e';subst ea;exact(j1h e).elim
 |none =>
  cases e':d'.atom with
  |some u'=>have ev:=h'.at_ e';subst ev;obtain⟨a,ea⟩:=h.ref e;subst ea;exact(j1h e').elim
  |none =>
   cases d with
   |tup ds =>
    obtain⟨a,xs,ea,sq,l⟩:=h;cases d' with
    |tup ds' =>obtain⟨a',ys,eb,sq',l'⟩:=h';rw[ea]at eb;cases eb;rw[I.tuple_inj sq' sq]at l';exact .inr ⟨ds,ds',xs,.inl ⟨rfl,rfl⟩,l,l'⟩
    |lst ds'=>obtain⟨a',ys,eb,sq',l'⟩:=h';rw[ea]at eb;cases eb;exact(j0a I sq sq').elim
    |dct _ _=>simp[D.dep]at hd'
    |sct _=>simp[D.dep]at hd'
    |fn _ _=>simp[D.dep]at hd'
    |_=>cases e'
   |lst ds =>
    obtain⟨a,xs,ea,sq,l⟩:=h;cases d' with
    |lst ds' =>obtain⟨a',ys,eb,sq',l'⟩:=h';rw[ea]at eb;cases eb;rw[I.list_inj sq' sq]at l';exact .inr ⟨ds,ds',xs,.inr ⟨rfl,rfl⟩,l,l'⟩
    |tup ds'=>obtain⟨a',ys,eb,sq',l'⟩:=h';rw[ea]at eb;cases eb;exact(j0a I sq' sq).elim
    |dct _ _=>simp[D.dep]at hd'
    |sct _=>simp[D.dep]at hd'
    |fn _ _=>simp[D.dep]at hd'
    |_=>cases e'
   |dct _ _=>simp[D.dep]at hd
   |sct _=>simp[D.dep]at hd
   |fn _ _=>simp[D.dep]at hd
   |_=>cases e
theorem j90{n:Nat}(ih:∀{d d':D}{v:V},d.dep<=n->d.dep<10000->d'.dep<10000->Enc X.K H d v->Enc X.K H d' v->d=d'):∀{ds ds':List D}{xs:List V},D.depL ds<=n->D.depL ds<10000->D.depL ds'<10000->j5 X.K H ds xs->j5 X.K H ds' xs->ds=ds'
 |[],[],_,_,_,_,_,_=>rfl
 |[],_::_,_,_,_,_,h,⟨x,r,e,_⟩=>by cases h;cases e
 |_::_,[],_,_,_,_,⟨x,r,e,_⟩,h=>by cases h;cases e
 |d::ds,d'::ds',_,m,n1,n2,⟨x,r,e,h,l⟩,⟨x',r',e',h',l'⟩=>by subst e;cases e';rw[D.depL]at m n1 n2;rw[ih nofun nofun nofun h h',j90 ih nofun nofun nofun l l']
theorem j8z(I:Inv X pins σ H s):∀(n:Nat){d d':D}{v:V},d.dep<=n->d.dep<10000->d'.dep<10000->Enc X.K H d v->Enc X.K H d' v->d=d'
 |0,d,d',v,hn,hd,hd',h,h'=>by
  rcases jgx I hd hd' h h' with e|⟨ds,ds',xs,⟨e,_⟩|⟨e,_⟩,_⟩
  .exact e
  .subst e;simp[D.dep]at hn
  .subst e;simp[D.dep]at hn
 |n+1,d,d',v,hn,hd,hd',h,h'=>by
  rcases jgx I hd hd' h h' with e|⟨ds,ds',xs,⟨e,e'⟩|⟨e,e'⟩,l,l'⟩
  .exact e
  .subst e e';simp only[D.dep]at hn hd hd';rw[j90 (λa b c=>j8z I n a b c) nofun nofun nofun l l']
  .subst e e';simp only[D.dep]at hn hd hd';rw[j90 (λa b c=>j8z I n a b c) nofun nofun nofun l l']
theorem Enc.inj(I:Inv X pins σ H s){d d':D}{v:V}(hd:d.dep<10000)(hd':d'.dep<10000)(h:Enc X.K H d v)(h':Enc X.K H d' v):d=d':=j8z I d.dep (xx _) hd hd' h h'
end
section
variable{X:Cx}{pins:k8o}{σ:St}{H:Hp}{s:af}
theorem D.depL_le:∀{ds:List D}{j:Nat}{d:D},ds[j]?=a3 d->d.dep<=D.depL ds
 |[],_,_,h=>by simp at h
 |x::xs,0,d,h=>by simp at h;subst h;simp[D.depL];omega
 |x::xs,j+1,d,h=>by have:=D.depL_le (ds:=xs) (j:=j) (d:=d) (by simpa using h);simp[D.depL];omega
theorem V2(I:Inv X pins σ H s):∀(n:Nat)(A:aC){d d':D}{v v':V}{u u':a8},d.dep<=n->A.units+n<aX->d'.dep<10000->Enc X.K H d v->RelV v u->Enc X.K H d' v'->RelV v' u' ->
  fX A s u u' (deq d d')/\d5 A s u u' (deq d d')
 |0,A,d,d',v,v',u,u',hn,hu,nd,en,r,en',r'=>by
  have hu0:A.units<aX:=by omega
  cases d with
  |tup l=>simp[D.dep]at hn
  |lst l=>simp[D.dep]at hn
  |dct ks l=>simp[D.dep]at hn
  |sct k=>simp[D.dep]at hn
  |fn x l=>simp[D.dep]at hn
  |non =>
   cases(show v=.non from en);cases(show u=aV from r);cases d' with
   |dct ks' l'=>simp[D.dep]at nd
   |sct k'=>simp[D.dep]at nd
   |fn x' l'=>simp[D.dep]at nd
   |non=>cases(show v'=.non from en');cases(show u'=aV from r');exact⟨.none_none,.same _⟩
   |bl k=>cases(show v'=.bl k from en');cases(show u'=bJ k from r');exact⟨.none_bool _,.none_bool _⟩
   |int k=>cases(show v'=.int k from en');obtain⟨t,q⟩:=(show ∃t,u'=bo k t from r');subst q;exact⟨.none_int _ _,.none_int _ _⟩
   |str k=>cases(show v'=.str k from en');obtain⟨t,q⟩:=(show ∃t,u'=bO k t from r');subst q;exact⟨.none_str _ _,.none_str _ _⟩
   |tup l=>obtain⟨a,xs,e,sq,_⟩:=en';subst e;cases(show u'=aB a from r');obtain⟨_,_,q,_⟩:=I.tuple sq;exact⟨.none_tuple q hu0,.none_tuple q hu0⟩
   |lst l=>obtain⟨a,xs,e,sq,_⟩:=en';subst e;cases(show u'=aB a from r');obtain⟨_,_,q,_⟩:=I.list sq;exact⟨.none_list q.isList hu0,.none_list q.isList hu0⟩
  |bl b =>
   cases(show v=.bl b from en);cases(show u=bJ b from r);cases d' with
   |dct ks' l'=>simp[D.dep]at nd
   |sct k'=>simp[D.dep]at nd
   |fn x' l'=>simp[D.dep]at nd
   |non=>cases(show v'=.non from en');cases(show u'=aV from r');exact⟨.bool_none _,.bool_none _⟩
   |bl k=>cases(show v'=.bl k from en');cases(show u'=bJ k from r');exact⟨.bool_bool _ _,.bool_bool _ _⟩
   |int k=>cases(show v'=.int k from en');obtain⟨t,q⟩:=(show ∃t,u'=bo k t from r');subst q;exact⟨.bool_int _ _ _,.bool_int _ _ _⟩
   |str k=>cases(show v'=.str k from en');obtain⟨t,q⟩:=(show ∃t,u'=bO k t from r');subst q;exact⟨.bool_str _ _ _,.bool_str _ _ _⟩
   |tup l=>obtain⟨a,xs,e,sq,_⟩:=en';subst e;cases(show u'=aB a from r');obtain⟨_,_,q,_⟩:=I.tuple sq;exact⟨.bool_tuple _ q hu0,.bool_tuple _ q hu0⟩
   |lst l=>obtain⟨a,xs,e,sq,_⟩:=en';subst e;cases(show u'=aB a from r');obtain⟨_,_,q,_⟩:=I.list sq;exact⟨.bool_list _ q.isList hu0,.bool_list _ q.isList hu0⟩
  |int b =>
   cases(show v=.int b from en);obtain⟨tk,q0⟩:=(show ∃t,u=bo b t from r);subst q0;cases d' with
   |dct ks' l'=>simp[D.dep]at nd
   |sct k'=>simp[D.dep]at nd
   |fn x' l'=>simp[D.dep]at nd
   |non=>cases(show v'=.non from en');cases(show u'=aV from r');exact⟨.int_none _ _,.int_none _ _⟩
   |bl k=>cases(show v'=.bl k from en');cases(show u'=bJ k from r');exact⟨.int_bool _ _ _,.int_bool _ _ _⟩
   |int k=>cases(show v'=.int k from en');obtain⟨t,q⟩:=(show ∃t,u'=bo k t from r');subst q;exact⟨.int_int _ _ _ _,.int_int _ _ _ _⟩
   |str k=>cases(show v'=.str k from en');obtain⟨t,q⟩:=(show ∃t,u'=bO k t from r');subst q;exact⟨.int_str _ _ _ _,.int_str _ _ _ _⟩
   |tup l=>obtain⟨a,xs,e,sq,_⟩:=en';subst e;cases(show u'=aB a from r');obtain⟨_,_,q,_⟩:=I.tuple sq;exact⟨.int_tuple _ _ q hu0,.int_tuple _ _ q hu0⟩
   |lst l=>obtain⟨a,xs,e,sq,_⟩:=en';subst e;cases(show u'=aB a from r');obtain⟨_,_,q,_⟩:=I.list sq;exact⟨.int_list _ _ q.isList hu0,.int_list _ _ q.isList hu0⟩
  |str b =>
   cases(show v=.str b from en);obtain⟨tk,q0⟩:=(show ∃t,u=bO b t from r);subst q0;cases d' with
   |dct ks' l'=>simp[D.dep]at nd
   |sct k'=>simp[D.dep]at nd
   |fn x' l'=>simp[D.dep]at nd
   |non=>cases(show v'=.non from en');cases(show u'=aV from r');exact⟨.str_none _ _,.str_none _ _⟩
   |bl k=>cases(show v'=.bl k from en');cases(show u'=bJ k from r');exact⟨.str_bool _ _ _,.str_bool _ _ _⟩
   |int k=>cases(show v'=.int k from en');obtain⟨t,q⟩:=(show ∃t,u'=bo k t from r');subst q;exact⟨.str_int _ _ _ _,.str_int _ _ _ _⟩
   |str k=>cases(show v'=.str k from en');obtain⟨t,q⟩:=(show ∃t,u'=bO k t from r');subst q;exact⟨.str_str _ _ _ _,.str_str _ _ _ _⟩
   |tup l=>obtain⟨a,xs,e,sq,_⟩:=en';subst e;cases(show u'=aB a from r');obtain⟨_,_,q,_⟩:=I.tuple sq;exact⟨.str_tuple _ _ q hu0,.str_tuple _ _ q hu0⟩
   |lst l=>obtain⟨a,xs,e,sq,_⟩:=en';subst e;cases(show u'=aB a from r');obtain⟨_,_,q,_⟩:=I.list sq;exact⟨.str_list _ _ q.isList hu0,.str_list _ _ q.isList hu0⟩
 |n+1,A,d,d',v,v',u,u',hn,hu,nd,en,r,en',r'=>by
  have hu0:A.units<aX:=by omega
  have hu1:A.in1.units+n<aX:=by show A.units+1+n<aX;omega
  have low:d.dep<=n->fX A s u u' (deq d d')/\d5 A s u u' (deq d d'):=λh=>V2 I n A h nofun nd en r en' r';cases d with
  |non=>exact low (by simp[D.dep])
  |bl b=>exact low (by simp[D.dep])
  |int b=>exact low (by simp[D.dep])
  |str b=>exact low (by simp[D.dep])
  |dct ks l=>exfalso;have:(9900:Nat)=aX:=rfl;simp only[D.dep]at hn;omega
  |sct k=>exfalso;have:(9900:Nat)=aX:=rfl;simp only[D.dep]at hn;omega
  |fn x l=>exfalso;have:(9900:Nat)=aX:=rfl;simp only[D.dep]at hn;omega
  |tup ds =>
   have hd:D.depL ds<=n:=by simp[D.dep]at hn;omega
   obtain⟨a,xs,e,sq,l⟩:=id en;subst e;cases(show u=aB a from r);obtain⟨us,rv,q,_⟩:=I.tuple sq;cases d' with
   |dct ks' l'=>simp[D.dep]at nd
   |sct k'=>simp[D.dep]at nd
   |fn x' l'=>simp[D.dep]at nd
   |non=>cases(show v'=.non from en');cases(show u'=aV from r');exact⟨.tuple_none q hu0,.tuple_none q hu0⟩
   |bl k=>cases(show v'=.bl k from en');cases(show u'=bJ k from r');exact⟨.tuple_bool _ q hu0,.tuple_bool _ q hu0⟩
   |int k=>cases(show v'=.int k from en');obtain⟨t,q'⟩:=(show ∃t,u'=bo k t from r');subst q';exact⟨.tuple_int _ _ q hu0,.tuple_int _ _ q hu0⟩
   |str k=>cases(show v'=.str k from en');obtain⟨t,q'⟩:=(show ∃t,u'=bO k t from r');subst q';exact⟨.tuple_str _ _ q hu0,.tuple_str _ _ q hu0⟩
   |lst ds'=>obtain⟨a',ys,e,sq',_⟩:=en';subst e;cases(show u'=aB a' from r');obtain⟨_,_,q',_⟩:=I.list sq';exact⟨.tuple_list q q'.isList hu0,.tuple_list q q'.isList hu0⟩
   |tup ds' =>
    obtain⟨a',ys,e,sq',l'⟩:=id en';subst e;cases(show u'=aB a' from r');obtain⟨us',rv',q',_⟩:=I.tuple sq';have e1:us.length=ds.length:=by rw[<-rv.length,l.length]
    have e2:us'.length=ds'.length:=by rw[<-rv'.length,l'.length]
    have main:fX A s (.ref a) (.ref a') (deq (.tup ds) (.tup ds')):=by
     have item:∀(j:Nat)(h1:j<us.toArray.size)(h2:j<us'.toArray.size),d5 A.in1 s us.toArray[j] us'.toArray[j] (deq (ds.getD j .non) (ds'.getD j .non)):=λj h1 h2=>by
      have k1:j<ds.length:=by rw[<-e1];simpa using h1
      have k2:j<ds'.length:=by rw[<-e2];simpa using h2
      obtain⟨x,hx,ex⟩:=l.get (kh k1);obtain⟨y,hy,ey⟩:=l'.get (kh k2);obtain⟨w1,hw1,rw1⟩:=rv.get hx;obtain⟨w2,hw2,rw2⟩:=rv'.get hy;have g1:us.toArray[j]=w1:=by simp at h1 ⊢;rw[kh (by simpa using h1)]at hw1;exact aw hw1
      have g2:us'.toArray[j]=w2:=by simp at h2 ⊢;rw[kh (by simpa using h2)]at hw2;exact aw hw2
      rw[g1,g2,kj,kj,kh k1,kh k2];exact(V2 I n A.in1 (Xj (D.depL_le (kh k1)) hd) hu1 (cD (D.depL_le (kh k2)) (by simp only[D.dep]at nd;omega)) ex rw1 ey rw2).2
     have z:=SeqAt.RcAt.tuples (A:=A) (s:=s) q q' hu0 (e:=λj=>deq (ds.getD j .non) (ds'.getD j .non)) item;have ev:((ax (min us.toArray.size us'.toArray.size)).all (λj=>deq (ds.getD j .non) (ds'.getD j .non))&&us.toArray.size==us'.toArray.size)=deq (.tup ds) (.tup ds'):=by
      simp only[Nx,X7,e1,e2];by_cases hl:ds.length=ds'.length
      .rw[hl,l5,beq_self_eq_true,kq,<-hl];exact Zr hl λj x y hx hy=>by rw[kj,kj,hx,hy];rfl
      .rw[Ys hl,beq_false_of_ne hl,gn]
     rw[ev]at z;exact z
    refine⟨main,?_⟩;by_cases ea:a=a'
    .subst ea;have e9:(9900:Nat)=aX:=rfl;rw[Enc.inj I nofun nd en en',Be _ nd];exact .same _
    .exact .of_refs ea main
  |lst ds =>
   have hd:D.depL ds<=n:=by simp[D.dep]at hn;omega
   obtain⟨a,xs,e,sq,l⟩:=id en;subst e;cases(show u=aB a from r);obtain⟨us,rv,q0,_⟩:=I.list sq;have q:=q0.isList;cases d' with
   |dct ks' l'=>simp[D.dep]at nd
   |sct k'=>simp[D.dep]at nd
   |fn x' l'=>simp[D.dep]at nd
   |non=>cases(show v'=.non from en');cases(show u'=aV from r');exact⟨.list_none q hu0,.list_none q hu0⟩
   |bl k=>cases(show v'=.bl k from en');cases(show u'=bJ k from r');exact⟨.list_bool _ q hu0,.list_bool _ q hu0⟩
   |int k=>cases(show v'=.int k from en');obtain⟨t,q'⟩:=(show ∃t,u'=bo k t from r');subst q';exact⟨.list_int _ _ q hu0,.list_int _ _ q hu0⟩
   |str k=>cases(show v'=.str k from en');obtain⟨t,q'⟩:=(show ∃t,u'=bO k t from r');subst q';exact⟨.list_str _ _ q hu0,.list_str _ _ q hu0⟩
   |tup ds'=>obtain⟨a',ys,e,sq',_⟩:=en';subst e;cases(show u'=aB a' from r');obtain⟨_,_,q',_⟩:=I.tuple sq';exact⟨.list_tuple q q' hu0,.list_tuple q q' hu0⟩
   |lst ds' =>
    obtain⟨a',ys,e,sq',l'⟩:=id en';subst e;cases(show u'=aB a' from r');obtain⟨us',rv',q0',_⟩:=I.list sq';have q':=q0'.isList;have e1:us.length=ds.length:=by rw[<-rv.length,l.length]
    have e2:us'.length=ds'.length:=by rw[<-rv'.length,l'.length]
    have main:fX A s (.ref a) (.ref a') (deq (.lst ds) (.lst ds')):=by
     have item:∀(j:Nat)(h1:j<us.toArray.size)(h2:j<us'.toArray.size),d5 A.in1 s us.toArray[j] us'.toArray[j] (deq (ds.getD j .non) (ds'.getD j .non)):=λj h1 h2=>by
      have k1:j<ds.length:=by rw[<-e1];simpa using h1
      have k2:j<ds'.length:=by rw[<-e2];simpa using h2
      obtain⟨x,hx,ex⟩:=l.get (kh k1);obtain⟨y,hy,ey⟩:=l'.get (kh k2);obtain⟨w1,hw1,rw1⟩:=rv.get hx;obtain⟨w2,hw2,rw2⟩:=rv'.get hy;have g1:us.toArray[j]=w1:=by simp at h1 ⊢;rw[kh (by simpa using h1)]at hw1;exact aw hw1
      have g2:us'.toArray[j]=w2:=by simp at h2 ⊢;rw[kh (by simpa using h2)]at hw2;exact aw hw2
      rw[g1,g2,kj,kj,kh k1,kh k2];exact(V2 I n A.in1 (Xj (D.depL_le (kh k1)) hd) hu1 (cD (D.depL_le (kh k2)) (by simp only[D.dep]at nd;omega)) ex rw1 ey rw2).2
     simp only[j12];by_cases hl:ds.length=ds'.length
     .have z:=SeqAt.RcAt.lists (A:=A) (s:=s) q q' (by simp[e1,e2,hl]) hu0 (e:=λj=>deq (ds.getD j .non) (ds'.getD j .non)) item;have ev:(ax us.toArray.size).all (λj=>deq (ds.getD j .non) (ds'.getD j .non))=v6 ds ds':=by rw[X7,e1];exact Zr hl λj x y hx hy=>by rw[kj,kj,hx,hy];rfl
      rw[ev]at z;exact z
     .rw[Ys hl];exact .lists_lengths q q' (by simp[e1,e2,hl]) hu0
    refine⟨main,?_⟩;by_cases ea:a=a'
    .subst ea;have e9:(9900:Nat)=aX:=rfl;rw[Enc.inj I nofun nd en en',Be _ nd];exact .same _
    .exact .of_refs ea main
end
section
variable{X:Cx}{pins:k8o}{σ:St}{H:Hp}{s:af}{A:aC}
theorem j8m(I:Inv X pins σ H s){n:Nat}{ds ds':List D}{xs ys:List V}{us us':List a8}(l:j5 X.K H ds xs)(rv:Vals xs us)(l':j5 X.K H ds' ys)(rv':Vals ys us')(hd:D.depL ds<=n)(hu:A.units+1+n<aX)(nd:D.depL ds'<10000) :
  ∀(j:Nat)(h1:j<us.toArray.size)(h2:j<us'.toArray.size),d5 A.in1 s us.toArray[j] us'.toArray[j] (deq (ds.getD j .non) (ds'.getD j .non)):=λj h1 h2=>by
 have k1:j<ds.length:=by rw[<-l.length,rv.length];simpa using h1
 have k2:j<ds'.length:=by rw[<-l'.length,rv'.length];simpa using h2
 obtain⟨x,hx,ex⟩:=l.get (kh k1);obtain⟨y,hy,ey⟩:=l'.get (kh k2);obtain⟨w1,hw1,rw1⟩:=rv.get hx;obtain⟨w2,hw2,rw2⟩:=rv'.get hy;have g1:us.toArray[j]=w1:=by simp at h1 ⊢;rw[kh (by simpa using h1)]at hw1;exact aw hw1
 have g2:us'.toArray[j]=w2:=by simp at h2 ⊢;rw[kh (by simpa using h2)]at hw2;exact aw hw2
 rw[g1,g2,kj,kj,kh k1,kh k2];exact(V2 I n A.in1 (Xj (D.depL_le (kh k1)) hd) hu (cD (D.depL_le (kh k2)) nd) ex rw1 ey rw2).2
theorem j5r(hu:X.A.units+100<aX):OpR X (aR .Eq) (λx y H Q=>∃d d',Enc X.K H d x/\Enc X.K H d' y/\d.dep<=100/\d'.dep<10000/\Q (.bl (deq d d')) H):=by rintro pins s σ H x y v u Q I rx ry ⟨d,d',en,en',hd,nd,q⟩;exact(V2 I 100 X.A hd hu nd en rx en' ry).1 X.prog X.w X.xe _ ⟨.bl (deq d d'),H,I,rfl,q⟩
theorem j5p(hu:X.A.units+100<aX):OpR X (aR .NotEq) (λx y H Q=>∃ds ds' k,Enc X.K H (D.seq k ds) x/\Enc X.K H (D.seq k ds') y/\D.depL ds<=98/\D.depL ds'<10000/\Q (.bl (!v6 ds ds')) H):=by
 rintro pins s σ H x y v u Q I rx ry ⟨ds,ds',k,en,en',hd,nd,q⟩;have h0:X.A.units<aX:=by omega
 obtain⟨t,xs,e,sq,l⟩:=V9 en;obtain⟨t',ys,e',sq',l'⟩:=V9 en';subst e e';cases rx;cases ry;obtain⟨us,rv,qs,_⟩:=I.side sq;obtain⟨us',rv',qs',_⟩:=I.side sq';have e1:us.length=ds.length:=by rw[<-rv.length,l.length]
 have e2:us'.length=ds'.length:=by rw[<-rv'.length,l'.length]
 have item:=j8m (A:=X.A) I l rv l' rv' hd nofun nd;unfold qt at qs qs';cases k with
 |true =>
  rw[if_pos rfl]at qs qs';by_cases hl:ds.length=ds'.length
  .have z:=SeqAt.RcNeAt.lists (A:=X.A) (s:=s) qs qs' (by simp[e1,e2,hl]) h0 (e:=λj=>deq (ds.getD j .non) (ds'.getD j .non)) item;have ev:(ax us.toArray.size).all (λj=>deq (ds.getD j .non) (ds'.getD j .non))=v6 ds ds':=by rw[X7,e1];exact Zr hl λj x y hx hy=>by rw[kj,kj,hx,hy];rfl
   rw[ev]at z;exact z X.prog X.w X.xe _ ⟨.bl (!v6 ds ds'),H,I,rfl,q⟩
  .have z:=SeqAt.RcNeAt.lists_lengths (A:=X.A) (s:=s) qs qs' (by simp[e1,e2,hl]) h0;rw[Ys hl]at q;exact z X.prog X.w X.xe _ ⟨.bl a6,H,I,rfl,q⟩
 |false =>
  rw[if_neg xm]at qs qs';have z:=SeqAt.RcNeAt.tuples (A:=X.A) (s:=s) qs qs' h0 (e:=λj=>deq (ds.getD j .non) (ds'.getD j .non)) item;have ev:((ax (min us.toArray.size us'.toArray.size)).all (λj=>deq (ds.getD j .non) (ds'.getD j .non))&&us.toArray.size==us'.toArray.size)=v6 ds ds':=by
   simp only[X7,e1,e2];by_cases hl:ds.length=ds'.length
   .rw[hl,l5,beq_self_eq_true,kq,<-hl];exact Zr hl λj x y hx hy=>by rw[kj,kj,hx,hy];rfl
   .rw[Ys hl,beq_false_of_ne hl,gn]
  rw[ev]at z;exact z X.prog X.w X.xe _ ⟨.bl (!v6 ds ds'),H,I,rfl,q⟩
noncomputable def eqW(X:Cx)(H:Hp)(d:D)(y:a8):Bool:=@decide (∃e v,e.dep<10000/\Enc X.K H e v/\RelV v y/\deq e d=a6) (dr _)
theorem j0x(I:Inv X pins σ H s){d e:D}{v:V}{y:a8}(he:e.dep<10000)(en:Enc X.K H e v)(r:RelV v y):eqW X H d y=deq e d:=by
 unfold eqW;cases h:deq e d with
 |true=>exact @decide_eq_true _ (dr _) ⟨e,v,he,en,r,h⟩
 |false =>refine @decide_eq_false _ (dr _) λ⟨e',v',he',en',r',h'⟩=>?_;rw[r'.inj r]at en';rw[Enc.inj I he' he en' en,h]at h';cases h'
theorem La(I:Inv X pins σ H s){d:D}:∀{ds:List D}{xs:List V}{us:List a8},D.depL ds<10000->j5 X.K H ds xs->Vals xs us->us.any (eqW X H d)=ds.any λe=>deq e d
 |[],_,_,_,h,r=>by cases h;cases r;rfl
 |e::ds,_,_,hd,⟨x,r,eq,h,l⟩,rv=>by
  subst eq;rw[D.depL]at hd;cases rv with
  |cons a b=>rw[dF,dF,La I nofun l b,j0x I nofun h a]
theorem Wf(I:Inv X pins σ H s){d:D}:∀{ds:List D}{xs:List V}{us:List a8},D.depL ds<10000->j5 X.K H ds xs->Vals xs us->us.countP (eqW X H d)=ds.countP λe=>deq e d
 |[],_,_,_,h,r=>by cases h;cases r;rfl
 |e::ds,_,_,hd,⟨x,r,eq,h,l⟩,rv=>by
  subst eq;rw[D.depL]at hd;cases rv with
  |cons a b=>rw[Xq,Xq,Wf I nofun l b,j0x I nofun h a]
theorem Us(I:Inv X pins σ H s){d:D}{v:V}{u:a8}(en:Enc X.K H d v)(r:RelV v u)(nd:d.dep<10000){n:Nat}(hu:A.units+n<aX):∀{ds:List D}{xs:List V}{us:List a8},D.depL ds<=n->j5 X.K H ds xs->Vals xs us->∀y∈us,d5 A s y u (eqW X H d y)
 |[],_,_,_,h,rv,y,hy=>by cases h;cases rv;cases hy
 |e::ds,_,_,hd,⟨x,r',eq,h,l⟩,rv,y,hy=>by
  subst eq;have hd':e.dep<=n/\D.depL ds<=n:=by simp[D.depL]at hd;omega
  cases rv with
  |cons a b =>
   rcases xn.mp hy with rfl|hy
   .have e9:(9900:Nat)=aX:=rfl;rw[j0x I nofun h a];exact(V2 I n A hd'.1 hu nd h a en r).2
   .exact Us I en r nd hu hd'.2 l b y hy
theorem j5q(hu:X.A.units+100<aX):OpR X (aR .In) (λx y H Q=>∃d ds k,Enc X.K H d x/\Enc X.K H (D.seq k ds) y/\D.depL ds<=98/\d.dep<10000/\Q (.bl (ds.any λe=>deq e d)) H):=by
 rintro pins s σ H x y v u Q I rx ry ⟨d,ds,k,en,en',hd,nd,q⟩;obtain⟨t,xs,e,sq,l⟩:=V9 en';subst e;cases ry;obtain⟨us,rv,qs,_⟩:=I.side sq;have me:=λy (hy:y∈us.toArray)=>Us (A:=X.A.in1) I en rx nd (n:=98) (by show X.A.units+1+98<aX;omega) hd l rv y (by simpa using hy);have ev:us.toArray.any (eqW X H d)=ds.any λe=>deq e d:=by rw[jH];exact La I nofun l rv
 unfold qt at qs;cases k with
 |true=>rw[if_pos rfl]at qs;exact SeqAt.in_listAt (eqW X H d) qs me (by rw[ev];exact⟨.bl _,H,I,rfl,q⟩)
 |false=>rw[if_neg xm]at qs;exact SeqAt.in_tupleAt (eqW X H d) qs me (by rw[ev];exact⟨.bl _,H,I,rfl,q⟩)
theorem Lz(hu:X.A.units+100<aX):OpR X (aR .NotIn) (λx y H Q=>∃d ds k,Enc X.K H d x/\Enc X.K H (D.seq k ds) y/\D.depL ds<=98/\d.dep<10000/\Q (.bl (!ds.any λe=>deq e d)) H):=by
 rintro pins s σ H x y v u Q I rx ry ⟨d,ds,k,en,en',hd,nd,q⟩;obtain⟨t,xs,e,sq,l⟩:=V9 en';subst e;cases ry;obtain⟨us,rv,qs,_⟩:=I.side sq;have me:=λy (hy:y∈us.toArray)=>Us (A:=X.A.in1) I en rx nd (n:=98) (by show X.A.units+1+98<aX;omega) hd l rv y (by simpa using hy);have ev:us.toArray.any (eqW X H d)=ds.any λe=>deq e d:=by rw[jH];exact La I nofun l rv
 unfold qt at qs;cases k with
 |true=>rw[if_pos rfl]at qs;exact SeqAt.notIn_listAt (eqW X H d) qs me (by rw[ev];exact⟨.bl _,H,I,rfl,q⟩)
 |false=>rw[if_neg xm]at qs;exact SeqAt.notIn_tupleAt (eqW X H d) qs me (by rw[ev];exact⟨.bl _,H,I,rfl,q⟩)
theorem j5v (hu:X.A.units+100<aX):MtR X "tuple.count" (λx vs H Q=>∃t xs ds d y,x=.ref t/\vs=[y]/\SqT X.K H t xs/\j5 X.K H ds xs/\Enc X.K H d y/\D.depL ds<=97/\d.dep<10000/\Q (.int (ds.countP λe=>deq e d)) H):=by
 rintro pins s σ H x vs v us Q I rx rv ⟨t,xs,ds,d,y,e,e',sq,l,en,hd,nd,q⟩;subst e e';cases rx;obtain⟨u,eu,ru⟩:=rv.one;subst eu;obtain⟨its,ri,⟨⟨cl,dd,da,sl⟩,h1,h2,n,h3⟩,_⟩:=I.tuple sq;have h2:cl=.type "tuple":=h2;have h3:da=.seq its.toArray n:=h3;subst h2 h3;refine cq gZ ⟨_,h1,rfl⟩ F.entry_tuple_count (F.args_tuple_count_2 _ _) (SeqAt.tuple_countAt t its.toArray n dd sl u (eqW X H d)) ⟨h1,λy hy=>Us (n:=97) I en ru nd (by show X.A.units+1+97<aX;omega) hd l ri y (by simpa using hy),?_⟩;have ev:(its.toArray.toList.countP (eqW X H d):Nat)=ds.countP λe=>deq e d:=by rw[eW];exact Wf I nofun l ri
 rw[ev];exact⟨.int _,H,I.tok _,⟨_,rfl⟩,q⟩
theorem j8b:OpR X (bj .Add) (λx y H Q=>∃a b xs ys,x=.ref a/\y=.ref b/\SqT X.K H a xs/\SqT X.K H b ys/\xs.length+ys.length<=ar /\
  (xs=[]->Q (.ref b) H)/\(xs≠[]->ys=[]->Q (.ref a) H)/\(xs≠[]->ys≠[]->∀p,H p=a7->Q (.ref p) (upd H p (.tup (xs++ys))))):=by
 rintro pins s σ H x y v u Q I rx ry ⟨a,b,xs,ys,e,e',sa,sb,hz,q1,q2,q3⟩;by_cases hx:xs=[]
 .subst e e' hx;cases rx;cases ry;obtain⟨us,ru,⟨⟨c1,d1,f1,g1⟩,h1,k1,n1,m1⟩,_⟩:=I.tuple sa;obtain⟨vs,rv,⟨⟨c2,d2,f2,g2⟩,h2,k2,n2,m2⟩,_⟩:=I.tuple sb;cases ru;have k1:c1=.type "tuple":=k1;have m1:f1=.seq ([]:List a8).toArray n1:=m1;have k2:c2=.type "tuple":=k2;have m2:f2=.seq vs.toArray n2:=m2;subst k1 m1 k2 m2;exact g9 ⟨_,h1,rfl⟩ ⟨_,h2,rfl⟩ gv iD dH dw (dm _ _)
   (tuple_addW0 a b ([]:List a8).toArray vs.toArray n1 n2 d1 d2 g1 g2 (by simp)) ⟨h1,h2,⟨.ref b,H,I,rfl,q1 rfl⟩⟩
 .exact jcf pins s σ H x y v u Q I rx ry ⟨a,b,xs,ys,e,e',sa,sb,hx,hz,q2 hx,q3 hx⟩
theorem all_range:∀bs:List Bool,(ax bs.length).all (λi=>(bs[i]?).getD a6)=bs.all id
 |[]=>rfl
 |b::bs=>by rw[X3,Td,gD,kH,gD,<-all_range bs];rfl
theorem j24 (hc:X.calm=a6):Jk X (.builtin "all") (λxs H Q=>∃(l:aa)(bs:List Bool),xs=[.ref l]/\SqL X.K H l (bs.map V.bl)/\Q (.bl (bs.all id)) H):=by
 rintro pins s σ H xs us Q I r ⟨l,bs,e,sq,q⟩;subst e;obtain⟨u,eu,ru⟩:=vals1 r;subst eu;cases ru;obtain⟨its,rv,pl,_⟩:=I.list sq;have hlt:l<s.heap.objs.size:=by obtain⟨_,_,e,_⟩:=pl;exact X4 e
 have hl:its.length=bs.length:=by rw[<-rv.length,xg]
 refine call_all_walk (b8 pl.isList ⟨s.heap.objs.size,[s.heap.objs.size,l],[s.heap.objs.size],its.toArray.size,_,_,λi=>(bs[i]?).getD a6,rfl,Walks.list (A:=X.A.in1) (I.ok.hd hc) _ _ (Xd hlt) its.toArray,⟨⟨_,xu _ rfl,rfl,rfl⟩,pl.isList.push _⟩,?_,λh' tk kp=>?_⟩)
 .intro i v s' Q' E' hv hq;have hi:i<its.length:=by have:=Array.getElem?_eq_some_iff.mp hv;obtain⟨h,_⟩:=this;simpa using h
  have hb:i<bs.length:=by omega
  obtain⟨w1,hw,rw1⟩:=rv.get (x:=.bl bs[i]) (i:=i) (by rw[X6,kh hb];rfl);have:its.toArray[i]?=a3 w1:=by simpa using hw
  rw[this]at hv;cases hv;cases rw1;simp only[kh hb,dE]at hq;exact b7 hq
 .have ev:(ax its.toArray.size).all (λi=>(bs[i]?).getD a6)=bs.all id:=by rw[X7,hl];exact all_range bs
  rw[ev];refine⟨.bl _,H,I.kept (t':=tk) λb o e=>kp b o ?_ (km _ e),rfl,q⟩;intro z;rw[xj.mp z]at e;exact Xz _ (X4 e)
end
section
variable{X:Cx}{ρ:Rho}{a b e:ao}{d d':D}{ds ds':List D}{i j:Int}{pos p p1 p2:aO}{k:Nat}{x:aj}{P:Po}
theorem DE.eqD(hu:X.A.units+100<aX)(ha:DT X ρ a d)(hb:DT X ρ b d')(hd:d.dep<=100)(nd:d'.dep<10000):DE X ρ (.Compare a [.Eq] [b] pos) (.bl (deq d d')):=λσ H Q R q =>(Jm (j5r hu) peS peS (za _)).to (ha σ H _ R λv H1 g1 e1=>hb σ H1 _ (R.grow g1) λu H2 g2 e2=>⟨d,d',e1.mono g2,e2,hd,nd,q _ H2 (g1.trans g2) rfl⟩)
theorem DB.eqD(hu:X.A.units+100<aX)(ha:DT X ρ a d)(hb:DT X ρ b d')(hd:d.dep<=100)(nd:d'.dep<10000):DB X ρ (.Compare a [.Eq] [b] pos) (deq d d'):=λσ H Q R q =>(Jl (j5r hu) peS peS (za _)).to (ha σ H _ R λv H1 g1 e1=>hb σ H1 _ (R.grow g1) λu H2 g2 e2=>⟨d,d',e1.mono g2,e2,hd,nd,_,rfl,q H2 (g1.trans g2)⟩)
theorem DB.neD(s:Bool)(hu:X.A.units+100<aX)(ha:DT X ρ a (D.seq s ds))(hb:DT X ρ b (D.seq s ds'))(hd:D.depL ds<=98)(nd:D.depL ds'<10000):DB X ρ (.Compare a [.NotEq] [b] pos) (!v6 ds ds'):=λσ H Q R q =>(Jl (j5p hu) peS peS (za _)).to (ha σ H _ R λv H1 g1 e1=>hb σ H1 _ (R.grow g1) λu H2 g2 e2=>⟨ds,ds',s,e1.mono g2,e2,hd,nd,_,rfl,q H2 (g1.trans g2)⟩)
theorem DB.notIn(s:Bool)(hu:X.A.units+100<aX)(ha:DT X ρ a d)(hb:DT X ρ b (D.seq s ds))(hd:D.depL ds<=98)(nd:d.dep<10000)(hm:aG .NotIn b=a4:=by with_unfolding_all rfl):DB X ρ (.Compare a [.NotIn] [b] pos) (!ds.any λe=>deq e d):=λσ H Q R q =>(Jl (Lz hu) peS peS hm).to (ha σ H _ R λv H1 g1 e1=>hb σ H1 _ (R.grow g1) λu H2 g2 e2=>⟨d,ds,s,e1.mono g2,e2,hd,nd,_,rfl,q H2 (g1.trans g2)⟩)
theorem DB.in(s:Bool)(hu:X.A.units+100<aX)(ha:DT X ρ a d)(hb:DT X ρ b (D.seq s ds))(hd:D.depL ds<=98)(nd:d.dep<10000)(hm:aG .In b=a4:=by with_unfolding_all rfl):DB X ρ (.Compare a [.In] [b] pos) (ds.any λe=>deq e d):=λσ H Q R q =>(Jl (j5q hu) peS peS hm).to (ha σ H _ R λv H1 g1 e1=>hb σ H1 _ (R.grow g1) λu H2 g2 e2=>⟨d,ds,s,e1.mono g2,e2,hd,nd,_,rfl,q H2 (g1.trans g2)⟩)
theorem DE.countT (hu:X.A.units+100<aX) (ha:DT X ρ a (.tup ds)) (hb:DT X ρ b d) (hd:D.depL ds<=97) (nd:d.dep<10000) (hbase:bf a "count" X.env (aA a X.env)=aA a X.env:=by rfl)
  (hfew:((aY p2 (a9 [b] X.env)).all (λx=>!x.1)&&(cH p2 (bD [] X.env)).all (λx=>x.1.isSome)
   && decide (([b]:List ao).length+([]:List bx).length+(if ([]:List bx).isEmpty then 0 else 1)<30))=a6:=by rfl) (hline:(p1.endLine==p2.line)=a6:=by rfl)
  (hs:a9 [b] X.env=(a4,aA b X.env)::a9 [] X.env:=by rfl):DE X ρ (.Call (.Attribute a "count" p1) [b] [] p2) (.int (ds.countP λe=>deq e d)):=λσ H Q R q =>
 (Nb PySem.F.plainAttrs_tuple gZ PySem.F.type_tuple_count (j5v hu) peS (jd peS jz hs) hbase hfew hline hs rfl).to (ha σ H _ R λv H1 g1 ⟨t,xs,e,sq,l⟩=>⟨by rw[e];exact .inr (.inl ⟨rfl,xs,sq⟩),hb σ H1 _ (R.grow g1) λu H2 g2 e2 =>
  ⟨t,xs,ds,d,u,e,rfl,g2.seqT sq,l.mono g2,e2,hd,nd,q _ H2 (g1.trans g2) rfl⟩⟩)
theorem DE.min (ha:DT X ρ a (.int i)) (hb:DT X ρ b (.int j)) (hm:X.mg "min" = a7) (hc:X.calm=a6:=by rfl) (hg:Gl X "min":=by rfl) (hs:a9 [a,b] X.env=(a4,aA a X.env)::a9 [b] X.env:=by rfl) (hs2:a9 [b] X.env=(a4,aA b X.env)::a9 [] X.env:=by rfl)
  (hpl:(aY pos (a9 [b] X.env)).any (·.1)=a4:=by rfl):DE X ρ (.Call (.Name "min" p) [a,b] [] pos) (.int (if j<i then j else i)):=λσ H Q R q =>
 (vm (j77 hc) hg hm i6 (jd peS (jd peS jz hs2) hs) (by decide) (by decide) hs hpl).to (ha σ H _ R λv H1 g1 e1=>hb σ H1 _ (R.grow g1) λu H2 g2 e2=>⟨i,j,by rw[show v=.int i from e1,show u=.int j from e2],q _ H2 (g1.trans g2) rfl⟩)
theorem Bc{K:k8m}{H:Hp}:∀{bs:List Bool}{xs:List V},j5 K H (bs.map D.bl) xs->xs=bs.map V.bl
 |[],_,h=>h
 |b::bs,_,⟨x,r,e,h,l⟩=>by subst e;cases(show x=.bl b from h);rw[Bc l];rfl
theorem DE.all {bs:List Bool} (ha:DT X ρ a (.lst (bs.map D.bl))) (hm:X.mg "all" = a7) (hc:X.calm=a6:=by rfl) (hg:Gl X "all":=by rfl) (hs:a9 [a] X.env=[(a4,aA a X.env)]:=by rfl):DE X ρ (.Call (.Name "all" p) [a] [] pos) (.bl (bs.all id)):=λσ H Q R q =>(vm (j24 hc) hg hm boot_all (jd peS jz hs) (by decide) (by decide) hs).to (ha σ H _ R λv H1 g1 ⟨l,xs,e,sq,en⟩=>⟨l,bs,by rw[e],by rw[Bc en]at sq;exact sq,q _ H1 g1 rfl⟩)
def jex(X:Cx)(e:Option ao):TO:=λσ H Q=>∀pins s,Inv X pins σ H s->aq (ay X.prog X.w) X.A (evalPart e X.env) (λu s'=>∃o H',Inv X pins σ H' s'/\fv u o/\Q o H') X.xe s
theorem poS{e:Option ao}:PO X e (jex X e):=λpins s σ H Q I h=>h pins s I
def DP(X:Cx)(ρ:Rho)(e:Option ao)(o:Option Int):Prop:=∀σ H Q,Rep X.K ρ σ H->(∀H',j0 H H'->Q o H')->jex X e σ H Q
theorem DP.none:DP X ρ a7 a7:=λσ H Q R q pins s I=>jc9 pins s σ H Q I (q H (j0.refl H))
theorem DP.some(h:DT X ρ e (.int i)):DP X ρ (a3 e) (a3 i):=λσ H Q R q pins s I=>jc8 peS pins s σ H Q I (h σ H _ R λv H1 g1 e1=>⟨i,e1,q H1 g1⟩)
variable{lo hi:Option ao}{l u:Option Int}
theorem DS.setItem(m:Nat){t:aa}{n:Nat}(hk:ρ[m]?=a3 (.own t ds))(he:DE X ρ e d)(hi:DT X ρ a (.int i))(hx:ixN ds.length i=a3 n)(h:P.nx (ρ.set m (.own t (ds.set n d))))
  (hN:X.N[m]?=a3 x:=by rfl) (hv:Vis X.env.scope x:=by first|exact bq rfl|exact bH (bq rfl)|exact bH (bH rfl)) (hd:(x==k8q)=a4:=by decide) (hcd:(x==k8r)=a4:=by decide)
  (ha:∀v,cX (.Subscript (.Name x p) a p1) X.env v=(do
   let ov <-bL [v] (aA (.Name x p) X.env)
   let iv <-bL [v,ov] (aA a X.env)
   g6 p1
   bL [v,ov,iv] (setItem ov iv v)
   release [v,ov,iv] []):=by intro _;rfl)
  (hs:dX [.Subscript (.Name x p) a p1] e pos.line X.env=pure a4:=by rfl) (hw:dY [.Subscript (.Name x p) a p1] e X.env=pure a7:=by rfl)
  (h1:(bF [.Subscript (.Name x p) a p1] X.env).map (·.2)=[cX (.Subscript (.Name x p) a p1) X.env]:=by rfl):DS X ρ (.Assign [.Subscript (.Name x p) a p1] e pos) P:=λσ H E R q=>by
 refine(j5b peS (jfl (Ql hN hv hd hcd) peS set_list ha) hs hw h1).to (he σ H _ R λv H1 g1 e1=>?_);obtain⟨hσ,xs,mm,en⟩:=(R.grow g1).own m t ds hk;refine⟨_,hσ,hi σ H1 _ (R.grow g1) λu H2 g2 e2=>⟨t,xs,i,n,rfl,e2,g2 _ _ mm,by rw[en.length];exact hx,?_⟩⟩;exact q.nx _ σ _ h ((R.grow (g1.trans g2)).upd_own hk ((en.mono (je g2)).set (e1.mono (je g2)))) (j0s (σ:=σ) hk (g1.trans g2))
end
def jer(K:k8m)(S:List D->List D->D->List D->Prop):Sp:=λvs H Q _=>∃(a:aa)(ds l:List D)(d:D)(l':List D)(ws xs:List V),vs=ws++[.ref a]/\TabOk K H/\H a=a3 (.lst xs)/\j5 K (del H [a]) l xs/\j5 K (del H [a]) ds ws/\S ds l d l' /\
 ∀v H' ys,j0 (del H [a]) (del H' [a])->H' a=a3 (.lst ys)->j5 K (del H' [a]) l' ys->Enc K (del H' [a]) d v->Q v H'
section
variable{X:Cx}{ρ ρ1:Rho}{e e1 e2 e3 c:ao}{st:bp}{rest sa:List bp}{a:aa}{d d1 d2 d3:D}{l l':List D}{k i:Nat}{x y f:aj}{p p1 p2 p3 p4 pos:aO}
end
noncomputable def j5d(eJ n:Int):Int:=if 0<n then n%60 else(eJ*48271+11)%2147483647/16
noncomputable def Om(eJ n:Int):Int:=if 0<n then n%60/6%2 else(eJ*48271+11)%2147483647/128%2
noncomputable def M4(n:Int):Int:=if 0<n then n/60 else n
noncomputable def U4:Nat->List aj->Int->Int->D×Int
 |0,_,eJ,n=>(.tup [.str "tell",.int (Om eJ n)],M4 n)
 |k+1,ws,eJ,n=>match ws[(j5d eJ n%ws.length).toNat]? with
  |none=>(.tup [.str "tell",.int (Om eJ n)],M4 n)
  |some y=>if j5d eJ n%6=0 then(.tup [.str "tell",.int (Om eJ n)],M4 n)
   else(.tup [.str "ask",.str y,(U4 k (ws.filter λz=>!(z==y)) ((eJ*48271+11)%2147483647*3+1) (M4 n)).1,
     (U4 k (ws.filter λz=>!(z==y)) ((eJ*48271+11)%2147483647*5+2) (U4 k (ws.filter λz=>!(z==y)) ((eJ*48271+11)%2147483647*3+1) (M4 n)).2).1],
    (U4 k (ws.filter λz=>!(z==y)) ((eJ*48271+11)%2147483647*5+2) (U4 k (ws.filter λz=>!(z==y)) ((eJ*48271+11)%2147483647*3+1) (M4 n)).2).2)
def jae(ds l:List D)(d:D)(l':List D):Prop:=∃(ws:List aj)(eJ n:Int)(k:Nat),ds=[.lst (ws.map D.str),.int eJ,.int k]/\l=[.int n]/\k<=5/\ws.length<=60/\d=(U4 k ws eJ n).1/\l'=[.int (U4 k ws eJ n).2]
section
variable{P:av}{w:az}{K:k8m}{mg:k8p}{base:aD}{x qual:aj}{st:bp}{f:aa}{fd:aQ}{N ps:List aj}{k:Nat}
end
def Fz(o:Option HO):Prop:=(∃xs,o=a3 (.lst xs))\/∃oc v,o=a3 (.frz oc (.own 0))/\oc.data=.cell v
theorem j6j{P:av}{w:az}{K:k8m}{mg:k8p}{base:aD}{A0:aC}{outer:List dS}{s:af}{H:Hp}{A:List aa}(e0:Env0 P w K mg base A0 outer s H)(hA:∀a∈A,Fz (H a)) :
  Env0 P w K mg base A0 outer s (del H A)/\∀(Q:VK)(E E':XK)(r:fm)(s':af),CR CX0 outer P w (del H A) s (λv F=>(∀a∈A,F a=a7)->Q v (mrg A H F)) E r s'->CR CX0 outer P w H s Q E' r s':=by
 have nd:∀{b:aa},H b=a7->del H A b=a7:=λ{b} q=>by
  by_cases z:b∈A
  .exact qy z
  .rw[j7 z];exact q
 have out:∀{b:aa}{o:HO},H b=a3 o->(∀ys,o≠.lst ys)->(∀oc v,o=.frz oc (.own 0)->oc.data≠.cell v)->b∉A:=λ{b o} q z z2 y=>by
  rcases hA b y with ⟨ys,e'⟩|⟨oc,v,e',d⟩
  .rw[q]at e';cases e';exact z ys rfl
  .rw[q]at e';cases e';exact z2 _ _ rfl d
 have e1:Env0 P w K mg base A0 outer s (del H A):=⟨e0.frames,e0.mod,λb o q=>⟨(e0.bs b o q).1,nd (e0.bs b o q).2⟩,e0.bsz,e0.funs,λb hb=>nd (e0.frf b hb),
  λa o q=>by
   obtain⟨_,q⟩:=of_del q
   exact jh.stay (e0.hok a o q) (λb u _ z=>z) (λb z=>by rw[j7 (out z (λ_ y=>by cases y) λ_ _ y=>by cases y)];exact z) (λb xs z=>by rw[j7 (out z (λ_ y=>by cases y) λ_ _ y=>by cases y)];exact z)
    (λb o ⟨vs,d⟩ z=>by rw[j7 (out z (λ_ y=>by cases y) λ_ _ y d'=>by cases y;rw[d]at d';cases d')];exact z),e0.bare⟩
 refine⟨e1,λQ E E' r s' hq=>?_⟩;cases r with
 |error e=>exact(show False from hq).elim
 |ok fl =>
  cases fl with
  |next=>exact(show False from hq).elim
  |brk=>exact(show False from hq).elim
  |cont=>exact(show False from hq).elim
  |ret u =>
   obtain⟨v,H',os,bare,un,hok',rel,q⟩:=(show CE outer P w (del H A) s _ u s' from hq)
   have kept:∀a∈A,∃o,s.heap.get? a=a3 o/\s'.heap.get? a=a3 o/\H' a=a7:=λa ha=>by
    have nf:a∉frs outer:=λy=>by have z:=e0.frf a y;rcases hA a ha with ⟨xs,e⟩|⟨oc,v,e,_⟩<;>(rw[z]at e;cases e)
    have ob:∃o,s.heap.get? a=a3 o:=by
     rcases hA a ha with ⟨xs,e⟩|⟨oc,v,e,_⟩
     .obtain⟨_,its,n,_,z⟩:=(show jh P w H s.heap a (.lst xs)from e0.hok _ _ e);exact⟨_,z⟩
     .exact⟨_,(show jh P w H s.heap a (.frz oc (.own 0))from e0.hok _ _ e).1⟩
    obtain⟨o,z⟩:=ob;exact⟨_,z,un.keep a _ z (qy ha) nf (by simp),un.free a _ z (qy ha) (by simp)⟩
   have hF:∀a∈A,H' a=a7:=λa ha=>let ⟨_,_,_,z⟩:=kept a ha;z;have outF:∀{b:aa}{o:HO},H' b=a3 o->b∉A:=λ{b o} e z=>by rw[hF b z]at e;cases e
   refine⟨v,mrg A H H',os,bare,?_,λa o e=>?_,rel,q hF⟩
   .exact{
     keep:=λb o e n=>un.keep b o e (nd n)
     slot:=λb o e n=>un.slot b o e (nd n)
     free:=λb o e n hx=>by
      by_cases z:b∈A
      .rw[Jb z];exact n
      .rw[jm z];exact un.free b o e (nd n) hx
     there:=un.there
     tups:=λb xs e=>by
      have z:=un.tups b xs (by rw[j7 (out e (λ_ y=>by cases y) λ_ _ y=>by cases y)];exact e)
      rw[jm (outF z)];exact z
     frzs:=λb o u e=>by
      by_cases y:b∈A
      .rw[Jb y];exact e
      .have z:=un.frzs b o u (by rw[j7 y];exact e)
       rw[jm y];exact z
     tbls:=λb ps e=>by
      obtain⟨more,z⟩:=un.tbls b ps (by rw[j7 (out e (λ_ y=>by cases y) λ_ _ y=>by cases y)];exact e)
      exact⟨more,by rw[jm (outF z)];exact z⟩ }
   .by_cases z:a∈A
    .rw[Jb z]at e;obtain⟨o',q1,q2,_⟩:=kept a z;rcases hA a z with ⟨xs,e'⟩|⟨oc,v,e',_⟩
     .rw[e']at e;cases e;obtain⟨hl,its,n,r,y⟩:=(show jh P w H s.heap a (.lst xs)from e0.hok _ _ e')
      rw[y]at q1;cases q1;exact⟨hl,its,n,r,q2⟩
     .rw[e']at e;cases e;have y:=(show jh P w H s.heap a (.frz oc (.own 0))from e0.hok _ _ e').1;rw[y]at q1;cases q1;exact⟨q2,_,q2⟩
    .rw[jm z]at e;refine jh.stay (hok' a o e) (λb u _ q=>q) (λb q=>?_) (λb xs q=>?_) (λb _ _ q=>?_)
     .rw[jm (outF q)];exact q
     .rw[jm (outF q)];exact q
     .rw[jm (outF q)];exact q
structure LamScope(N ps:List aj)(sc:br):Prop where
 kind:sc.kind=.function
 co:sc.isCoroutine=a4
 gen:sc.isGenerator=a4
 nd:N.Nodup
 nm:N=zy sc++ps
 lfr:∀x∈zy sc,sc.names.lookup x=a3 .free
 lps:∀x∈ps,sc.names.lookup x=a3 .local
 nocell:∀y∈sc.names,y.2≠.cell
 cov:∀x,sc.names.lookup x=a3 .free->x∈zy sc
noncomputable def Ua(P:av)(w:az)(K:k8m)(mg:k8p)(base:aD)(N:List aj)(qual:aj)(scope:br)(a:aa)(cd:a8)(cl:List (aj×aa))(A:aC)(outer:List dS)(s:af)(H:Hp):Cx where
 prog:=P
 w:=w
 K:=K
 mg:=mg
 base:=base
 A:=A.deeper (W.envX qual scope s.heap.objs.size a cd cl)
 N:=N
 s₀:=s
 H₀:=H
 env:=W.envX qual scope s.heap.objs.size a cd cl
 outer:=outer
 stack:=W.envX qual scope s.heap.objs.size a cd cl::outer
 ex:=[]
 calm:=a6
 fn:=λ_=>a4
 pn:=[]
 xe:=λ_ _=>False
def Jt(h:aD):List aa->List V->Prop
 |[],vs=>vs=[]
 |c::cs,vs=>∃v r u,vs=v::r/\h.IsCell c (a3 u)/\RelV v u/\Jt h cs r
theorem Jt.get{h:aD}:∀{cs:List aa}{vs:List V}{i:Nat}{v:V},Jt h cs vs->vs[i]?=a3 v->∃c u,cs[i]?=a3 c/\h.IsCell c (a3 u)/\RelV v u
 |[],_,i,v,e,q=>by cases e;simp at q
 |c::cs,_,0,v,⟨x,r,u,e,h1,h2,_⟩,q=>by subst e;simp at q;subst q;exact⟨c,u,rfl,h1,h2⟩
 |c::cs,_,i+1,v,⟨x,r,u,e,_,_,l⟩,q=>by subst e;obtain⟨c',u',z1,z2⟩:=Jt.get l (i:=i) (by simpa using q);exact⟨c',u',by simpa using z1,z2⟩
theorem Jt.length{h:aD}:∀{cs:List aa}{vs:List V},Jt h cs vs->vs.length=cs.length
 |[],_,e=>by cases e;rfl
 |c::cs,_,⟨x,r,u,e,_,_,l⟩=>by subst e;simp[l.length]
theorem Jt.all{h:aD}:∀{cs:List aa}{vs:List V},Jt h cs vs->∀c∈cs,∃v,h.IsCell c v
 |c::cs,_,⟨x,r,u,e,h1,_,l⟩,b,hb=>(xn.mp hb).elim (λz=>z▸⟨_,h1⟩) (l.all b)
theorem lookup_at{α:Type}:∀{l:List (aj×α)} {i:Nat} {p:aj×α},(l.map (·.1)).Nodup->l[i]?=a3 p->l.lookup p.1=a3 p.2
 |[],i,p,_,h=>by simp at h
 |q::l,0,p,_,h=>by simp at h;subst h;rw[Xl,beq_self_eq_true]
 |q::l,i+1,p,nd,h=>by rw[Xa]at nd;rw[dO]at h;have ne:(p.1==q.1)=a4:=beq_eq_false_iff_ne.mpr λz=>(Xn.mp nd).1 (z▸eX (Xr h));rw[Xl,ne];exact lookup_at (Xn.mp nd).2 h
theorem j40{ps:List aj}{us:List a8}{i:Nat}{p:aj}{u:a8}(nd:ps.Nodup)(hl:us.length=ps.length)(h1:ps[i]?=a3 p)(h2:us[i]?=a3 u):(ps.zip us).reverse.lookup p=a3 u:=by
 have hm:(p,u)∈(ps.zip us).reverse:=List.mem_reverse.mpr (Xr (i:=i) (by rw[List.getElem?_zip_eq_some];exact⟨h1,h2⟩));have e:((ps.zip us).reverse.map (·.1))=ps.reverse:=by rw[List.map_reverse,List.map_fst_zip nofun]
 obtain⟨j,hj⟩:=List.mem_iff_getElem?.mp hm;exact lookup_at (by rw[e];exact(List.reverse_perm ps).nodup_iff.mpr nd) hj
section
variable{P:av}{w:az}{K:k8m}{mg:k8p}{base:aD}{A:aC}{outer:List dS}{s:af}{H:Hp}{x:aj}{a c:aa}{tx:Tx}{cl:List (aj×aa)}{pm ctv:a8}{cvs vs:List V}{us:List a8}{N ps:List aj}{k:Nat}{Q:VK}{E:XK}
theorem jdb{h1:aD}{tk:Nat}(hh:A.handled=a7)(e0:Env0 P w K mg base A outer s H)(S:LamScope N ps tx.2.2)(hn:cl.map (·.1)=zy tx.2.2)(nd:(cl.map (·.2)).Nodup)(hc:Jt s.heap (cl.map (·.2)) cvs)(hf:∀q∈cl.map (·.2),H q=a7)(rv:Vals vs us)(hl:vs.length=ps.length)
  (ns:h1.Ns s.heap.objs.size λy=>(ps.zip us).reverse.lookup y) (kp:∀b o,s.heap.get? b=a3 o->h1.get? b=a3 o) :
  Inv (Ua P w K mg base N (jx x) tx.2.2 a (.ref c) cl A outer s H) [] (start N (cvs++vs)) H { s with heap:=h1,toks:=tk }:=by
 have ndN:(zy tx.2.2).Nodup:=by have:=S.nd;rw[S.nm]at this;exact(List.nodup_append.mp this).1
 have ndP:ps.Nodup:=by have:=S.nd;rw[S.nm]at this;exact(List.nodup_append.mp this).2.1
 have ndC:(cl.map (·.1)).Nodup:=by rw[hn];exact ndN
 have lenC:cvs.length=(zy tx.2.2).length:=by rw[hc.length,<-hn,xg,xg]
 have lenN:N.length=(cvs++vs).length:=by rw[S.nm,Xf,Xf,lenC,hl]
 have noA:∀b:aa,b∉(Ua P w K mg base N (jx x) tx.2.2 a (.ref c) cl A outer s H).ex:=λb z=>absurd (show b∈([]:List aa)from z) (by simp);have mem2:∀{y:aj}{q:aa},cl.lookup y=a3 q->q∈cl.map (·.2):=λ{y q} h=>xr.mpr ⟨(y,q),Px h,rfl⟩;have inj:∀(l:List (aj×aa)),(l.map (·.2)).Nodup->∀y z q,(y,q)∈l->(z,q)∈l->y=z:=λl=>by
  induction l with
  |nil=>intro _ y z q h;cases h
  |cons p r ih =>
   intro nd y z q h1 h2;rw[Xa]at nd;obtain⟨n1,n2⟩:=Xn.mp nd;rcases xn.mp h1 with e1|h1<;>rcases xn.mp h2 with e2|h2
   .rw[<-e1]at e2;cases e2;rfl
   .exact absurd (xr.mpr ⟨(z,q),h2,by rw[<-e1]⟩) n1
   .exact absurd (xr.mpr ⟨(y,q),h1,by rw[<-e2]⟩) n1
   .exact ih n2 y z q h1 h2
 refine⟨⟨e0.mod,S.kind,rfl,rfl,xx _,λy z q h1 h2=>inj cl nd y z q (Px h1) (Px h2),λy hy=>?_,λy q h=>(by cases h),λ_=>hh,Around.frames_deeper e0.frames,.inr ⟨rfl,rfl⟩,λb z=>absurd z (noA b),e0.bs,e0.bsz,λb _ _=>noA b,λb z=>absurd z (noA b),e0.funs,e0.frf⟩,
  rfl,e0.bare,Un.kept kp,⟨_,ns,λi y v h1 h2 h3=>?_⟩,λy q h=>?_,e0.hok.fresh (xx _),λy q h=>hf q (mem2 h),λp hp=>absurd (show p∈([]:k8o)from hp) (by simp),e0.hok.kept kp,?_⟩
 .have hy:tx.2.2.names.lookup y=a3 .cell\/tx.2.2.names.lookup y=a3 .free:=hy;rcases hy with hy|hy
  .exact absurd rfl (S.nocell _ (Px hy))
  .have m:=S.cov y hy;rw[<-hn]at m;obtain⟨p,hp,e⟩:=xr.mp m;obtain⟨i,hi⟩:=List.mem_iff_getElem?.mp hp;exact⟨p.2,by have:=lookup_at ndC hi;rw[e]at this;exact this⟩
 .have h1:N[i]?=a3 y:=h1;have hi:i<(cvs++vs).length:=by rw[<-lenN];exact(X8.mp h1).1
  have ha:(cvs++vs)[i]?=a3 v:=by
   unfold start at h2;rw[T4 (by simpa using hi),X6]at h2;cases e:(cvs++vs)[i]? with
   |none=>rw[e]at h2;cases h2
   |some a=>rw[e]at h2;cases h2;rfl
  rw[S.nm]at h1;by_cases z:i<cvs.length
  .rw[T4 z]at ha;rw[T4 nofun]at h1;obtain⟨q,u,e1,e2,r⟩:=hc.get ha;refine⟨u,r,.inr ⟨.inr (S.lfr y (Xr h1)),q,?_,e2.keeps kp⟩⟩;rw[<-hn,X6]at h1;rw[X6]at e1;obtain⟨p,hp,ep⟩:=Pb.mp h1;rw[hp]at e1;have:=lookup_at ndC hp;rw[ep]at this;show cl.lookup y=a3 q;rw[this];exact e1
  .rw[dh nofun]at ha h1;rw[<-lenC]at h1;obtain⟨u,hu,r⟩:=rv.get ha;exact⟨u,r,.inl ⟨S.lps y (Xr h1),j40 ndP (by rw[<-rv.length,hl]) h1 hu⟩⟩
 .obtain⟨v,z⟩:=hc.all q (mem2 h);exact⟨v,z.keeps kp⟩
 .unfold start;show _=N.length;rw[Xf,xg,ph];omega
theorem j8i (hr:Room (k+1) A) (e0:Env0 P w K mg base A outer s H) (ho:s.heap.get? a=a3 (W.kla_obj "<lambda>" (jx x) tx.1 tx.2.1 tx.2.2 cl pm c ctv)) (hcd:s.heap.CodeRec (.ref c) (jx x))
  (S:LamScope N ps tx.2.2) (hn:cl.map (·.1)=zy tx.2.2) (nd:(cl.map (·.2)).Nodup) (hc:Jt s.heap (cl.map (·.2)) cvs) (hf:∀q∈cl.map (·.2),H q=a7)
  (hb:fj (W.kla_fn "<lambda>" (jx x) tx.1 tx.2.1 tx.2.2 cl pm (.ref c) ctv) ⟨us,[]⟩=pure (ps.zip us)) (rv:Vals vs us) (hl:vs.length=ps.length)
  (body:Room k (Ua P w K mg base N (jx x) tx.2.2 a (.ref c) cl A outer s H).A->Qf (Ua P w K mg base N (jx x) tx.2.2 a (.ref c) cl A outer s H) tx.2.1 (start N (cvs++vs)) H Q) :
  c8 (ay P w) A (.call (.ref a) ⟨us,[]⟩) (CR CX0 outer P w H s Q E) s:=by
 have lim:s.heap.NoLimit:=e0.mod.nolimit.keeps λb o e=>(e0.bs b o e).1;refine W.kla_callFunE (by have:=hr.dp;omega) ho rfl S.co S.gen rfl hcd ?_;rw[hb];refine ah (wpAny_newFunctionEnv S.nocell (λy hy=>S.lps y.1 (eB (a:=y.1) (b:=y.2) hy).1) (λh1 ns sb=>⟨lim.fresh _ sb,?_⟩) S.kind);show c8 _ _ (.expr tx.2.1 (W.envX (jx x) tx.2.2 s.heap.objs.size a (.ref c) cl)) _ _;have kp:∀b o,s.heap.get? b=a3 o->h1.get? b=a3 o:=λb o e=>sb.extBut b o (Xd (X4 e)) (km _ e);have I:=jdb (x:=x) (a:=a) (c:=c) (tk:=s.toks+(ps.zip us).length) hr.hd e0 S hn nd hc hf rv hl ns kp;refine W.kla_codeExpr (bE (body (hr.deeper _) [] _ I) (λu s' ⟨v,H',J,r,q⟩=>?_) λ_ _ z=>z.elim);exact⟨v,H',J.os,J.bare,J.base,J.hok,r,q⟩
end
mutual
noncomputable def noFn:D->Bool
 |.fn _ _=>a4
 |.tup ds=>Ja ds
 |.lst ds=>Ja ds
 |.dct _ ds=>Ja ds
 |_=>a6
noncomputable def Ja:List D->Bool
 |[]=>a6
 |d::ds=>noFn d&&Ja ds
end
section
variable{K:k8m}{H:Hp}{A:List aa}
def Cel(H:Hp)(A:List aa):Prop:=∀a∈A,∃oc v,H a=a3 (.frz oc (.own 0))/\oc.data=.cell v
theorem Cel.out(hA:Cel H A){b:aa}{o:HO}(q:H b=a3 o)(h:∀oc,o≠.frz oc (.own 0)):del H A b=a3 o:=by rw[j7];exact q;intro y;obtain⟨oc,v,e,_⟩:=hA b y;rw[q]at e;exact h oc (aw e)
theorem Cel.seqT(hA:Cel H A){a:aa}{xs:List V}(h:SqT K H a xs):SqT K (del H A) a xs:=by
 rcases h with (h|⟨o,h⟩)|h
 .exact .inl (.inl (hA.out h λ_ z=>by cases z))
 .exact .inl (.inr ⟨o,hA.out h λ_ z=>by cases z⟩)
 .exact .inr h
theorem Cel.seq(hA:Cel H A){a:aa}{xs:List V}(h:SqL K H a xs):SqL K (del H A) a xs:=by
 rcases h with (h|⟨o,h⟩)|h
 .exact .inl (.inl (hA.out h λ_ z=>by cases z))
 .exact .inl (.inr ⟨o,hA.out h λ_ z=>by cases z⟩)
 .exact .inr h
mutual
theorem Enc.noc(hA:Cel H A):∀{d:D}{v:V},noFn d=a6->Enc K H d v->Enc K (del H A) d v
 |.non,_,_,h=>h
 |.bl _,_,_,h=>h
 |.int _,_,_,h=>h
 |.str _,_,_,h=>h
 |.tup _,_,n,⟨a,xs,e,q,l⟩=>⟨a,xs,e,hA.seqT q,j5.noc hA (by simpa [noFn]using n) l⟩
 |.lst _,_,n,⟨a,xs,e,q,l⟩=>⟨a,xs,e,hA.seq q,j5.noc hA (by simpa [noFn]using n) l⟩
 |.dct _ _,_,n,⟨a,xs,ep,vs,e,q,ek,kt,rv,l⟩=>⟨a,xs,ep,vs,e,hA.out q (λ_ z=>by cases z),ek,λx hx=>hA.seqT (kt x hx),rv,j5.noc hA (by simpa [noFn]using n) l⟩
 |.sct _,_,_,⟨a,e,q⟩=>⟨a,e,hA.out q λ_ z=>by cases z⟩
 |.fn _ _,_,n,_=>by cases n
theorem j5.noc(hA:Cel H A):∀{ds:List D}{xs:List V},Ja ds=a6->j5 K H ds xs->j5 K (del H A) ds xs
 |[],_,_,h=>h
 |d::ds,_,n,⟨x,r,e,h,l⟩=>by rw[Ja,Xg]at n;exact⟨x,r,e,Enc.noc hA n.1 h,j5.noc hA n.2 l⟩
end
theorem vg.cel:∀{cs:List aa}{vs:List V},vg H cs vs->Cel H cs
 |[],_,_=>λ_ h=>nomatch h
 |c::cs,_,⟨v,r,o,u,e,h,d,rv,l⟩=>λa ha=>(xn.mp ha).elim (λz=>⟨o,_,z▸h,d⟩) (l.cel a)
theorem vg.inn{P:av}{w:az}{h:aD}(ok:HOk P w H h):∀{cs:List aa}{vs:List V},vg H cs vs->Jt h cs vs
 |[],_,e=>e
 |c::cs,_,⟨v,r,o,u,e,q,d,rv,l⟩=>⟨v,r,u,e,⟨o,(show jh P w H h c (.frz o (.own 0))from ok _ _ q).1,d⟩,rv,l.inn ok⟩
theorem vg.of_del{B:List aa}:∀{cs:List aa}{vs:List V},vg (del H B) cs vs->vg H cs vs:=λh=>h.mono q9
theorem TabOk.fz(h:TabOk K H)(hA:∀a∈A,Fz (H a)):TabOk K (L2.del H A):=λx hx c P z=>by have q:=h x hx c P z;rw[j7];exact q;intro y;rcases hA _ y with ⟨xs,e⟩|⟨oc,v,e,_⟩<;>(rw[q]at e;cases e)
end
def Ed(P:av)(w:az)(K:k8m)(mg:k8p)(base:aD)(k:Nat)(x:aj)(S:List D->D->Prop):Prop :=
 ∀(A:aC)(outer:List dS)(s:af)(H:Hp)(a:aa)(B:List aa)(cs ds:List D) (d:D) (vs:List V) (us:List a8) (Q:VK) (E:XK),Room k A->Env0 P w K mg base A outer s H->TabOk K H->(∀b∈B,∃xs,H b=a3 (.lst xs)) ->
  Enc K (del H B) (.fn x cs) (.ref a)->j5 K (del H B) ds vs->Ja ds=a6->S (cs++ds) d->Vals vs us->(∀v H',j0 H H'->Enc K (del H' B) d v->Q v H')->c8 (ay P w) A (.call (.ref a) ⟨us,[]⟩) (CR CX0 outer P w H s Q E) s
section
variable{P:av}{w:az}{K:k8m}{mg:k8p}{base:aD}{k:Nat}{x:aj}{S:List D->D->Prop}{tx:Tx}{N ps:List aj}
theorem jgg(ht:Qt K x=a3 tx)(Sc:LamScope N ps tx.2.2)(hl:∀ds d,S ds d->ds.length=N.length)
  (hb:∀(cl:List (aj×aa)) (pm:a8) (c:aa) (ctv:a8) (us:List a8),us.length=ps.length->fj (W.kla_fn "<lambda>" (jx x) tx.1 tx.2.1 tx.2.2 cl pm (.ref c) ctv) ⟨us,[]⟩=pure (ps.zip us))
  (hbody:∀(a c:aa)(cl:List (aj×aa)) (A:aC) (outer:List dS) (s:af) (H:Hp),cl.map (·.1)=zy tx.2.2->Room k (Ua P w K mg base N (jx x) tx.2.2 a (.ref c) cl A outer s H).A->∀ds d,S ds d->DT (Ua P w K mg base N (jx x) tx.2.2 a (.ref c) cl A outer s H) (qw N ds) tx.2.1 d):Ed P w K mg base (k+1) x S:=by
 intro A outer s H a B cs ds d vs us Q E hr e0 tb hB en ea nf hS rv q;obtain⟨a',c,tx',cl,cvs,e,L,l⟩:=en;cases e;have et:tx'=tx:=aw (L.tx.symm.trans ht);subst et;have cs_at:vg H (cl.map (·.2)) cvs:=L.cs.of_del;have hA:∀b∈B++cl.map (·.2),Fz (H b):=λb hb=>(Xy.mp hb).elim (λz=>.inl (hB b z)) λz=>.inr (cs_at.cel b z);obtain⟨e1,back⟩:=j6j e0 hA;obtain⟨pm,ctv,hfo⟩:=L.fo;obtain⟨oc,hco,vs0,t0,hd0,hv0⟩:=L.co;have ho:=(show jh P w H s.heap a (.frz _ (.own 0))from e0.hok _ _ (of_del hfo).2).1;have hcd:s.heap.CodeRec (.ref c) (jx x):=⟨c,oc,vs0,t0,rfl,(show jh P w H s.heap c (.frz oc (.own 0))from e0.hok _ _ (of_del hco).2).1,hd0,hv0⟩
 have ll:=l.length;have la:=ea.length;have hlen:=hl _ _ hS;have lenC:(cl.map (·.2)).length=(zy tx'.2.2).length:=by rw[<-L.nm,xg,xg]
 have lcv:=(cs_at.inn e0.hok).length;have hlv:vs.length=ps.length:=by rw[Sc.nm,Xf,Xf]at hlen;omega
 have celB:Cel (del H B) (cl.map (·.2)):=L.cs.cel;have ea1:j5 K (del H (B++cl.map (·.2))) ds vs:=by rw[<-Zk];exact ea.noc celB nf
 have l1:j5 K (del H (B++cl.map (·.2))) cs cvs:=by rw[<-Zk];exact l
 refine bB (j8i (E:=E) (Q:=λv F=>(∀a∈B++cl.map (·.2),F a=a7)->Q v (mrg (B++cl.map (·.2)) H F)) hr e1 ho hcd Sc L.nm L.nd (cs_at.inn e0.hok) (λb hb=>qy (Xb _ hb)) (hb cl pm c ctv us (by rw[<-rv.length];exact hlv)) rv hlv λhrm=>?_) λr s' h=>back Q E E r s' h;refine hbody a c cl A outer s _ L.nm hrm (cs++ds) d hS _ _ _ (U0 (tb.fz hA) (l1.append ea1)) λv F g en' hF=>q v _ (Og g) (en'.mono λb o z=>?_);have nb:b∉B++cl.map (·.2):=λy=>by rw[hF b y]at z;cases z
 rw[j7 (λy=>nb (Xv _ y)),jm nb];exact z
end
section
variable{X:Cx}{ρ:Rho}{e:ao}{es:List ao}{d:D}{cs ds:List D}{pos p:aO}{x y:aj}{i k:Nat}
theorem DE.callV {S:List D->D->Prop} (c:Ed X.prog X.w X.K X.mg X.base k x S) (hr:Room k X.A) (hi:ρ[i]?=a3 (.val (.fn x cs))) (ha:DA X ρ (e::es) ds) (nf:Ja ds=a6) (hS:S (cs++ds) d) (hN:X.N[i]?=a3 y) (hv:Vis X.env.scope y) (hd:(y==k8q)=a4) (hcd:(y==k8r)=a4)
  (he:a9 (e::es) X.env=(a4,aA e X.env)::a9 es X.env) (hpl:(aY pos (a9 es X.env)).any (·.1)=a4):DE X ρ (.Call (.Name y p) (e::es) [] pos) d:=λσ H Q R q pins s I=>by
 obtain⟨v,hσ,en⟩:=R.val i _ hi;obtain⟨a,c0,tx,cl,cvs,ev,L,l⟩:=id en;subst ev;refine aF (thn (Ql hN hv hd hcd pins s σ H (λv' H'=>v'=.ref a/\H'=H) I ⟨_,hσ,rfl,rfl⟩) λu s1 ⟨v',H',I1,r1,e1,e2⟩=>?_);subst e1 e2;cases(show u=aB a from r1);obtain⟨pm,ctv,hfo⟩:=L.fo;have fnAt:∀{H2:Hp}{s2:af},Inv X pins σ H2 s2->j0 H' H2->PySem.W.FnAt a s2.heap:=λ{H2 s2} I2 g=>⟨_,_,_,_,(show jh X.prog X.w H2 s2.heap a (.frz _ (.own 0))from I2.hok _ _ (g _ _ (of_del hfo).2)).1⟩
 refine W.callWith_F (fnAt I1 (j0.refl _)) (thn (ha σ H' (λvs H2=>j0 H' H2/\j5 X.K (del H2 (owns ρ)) ds vs) R (λvs H2 g z=>⟨g,z⟩) pos pins s1 I1) λus s2 ⟨vs,H2,I2,rv,g,ea⟩=>⟨fnAt I2 g,?_⟩) he hpl;refine eR (bB (c X.A X.stack s2 H2 a (owns ρ) cs ds d vs us Q E0 hr I2.env0 (R.tb.mono g) (R.grow g).owned (en.mono (je g)) ea nf hS rv λv H3 g3 z=>q v H3 (g.trans g3) z) λr s' hq=>?_);cases r with
 |error e=>exact(show False from hq).elim
 |ok fl =>
  cases fl with
  |ret u=>exact I2.after hq
  |next=>exact(show False from hq).elim
  |brk=>exact(show False from hq).elim
  |cont=>exact(show False from hq).elim
end
theorem Fq{pos:aO}{c cv:a8}{a b:Int}:∀(l:List a8),TriplesOk l->fF pos (l++[dZ a,dZ b,c])=a3 cv->fF pos l=a3 cv\/cv=c
 |[],_,h=>by
  simp only[cV,dZ,fF]at h;split at h
  .exact .inr (aw h).symm
  .cases h
 |.int i t::.int j u::x::r,ht,h=>by
  simp only[dQ,fF]at h ⊢;split at h
  .rename_i z;rw[if_pos z];exact .inl h
  .rename_i z;rw[if_neg z];exact Fq r ht h
section
variable{X:Cx}{pins:k8o}{σ:St}{H:Hp}{s:af}
theorem Inv.madeL{q:aj}{P:aa}{h2:aD}{tk:Nat}{H2:Hp}(I:Inv X pins σ H s)(hP:H P=a3 (.cod q))(g:j0 H H2)(kp:∀b o,b≠P->s.heap.get? b=a3 o->h2.get? b=a3 o)
  (new:∀b o,H2 b=a3 o->H b=a3 o\/(s.heap.objs.size<=b/\jh X.prog X.w H2 h2 b o)) (okP:jh X.prog X.w H2 h2 P (.cod q)):Inv X pins σ H2 { s with heap:=h2,toks:=tk }:=by
 have nP:∀{b:aa},H b=a7->b≠P:=λ{b} n z=>by rw[z,hP]at n;cases n
 have nO:∀{b:aa}{u:HO},H b=a3 u->(∀q,u≠.cod q)->b≠P:=λ{b u} e n z=>by rw[z,hP]at e;cases e;exact n _ rfl
 refine I.un (H':=H2) (h':=h2) (t':=tk) ⟨λb o e n _ _=>kp b o (nP n) e,λb o e n _ _=>⟨o.slots,kp b o (nP n) e⟩,λb o e n _=>?_,λb o e _=>?_,λb xs e=>g _ _ e,λb o u e=>g _ _ e,λb ps e=>⟨#[],by rw[g _ _ e];simp⟩⟩ λb o e=>?_
 .cases z:H2 b with
  |none=>rfl
  |some u =>
   rcases new b u z with y|⟨y,_⟩
   .rw[n]at y;cases y
   .exact absurd (Xi (X4 e) y) (Xz _)
 .by_cases z:b=P
  .obtain⟨ps,y,_⟩:=okP;exact⟨_,by rw[z];exact y⟩
  .exact⟨o,kp b o z e⟩
 .rcases new b o e with y|⟨_,y⟩
  .by_cases z:b=P
   .subst z;rw[hP]at y;cases y;exact okP
   .exact(I.hok b o y).stay (λc u hc r=>kp c u (hc.elim (λe=>e▸z) λe=>nO e λ_ z=>by cases z) r) (λ_ r=>g _ _ r) (λ_ _ r=>g _ _ r) λ_ _ _ r=>g _ _ r
  .exact y
structure LMk(X:Cx)(x:aj):Prop where
 mem:x∈Zn
 qual:X.env.qual=x ++ ".<locals>."
 code:∃c P,X.env.code=.ref c/\W.codeHdIn X.K c P=a6/\W.tabIn X.K x=a3 (c,P)
def jlb(X:Cx)(x:aj)(params:dC)(body:ao)(scope:br)(cl:List (aj×aa)):TE:=λ_ H Q=>TabOk X.K H/\∀(f c:aa)(oc:dz)(pm ctv:a8)(H2:Hp),j0 H H2->H f=a7->H2 f=a3 (.frz (W.kla_obj "<lambda>" (jx x) params body scope cl pm c ctv) (.own 0)) ->
 H2 c=a3 (.frz oc (.own 0))->Mv oc (jx x)->Q (.ref f) H2
theorem j5m{x:aj}{params:dC}{body:ao}{scope:br}{cl:List (aj×aa)}{pos:aO}(M:LMk X x)(hdef:fT params X.env=([],[]))(hcl:dJ scope X.env=pure cl):PE X (.Lambda params body scope pos) (jlb X x params body scope cl):=by
 rintro pins s σ H Q I ⟨tb,h⟩;obtain⟨c,P,hc,hd,ht⟩:=M.code;have hP:=tb x M.mem c P ht;have C:iN s.heap c P:=W.codeHd_of_K I.kIn hd;obtain⟨ps,hps,htr,hcod⟩:=(show jh X.prog X.w H s.heap P (.cod (jx x))from I.hok _ _ hP)
 have hns:=I.mod.glob.keeps I.bk;have hgP:au≠P:=λz=>by obtain⟨o,es,ep,e,d,_⟩:=hns;rw[z,hps]at e;cases e;cases d
 have hbP:s.heap.BuiltinsAt X.mg P:=by
  obtain⟨bm,ob,b1,b2,b3,b4,b5,b6⟩:=I.mod.bm;have b3':=I.bk _ _ b3;refine⟨bm,ob,b1,b2,λz=>?_,λz=>?_,b3',b4,b5,b6⟩
  .obtain⟨o,es,ep,e,d,_⟩:=hns;rw[z,e]at b3';cases b3';rw[d]at b6;cases b6
  .rw[z,hps]at b3';cases b3';cases b4
 have hq:X.env.qual ++ "<lambda>" = jx x:=by rw[M.qual];rfl
 refine W.kla_eval hdef ?_;rw[hq];cases e:fF pos ps.toList with
 |none =>
  refine W.kla_makeFunction hcl I.ok.glob hns hc C hps htr e hgP hbP λc' ctv h' tk hx hge hlt hrec htb=>?_;obtain⟨c2,oc,vs,t,ec,hoc,hdt,hv⟩:=hrec;cases ec;have hsz:s.heap.objs.size<=h'.objs.size:=d9 (cD hge hlt);have n1:H c'=a7:=I.hok.fresh hge;have n2:H h'.objs.size=a7:=I.hok.fresh hsz;have ne:c'≠h'.objs.size:=Xd hlt;have hne:∀{b:aa}{u:HO},H b=a3 u->b≠c'/\b≠h'.objs.size:=λz=>⟨v8 z n1,v8 z n2⟩
  have g:∀fo:HO,j0 H (upd (upd H c' (.frz oc (.own 0))) h'.objs.size fo):=λfo b u z=>by rw[jk (hne z).2,jk (hne z).1];exact z
  have h2c:∀fo:HO,upd (upd H c' (.frz oc (.own 0))) h'.objs.size fo c'=a3 (.frz oc (.own 0)):=λfo=>by rw[jk ne,jc]
  refine⟨.ref h'.objs.size,_,I.madeL (P:=P) (q:=jx x) (H2:=upd (upd H c' (.frz oc (.own 0))) h'.objs.size (.frz (W.kla_obj "<lambda>" (jx x) params body scope cl ((X.mg "__name__").getD .none) c' ctv) (.own 0))) hP (g _)
   (λb o nb z=>km _ (hx b o nb z)) (λb o z=>?_) ?_,rfl,h _ c' oc _ ctv _ (g _) n2 jc (h2c _) ⟨vs,t,hdt,hv⟩⟩
  .by_cases z1:b=h'.objs.size
   .subst z1;rw[jc]at z;cases z;exact .inr ⟨hsz,xu _ rfl,_,xu _ rfl⟩
   .rw[jk z1]at z;by_cases z2:b=c'
    .subst z2;rw[jc]at z;cases z;exact .inr ⟨hge,km _ hoc,_,km _ hoc⟩
    .rw[jk z2]at z;exact .inl z
  .refine⟨_,km _ htb,by rw[Tj];exact TriplesOk_snoc _ _ _ _ htr,λpos' cv z=>?_⟩;rw[Tj]at z;rcases Fq ps.toList htr z with z|z
   .obtain⟨c3,oc3,e1,e2,e3⟩:=hcod pos' cv z;exact⟨c3,oc3,e1,g _ _ _ e2,e3⟩
   .exact⟨c',oc,z,h2c _,vs,t,hdt,hv⟩
 |some cv =>
  obtain⟨c',oc,ec,h1,h2⟩:=hcod pos cv e;subst ec;refine W.kla_makeFunctionHit hcl I.ok.glob hns hc C hps htr e hbP λctv h' tk hk hsz=>?_;have n2:H h'.objs.size=a7:=I.hok.fresh hsz;have g:∀fo:HO,j0 H (upd H h'.objs.size fo):=λfo=>j8 n2;refine⟨.ref h'.objs.size,_,I.madeL (P:=P) (q:=jx x) (H2:=upd H h'.objs.size (.frz (W.kla_obj "<lambda>" (jx x) params body scope cl ((X.mg "__name__").getD .none) c' ctv) (.own 0))) hP (g _)
   (λb o _ z=>km _ (hk b o z)) (λb o z=>?_) ?_,rfl,h _ c' oc _ ctv _ (g _) n2 jc (g _ _ _ h1) h2⟩
  .by_cases z1:b=h'.objs.size
   .subst z1;rw[jc]at z;cases z;exact .inr ⟨hsz,xu _ rfl,_,xu _ rfl⟩
   .rw[jk z1]at z;exact .inl z
  .refine⟨ps,km _ (hk _ _ hps),htr,λpos' cv z=>?_⟩;obtain⟨c3,oc3,e1,e2,e3⟩:=hcod pos' cv z;exact⟨c3,oc3,e1,g _ _ _ e2,e3⟩
noncomputable def plus(H:Hp)(h:aD)(cs:List aa):Hp:=λb=>if b∈cs then(h.get? b).map λo=>.frz o (.own 0)else H b
theorem M3{h:aD}{cs:List aa}{b:aa}{o:dz}(hb:b∈cs)(e:h.get? b=a3 o):plus H h cs b=a3 (.frz o (.own 0)):=by unfold plus;rw[if_pos hb,e];rfl
theorem Jy{h:aD}{cs:List aa}{b:aa}(hb:b∉cs):plus H h cs b=H b:=if_neg hb
def Own(X:Cx)(cs:List aa):Prop:=∀c∈cs,∃y,X.env.cells.lookup y=a3 c/\X.fn y=a6
theorem Own.obj{cs:List aa}(I:Inv X pins σ H s)(hc:Own X cs){c:aa}(h:c∈cs):∃o v,s.heap.get? c=a3 o/\o.data=.cell v/\H c=a7/\X.s₀.heap.objs.size<=c/\c≠X.env.locals:=by obtain⟨y,e,f⟩:=hc c h;obtain⟨v,o,e1,e2⟩:=I.cell y c e;exact⟨o,v,e1,e2,I.freeC y c e,I.ok.cab y c f e,I.cne y c e⟩
theorem U3{cs:List aa}(I:Inv X pins σ H s)(hc:Own X cs):j0 H (plus H s.heap cs):=λb o e=>by rw[Jy];exact e;intro z;obtain⟨_,_,_,_,n,_⟩:=hc.obj I z;rw[n]at e;cases e
theorem Inv.plus{cs:List aa}(I:Inv X pins σ H s)(hc:Own X cs) :
  Env0 X.prog X.w X.K X.mg X.base X.A X.stack s (plus H s.heap cs)/\∀(Q:VK)(u:a8)(s':af),CE X.stack X.prog X.w (L2.plus H s.heap cs) s (λv H'=>Cel H' cs->Q v (del H' cs)) u s'->EP X pins σ Q u s':=by
 have e0:=I.env0;have nb:∀{b:aa}{u:HO},H b=a3 u->b∉cs:=λ{b u} e z=>by obtain⟨_,_,_,_,n,_⟩:=hc.obj I z;rw[n]at e;cases e
 have nf:∀b∈frs X.stack,b∉cs:=λb hb z=>by
  obtain⟨o,v,e1,e2,n,hge,hl⟩:=hc.obj I z;rcases xn.mp (I.stkSub b hb)with y|y
  .exact hl y
  .obtain⟨_,o',ho,_⟩:=I.ok.funs.mem y;exact absurd (Xi (X4 ho) hge) (Xz _)
 have g:=U3 I hc;refine⟨⟨e0.frames,e0.mod,λb o e=>⟨(e0.bs b o e).1,?_⟩,e0.bsz,e0.funs,λb hb=>by rw[Jy (nf b hb)];exact e0.frf b hb,λb o e=>?_,e0.bare⟩,λQ u s' hq=>?_⟩
 .rw[Jy];exact(e0.bs b o e).2;intro z;obtain⟨_,_,_,_,_,hge,_⟩:=hc.obj I z;exact absurd (Xi (X4 e) (Xj I.ok.bsz hge)) (Xz _)
 .by_cases z:b∈cs
  .obtain⟨oc,v,e1,_⟩:=hc.obj I z;rw[M3 z e1]at e;cases e;exact⟨e1,_,e1⟩
  .rw[Jy z]at e;exact(I.hok b o e).stay (λ_ _ _ r=>r) (λ_ r=>g _ _ r) (λ_ _ r=>g _ _ r) λ_ _ _ r=>g _ _ r
 .obtain⟨v,H',os,bare,un,hok',rel,q⟩:=hq;have cel:∀c∈cs,∃o v,s.heap.get? c=a3 o/\o.data=.cell v/\H' c=a3 (.frz o (.own 0))/\s'.heap.get? c=a3 o:=λc hcs=>by obtain⟨o,v,e1,e2,_⟩:=hc.obj I hcs;have z:=un.frzs c o _ (M3 hcs e1);exact⟨o,v,e1,e2,z,(show jh X.prog X.w H' s'.heap c (.frz o (.own 0))from hok' _ _ z).1⟩
  have hC:Cel H' cs:=λc hcs=>let ⟨o,v,_,e2,e3,_⟩:=cel c hcs;⟨o,v,e3,e2⟩;have nb':∀{b:aa}{u:HO},H' b=a3 u->(∀oc v,u=.frz oc (.own 0)->oc.data≠.cell v)->del H' cs b=a3 u:=λ{b u} e n=>by rw[j7];exact e;intro z;obtain⟨o,v,_,e2,e3,_⟩:=cel b z;rw[e]at e3;cases e3;exact n _ _ rfl e2
  refine⟨v,del H' cs,I.call' (ch:=[]) os ⟨λb o e n hb hx=>?_,λb o e n hb hx=>?_,λb o e n hx=>?_,un.there,λb xs e=>?_,λb o u e=>?_,λb ps e=>?_⟩ (λb o e=>?_) bare (λb z=>absurd z (by simp)),rel,q hC⟩
  .by_cases z:b∈cs
   .obtain⟨o',v',e1,_,_,e4⟩:=cel b z;rw[e]at e1;cases e1;exact e4
   .exact un.keep b o e (by rw[Jy z];exact n) hb hx
  .exact un.slot b o e (by rw[Jy (nf b hb)];exact n) hb hx
  .by_cases z:b∈cs
   .exact qy z
   .rw[j7 z];exact un.free b o e (by rw[Jy z];exact n) hx
  .have z:=un.tups b xs (g _ _ e);exact nb' z λ_ _ y=>by cases y
  .have z:=un.frzs b o u (g _ _ e);rw[j7 (nb e)];exact z
  .obtain⟨m,z⟩:=un.tbls b ps (g _ _ e);exact⟨m,nb' z λ_ _ y=>by cases y⟩
  .obtain⟨n,e⟩:=of_del e;exact(hok' b o e).stay (λ_ _ _ r=>r) (λ_ r=>nb' r λ_ _ y=>by cases y) (λ_ _ r=>nb' r λ_ _ y=>by cases y) λ_ _ ⟨vs,d⟩ r=>nb' r λ_ _ y d'=>by cases y;rw[d]at d';cases d'
end
def Zj(X:Cx)(ρ:Rho):List (aj×aa)->List D->Prop
 |[],ds=>ds=[]
 |p::cl,ds=>∃(d:D)(r:List D)(i:Nat),ds=d::r/\X.N[i]?=a3 p.1/\X.env.scope.names.lookup p.1=a3 .cell/\X.env.cells.lookup p.1=a3 p.2/\X.fn p.1=a6/\ρ[i]?=a3 (.val d)/\Zj X ρ cl r
section
variable{X:Cx}{pins:k8o}{σ:St}{H H2:Hp}{s s2:af}{ρ:Rho}
theorem Zj.own:∀{cl:List (aj×aa)} {ds:List D},Zj X ρ cl ds->Own X (cl.map (·.2))
 |[],_,_=>λ_ h=>nomatch h
 |p::cl,_,⟨d,r,i,e,h1,h2,h3,h4,h5,l⟩=>λc hc=>(xn.mp hc).elim (λz=>⟨p.1,by rw[z];exact h3,h4⟩) (Zj.own l c)
theorem Zj.look:∀{cl:List (aj×aa)} {ds:List D},Zj X ρ cl ds->∀p∈cl,X.env.cells.lookup p.1=a3 p.2
 |p::cl,_,⟨d,r,i,e,h1,h2,h3,h4,h5,l⟩,q,hq=>(xn.mp hq).elim (λz=>z▸h3) (Zj.look l q)
theorem Zj.cells(I2:Inv X pins σ H2 s2)(R:Rep X.K ρ σ H){cs:List aa}(hg:j0 (del H (owns ρ)) (del (plus H2 s2.heap cs) cs)):∀{cl:List (aj×aa)} {ds:List D},Zj X ρ cl ds->(∀c∈cl.map (·.2),c∈cs) ->
  ∃vs,vg (plus H2 s2.heap cs) (cl.map (·.2)) vs/\j5 X.K (del (plus H2 s2.heap cs) cs) ds vs
 |[],_,h,_=>by cases h;exact⟨[],rfl,rfl⟩
 |p::cl,_,⟨d,r,i,e,h1,h2,h3,h4,h5,l⟩,hm=>by
  subst e;obtain⟨vs,q1,q2⟩:=Zj.cells I2 R hg l λc hc=>hm c (xf _ hc);obtain⟨v,hv,en⟩:=R.val i d h5;obtain⟨m,hn,hl⟩:=I2.loc;obtain⟨u,r,lk⟩:=hl i p.1 v h1 hv (.inr (.inl h2));rcases lk with ⟨k,_⟩|⟨_,c,e,o,ho,hd⟩
  .have k:X.env.scope.names.lookup p.1=a3 .local:=k;rw[h2]at k;cases k
  .rw[h3]at e;cases e;exact⟨v::vs,⟨v,vs,o,u,rfl,M3 (hm _ (xq ..)) ho,hd,r,q1⟩,v,vs,rfl,en.mono hg,q2⟩
theorem j1w{cl:List (aj×aa)}{ds:List D}(ok:X.Ok)(h:Zj X ρ cl ds)(nd:(cl.map (·.1)).Nodup):(cl.map (·.2)).Nodup:=by
 have lk:=h.look;clear h;induction cl with
 |nil=>exact eO
 |cons p r ih =>rw[Xa]at nd ⊢;obtain⟨n1,n2⟩:=Xn.mp nd;refine Xn.mpr ⟨λz=>?_,ih n2 λq hq=>lk q (xf _ hq)⟩;obtain⟨q,hq,e⟩:=xr.mp z;have:=ok.inj p.1 q.1 p.2 (lk p (xq ..)) (by rw[<-e];exact lk q (xf _ hq));exact n1 (this▸eX hq)
theorem j6m{x:aj}{tx:Tx}{cl:List (aj×aa)}{ds:List D}{f c:aa}{oc:dz}{pm ctv:a8}(ht:Qt X.K x=a3 tx)(hn:cl.map (·.1)=zy tx.2.2)(nd:(zy tx.2.2).Nodup)(hc:Zj X ρ cl ds)(I2:Inv X pins σ H2 s2)(R:Rep X.K ρ σ H)(g:j0 H H2)
  (hf:H2 f=a3 (.frz (W.kla_obj "<lambda>" (jx x) tx.1 tx.2.1 tx.2.2 cl pm c ctv) (.own 0))) (ho:H2 c=a3 (.frz oc (.own 0))) (hq:Mv oc (jx x)):Enc X.K (plus H2 s2.heap (cl.map (·.2))) (.fn x ds) (.ref f):=by
 have pg:=U3 I2 hc.own;have hg:j0 (del H (owns ρ)) (del (plus H2 s2.heap (cl.map (·.2))) (cl.map (·.2))):=λb o e=>by
  have e2:=g _ _ (of_del e).2;have nb:b∉cl.map (·.2):=λz=>by obtain⟨_,_,_,_,n,_⟩:=hc.own.obj I2 z;rw[n]at e2;cases e2
  rw[j7 nb,Jy nb];exact e2
 obtain⟨vs,q1,q2⟩:=hc.cells I2 R hg λ_ z=>z;exact⟨f,c,tx,cl,vs,rfl,⟨ht,⟨pm,ctv,pg _ _ hf⟩,⟨oc,pg _ _ ho,hq⟩,hn,j1w I2.ok hc (by rw[hn];exact nd),q1⟩,q2⟩
end
section
variable{X:Cx}{ρ:Rho}{P:Po}{x:aj}{params:dC}{body:ao}{scope:br}{cl:List (aj×aa)}{ds:List D}{pos p1 p2:aO}
theorem DS.retLam(M:LMk X x)(hdef:fT params X.env=([],[]))(hcl:dJ scope X.env=pure cl)(ht:Qt X.K x=a3 (params,body,scope))(hn:cl.map (·.1)=zy scope)(nd:(zy scope).Nodup)(hc:Zj X ρ cl ds)(h:P.rt (.val (.fn x ds))) :
  DS X ρ (.Return (a3 (.Lambda params body scope p1)) pos) P:=λσ H E R q pins s I=>by
 refine kA (thn (j5m M hdef hcl pins s σ H (λv H2=>∃(f c:aa)(oc:dz)(pm ctv:a8),v=.ref f/\j0 H H2/\H2 f=a3 (.frz (W.kla_obj "<lambda>" (jx x) params body scope cl pm c ctv) (.own 0))/\H2 c=a3 (.frz oc (.own 0))/\Mv oc (jx x)) I
  ⟨R.tb,λf c oc pm ctv H2 g _ h1 h2 h3=>⟨f,c,oc,pm,ctv,rfl,g,h1,h2,h3⟩⟩) λu s2 ⟨v,H2,I2,r,f,c,oc,pm,ctv,ev,g,h1,h2,h3⟩=>?_)
 subst ev;refine⟨_,σ,H2,plus H2 s2.heap (cl.map (·.2)),I2,r,λb=>?_,q.rt _ _ _ h ⟨λb o e=>U3 I2 hc.own _ _ (g _ _ (of_del e).2),j6m (tx:=(params,body,scope)) ht hn nd hc I2 R g h1 h2 h3⟩⟩;by_cases z:b∈cl.map (·.2)
 .obtain⟨o,v,e1,e2,_⟩:=hc.own.obj I2 z;obtain⟨y,e,fy⟩:=hc.own b z;exact .inr ⟨y,o,v,e,fy,M3 z e1,e1,e2⟩
 .exact .inl (Jy z)
theorem DT.callL{S:List D->D->Prop}{g:aj}{e1 e2:ao}{d1 d2 d:D}(c:Cal X g (spP X.K S))(M:LMk X x)(hdef:fT params X.env=([],[]))(hcl:dJ scope X.env=pure cl)(ht:Qt X.K x=a3 (params,body,scope))(hn:cl.map (·.1)=zy scope)(nd:(zy scope).Nodup)(hc:Zj X ρ cl ds)
  (h1:DT X ρ e1 d1) (h2:DT X ρ e2 d2) (nf:noFn d=a6) (hS:S [d1,d2,.fn x ds] d) (hg:Gl X g) (hdb:(g==k8q)=a4)
  (hs1:a9 [e1,e2,.Lambda params body scope p1] X.env=(a4,aA e1 X.env)::a9 [e2,.Lambda params body scope p1] X.env) (hs2:a9 [e2,.Lambda params body scope p1] X.env=(a4,aA e2 X.env)::a9 [.Lambda params body scope p1] X.env)
  (hs3:a9 [.Lambda params body scope p1] X.env=(a4,aA (.Lambda params body scope p1) X.env)::a9 [] X.env) (hpl:(aY pos (a9 [e2,.Lambda params body scope p1] X.env)).any (·.1)=a4) :
  DT X ρ (.Call (.Name g p2) [e1,e2,.Lambda params body scope p1] [] pos) d:=λσ H Q R q pins s I=>by
 obtain⟨k,f,fd,ps,F,hr,hm,hk,hb,_⟩:=c.ex;refine aF (Uu I hg hm ?_ hdb);refine W.callWith_K (h₀:=X.base) I.ok.mod.kin hk (thn ((jd peS (jd peS (jd (j5m M hdef hcl) jz hs3) hs2) hs1) pos pins s σ H (λvs H2=>∃(v1 v2:V)(f c:aa)(oc:dz)(pm ctv:a8),vs=[v1,v2,.ref f]/\j0 H H2/\Enc X.K H2 d1 v1/\Enc X.K H2 d2 v2 /\
   H2 f=a3 (.frz (W.kla_obj "<lambda>" (jx x) params body scope cl pm c ctv) (.own 0))/\H2 c=a3 (.frz oc (.own 0))/\Mv oc (jx x)) I
  (h1 σ H _ R λv1 H1 g1 q1=>h2 σ H1 _ (R.grow g1) λv2 H2 g2 q2=>⟨R.tb.mono (g1.trans g2),λf c oc pm ctv H3 g3 _ z1 z2 z3=>⟨v1,v2,f,c,oc,pm,ctv,rfl,(g1.trans g2).trans g3,q1.mono (g2.trans g3),q2.mono g3,z1,z2,z3⟩⟩)) λus s2 ⟨vs,H2,I2,rv,v1,v2,fa,ca,oc,pm,ctv,ev,g,q1,q2,z1,z2,z3⟩=>⟨I2.kIn,?_⟩) hs1 hpl
 subst ev;have pg:=U3 I2 hc.own;have ef:=j6m (tx:=(params,body,scope)) ht hn nd hc I2 R g z1 z2 z3;obtain⟨e0,back⟩:=I2.plus hc.own;have sp:spP X.K S [v1,v2,.ref fa] (plus H2 s2.heap (cl.map (·.2))) (λv H'=>Cel H' (cl.map (·.2))->Q v (del H' (cl.map (·.2)))) E0 :=
  ⟨[],[d1,d2,.fn x ds],d,(R.tb.mono g).mono pg,(λa h=>nomatch h),by rw[J8];exact⟨_,_,rfl,q1.mono pg,_,_,rfl,q2.mono pg,_,_,rfl,ef,rfl⟩,hS,λv H' g' en hC=>by
   rw[J8]at en
   refine q v _ (λb o e=>?_) (en.noc hC nf)
   have e2:=g _ _ e
   have nb:b∉cl.map (·.2):=λz=>by obtain⟨_,_,_,_,n,_⟩:=hc.own.obj I2 z;rw[n]at e2;cases e2
   rw[j7 nb];exact g' _ _ (pg _ _ e2)⟩
 have hl:us.length=ps.length:=by rw[<-rv.length];exact F.len _ _ _ _ sp
 have hb':=hb s2 us I2.kIn (by rw[Xu];exact hl);rw[Xu]at hb';refine eR (bB (F.run X.A X.stack s2 _ ⟨us,[]⟩ us _ _ _ (hr.mono (Pk _)) e0 hb' rv sp) λr s' hq=>?_);cases r with
 |error e=>exact(show False from hq).elim
 |ok fl =>
  cases fl with
  |ret u=>exact back Q u s' hq
  |next=>exact(show False from hq).elim
  |brk=>exact(show False from hq).elim
  |cont=>exact(show False from hq).elim
end
section
variable{X:Cx}{ρ:Rho}{e a b c:ao}{es:List ao}{st:bp}{rest sa sb body:List bp}{P:Po}{d:D}{ds ds':List D}{pos p p1 p2 p3:aO}{x:aj}{i:Nat}
theorem Cal.comp{sp:Sp}{scope:br}{C:aa}{s:af}{H:Hp}{fp:List aa}{pn:k8o}(h:Cal X x sp):Cal (cCx X scope C s H fp pn) x sp:=⟨h.ex⟩
end
theorem jj(lo:Int)(n:Nat):(upto lo n).length=n:=by unfold upto;rw[xg,Pa]
theorem j0k{lo:Int}{n:Nat}{d:D}(h:d∈upto lo n):∃j:Nat,j<n/\d=.int (lo+j):=by unfold upto at h;obtain⟨j,hj,e⟩:=xr.mp h;exact⟨j,X5.mp hj,e.symm⟩
theorem Yh{lo:Int}{n j:Nat}{d:D}(h:(upto lo n)[j]?=a3 d):j<n/\d=.int (lo+j):=by
 unfold upto at h;rw[X6]at h;cases z:(ax n)[j]? with
 |none=>rw[z]at h;cases h
 |some k =>rw[z]at h;have hl:=(X8.mp z).1;rw[Pa]at hl;have:=T3 (n:=n) (i:=j) hl;rw[this]at z;cases z;cases h;exact⟨hl,rfl⟩
section
variable{X:Cx}{ρ:Rho}{a b tg it:ao}{ds ds':List D}{d:D}{i:Int}{pos:aO}
end
mutual
def Z7:D->Prop
 |.tup l=>l.length<=1000/\Vo l
 |.lst l=>l.length<=1000/\Vo l
 |.dct _ _=>False
 |.sct _=>False
 |.fn _ _=>False
 |_=>True
def Vo:List D->Prop
 |[]=>True
 |d::ds=>Z7 d/\Vo ds
end
theorem W4:∀{ds:List D}{d:D},Vo ds->d∈ds->Z7 d
 |x::xs,d,h,m=>by
  simp only[Vo]at h;rcases xn.mp m with e|m
  .subst e;exact h.1
  .exact W4 h.2 m
theorem D.depL_mem:∀{ds:List D}{d:D},d∈ds->d.dep<=D.depL ds
 |x::xs,d,m=>by
  simp only[D.depL];rcases xn.mp m with e|m
  .subst e;omega
  .have:=D.depL_mem m;omega
theorem D.depL_of{n:Nat}:∀{ds:List D},(∀d∈ds,d.dep<=n)->D.depL ds<=n
 |[],_=>by simp only[D.depL];omega
 |x::xs,h=>by simp only[D.depL];have h1:=h x (xq ..);have h2:=D.depL_of (ds:=xs) λd m=>h d (xf _ m);omega
end L2
namespace L2
noncomputable def j6(b:Int):Nat->Int->List Int
 |0,_=>[]
 |i+1,n=>(n/b^i%b)::j6 b i n
theorem jf(b:Int):∀(m:Nat)(n:Int),(j6 b m n).length=m
 |0,_=>rfl
 |m+1,n=>by rw[j6,X3,jf b m n]
theorem Zi(b:Int):∀{m k:Nat}{n:Int},k<m->(j6 b m n)[k]?=a3 (n/b^(m-k-1)%b)
 |m+1,0,n,_=>by rw[j6];rfl
 |m+1,k+1,n,h=>by
  rw[j6,dO,Zi b nofun];have:m-k-1=m+1-(k+1)-1:=by omega
  rw[this]
theorem j10(n b:Int)(hb:0<b)(i:Nat):n/b^i/b=n/b^(i+1):=by rw[Int.ediv_ediv_of_nonneg (ic (bY hb)),ia]
end L2
end
section
namespace L2
open PySem PySem.Spec PyProof.Rows
def CX1(P:av)(w:az):CXT:=λouter H s E ev s'=>∃(e:aa)(C:a8)(H':Hp),ev=.ref e/\s'.os=s.os/\dW s'.gens/\Un (frs outer) [] H H' s.heap s'.heap/\HOk P w H' s'.heap /\
 Fl (λb=>∃o,s.heap.get? b=a3 o) H' s'.heap e C/\E C a7 H'
theorem jh.get{P:av}{w:az}{H:Hp}{h:aD}{a:aa}{o:HO}(x:jh P w H h a o):∃u,h.get? a=a3 u:=by
 cases o with
 |lst xs=>obtain⟨_,_,_,_,e⟩:=x;exact⟨_,e⟩
 |tup xs=>obtain⟨_,_,_,⟨_,e,_⟩,_⟩:=x;exact⟨_,e⟩
 |dK kvs=>obtain⟨_,_,_,_,o,_,_,e,_⟩:=x;exact⟨_,e⟩
 |dT kvs=>obtain⟨_,_,_,_,o,_,_,e,_⟩:=x;exact⟨_,e⟩
 |dI xs ep=>obtain⟨_,_,_,o,_,e,_⟩:=x;exact⟨_,e⟩
 |set S n=>obtain⟨o,_,_,_,e,_⟩:=x;exact⟨_,e⟩
 |ins C dx fs=>obtain⟨_,_,_,e,_⟩:=x;exact⟨_,e⟩
 |own y=>obtain⟨_,e⟩:=x;exact⟨_,e⟩
 |xd fs=>obtain⟨_,⟨_,_,_,e,_⟩,_⟩:=x;exact⟨_,e⟩
 |rng lo hi=>obtain⟨_,_,_,e⟩:=x;exact⟨_,e⟩
 |frz ob u=>obtain⟨e,_⟩:=x;exact⟨_,e⟩
 |tbl ps=>exact⟨_,(show h.get? a=a3 _ from x)⟩
 |cod q=>obtain⟨_,e,_⟩:=x;exact⟨_,e⟩
 |met f y=>exact⟨_,(show h.get? a=a3 _ from x)⟩
 |ext φ=>obtain⟨_,⟨_,e⟩,_⟩:=x;exact⟨_,e⟩
section
variable{X:Cx}{pins:k8o}{σ:St}{H:Hp}{s:af}
theorem Inv.old(I:Inv X pins σ H s){b:aa}(h:Old X pins b):∃o,s.heap.get? b=a3 o:=by
 rcases h with ⟨o,q,n⟩|⟨p,hp,rfl⟩|rfl|⟨x,e⟩
 .exact I.base.there b o q n
 .exact⟨_,(I.pin p hp).1⟩
 .obtain⟨m,⟨o,_,_,e,_⟩,_⟩:=I.loc;exact⟨o,e⟩
 .obtain⟨v,o,e,_⟩:=I.cell x b e;exact⟨o,e⟩
end
section
variable{P:av}{w:az}{K:k8m}{mg:k8p}{base:aD}{N ps:List aj}{qual:aj}{scope:br}{f:aa}{cd:a8}{A:aC}{outer:List dS}{s s':af}{H H':Hp}{E:XK}{σ:St}{pins:k8o}{e:aa}{C:a8}
theorem j2l{as:List aa}{h':aD}{a0:a8}(I:Inv (vo (CX1 P w) P w K mg base N qual scope f cd A outer s H E) pins σ H' s')(F:Fl (Old (vo (CX1 P w) P w K mg base N qual scope f cd A outer s H E) pins) H' s'.heap e C)
  (hE:E C a7 H') (ha:∀b,b∈as↔b∈frs (bI qual scope s.heap.objs.size f cd::outer)\/(¬(∃o,s.heap.get? b=a3 o)/\H' b=a7/\b∈as)) (hfa:∀b∈frs (bI qual scope s.heap.objs.size f cd::outer),b∈as)
  (hL:Heap.LeftW (W.hideAll s'.heap as) (bI qual scope s.heap.objs.size f cd::outer) e C a0 s'.heap h'):CX1 P w outer H s E (.ref e) { s' with heap:=h' }:=by
 obtain⟨k1,k2,k3,k4⟩:=hL;have fr:∀b∈frs outer,∃o,s'.heap.get? b=a3 o/\∀vs,o.data≠.fields vs:=λb hb=>by obtain⟨o,ho,hd⟩:=(I.stack.mem (show b∈frs (bI qual scope s.heap.objs.size f cd::outer)from xf _ hb)).2;exact⟨o,ho,hd⟩
 have sfree:∀b∈frs (bI qual scope s.heap.objs.size f cd::outer),H' b=a7:=I.stkFree;have keep:∀b o,s'.heap.get? b=a3 o->b∉as->h'.get? b=a3 o:=λb o q n=>k1 b o (W.hideAll_get _ q n);have nold:∀b o,s.heap.get? b=a3 o->b∉frs outer->b∉as:=λb o q n z=>by
  rcases(ha b).mp z with z|⟨z,_⟩
  .rcases xn.mp z with z|z
   .have:=X4 q;rw[show b=s.heap.objs.size from z]at this;exact absurd this (Xz _)
   .exact n z
  .exact z ⟨o,q⟩
 have ntrk:∀b u,H' b=a3 u->b∉as:=λb u q z=>by
  rcases(ha b).mp z with z|⟨_,z,_⟩
  .rw[sfree b z]at q;cases q
  .rw[z]at q;cases q
 have slot:∀b∈frs outer,∀o,s'.heap.get? b=a3 o->∃sl,h'.get? b=a3 { o with slots:=sl }:=λb hb o q=>by obtain⟨o',ho,hd⟩:=fr b hb;rw[q]at ho;cases ho;exact k4 b o q hd
 have un:=I.base;refine⟨e,C,H',rfl,I.os,I.bare,⟨λb o q n hb _=>keep b o (un.keep b o q n hb (λz=>nomatch z)) (nold b o q hb),λb o q n hb _=>?_,λb o q n _=>un.free b o q n (λz=>nomatch z),λb o q _=>?_,un.tups,un.frzs,un.tbls⟩,
  λa o q=>(I.hok a o q).stay (λb u hb r=>keep b u r ?_) (λ_ z=>z) (λ_ _ z=>z) λ_ _ _ z=>z,?_,hE⟩
 .obtain⟨sl,q'⟩:=un.slot b o q n hb (λz=>nomatch z);obtain⟨sl',q2⟩:=slot b hb _ q';exact⟨sl',q2⟩
 .obtain⟨o',q'⟩:=un.there b o q (λz=>nomatch z);by_cases hb:b∈frs outer
  .obtain⟨sl,q2⟩:=slot b hb _ q';exact⟨_,q2⟩
  .exact⟨_,keep b o' q' (nold b o q hb)⟩
 .rcases hb with rfl|hb
  .exact ntrk _ _ q
  .exact ntrk _ _ hb
 .obtain⟨oe,vs,T,oT,ts,he,⟨hc,h0⟩,hd,h1,hnT,hTe,hT,hdT,h3⟩:=k3;refine⟨λb ⟨o,q⟩=>F.new b (.inl ⟨o,q,λz=>nomatch z⟩),F.free,oe,vs,a0,he,hc,hd,h0,.inr ⟨T,oT,ts,h1,hTe,hT,hdT,h3,?_,λb ⟨o,q⟩ z=>?_⟩⟩
  .cases r:H' T with
   |none=>rfl
   |some u =>obtain⟨ob,q⟩:=(I.hok T u r).get;rw[W.hideAll_get _ q (ntrk T u r)]at hnT;cases hnT
  .subst z;obtain⟨o',q'⟩:=un.there b o q (λz=>nomatch z);by_cases hb:b∈frs outer
   .obtain⟨o2,q2,nf⟩:=fr b hb;obtain⟨sl,q3⟩:=slot b hb o2 q2;rw[q3]at hT;cases hT;exact nf ts hdT
   .rw[W.hideAll_get _ q' (nold b o q hb)]at hnT;cases hnT
theorem j68(I:Inv (vo (CX1 P w) P w K mg base N qual scope f cd A outer s H E) pins σ H' s')(F:Fl (Old (vo (CX1 P w) P w K mg base N qual scope f cd A outer s H E) pins) H' s'.heap e C)(hE:E C a7 H') :
  (vo (CX1 P w) P w K mg base N qual scope f cd A outer s H E).xe (.ref e) s':=by
 obtain⟨oe,vs,a0,he,hc,hd,h0,hT⟩:=F.obj;have hsN:∀b,(∃o,s.heap.get? b=a3 o)->Old (vo (CX1 P w) P w K mg base N qual scope f cd A outer s H E) pins b:=λb ⟨o,q⟩=>.inl ⟨o,q,λz=>nomatch z⟩;have hin:∀(as:List aa),(∀b∈frs (bI qual scope s.heap.objs.size f cd::outer),b∈as)->∀env∈bI qual scope s.heap.objs.size f cd::outer,∀a,env.frame=a3 a->a∈as:=λas h env he a ha=>h a (Tg.mpr ⟨env,he,ha⟩);subst hc;rcases hT with h1|⟨T,oT,ts,h1,hTe,hT,hdT,h3,hTf,hTn⟩
 .let as:=e::frs (bI qual scope s.heap.objs.size f cd::outer)
  have hfa:∀b∈frs (bI qual scope s.heap.objs.size f cd::outer),b∈as:=λb hb=>xf _ hb;refine wpAny_leaving_firstW (base:=W.hideAll s'.heap as) I.ok.frames (W.funFrames_hide I.stack (hin as hfa)) rfl he (λb o q=>W.of_hideAll _ q) (W.hideAll_none _ (xq ..)) hd h1 h0 λh' hL =>j2l I F hE (λb=>⟨λz=>?_,λz=>z.elim (hfa b) λz=>z.2.2⟩) hfa hL
  rcases xn.mp z with e1|z'
  .subst e1;exact .inr ⟨λq=>F.new _ (hsN _ q) rfl,F.free,z⟩
  .exact .inl z'
 .let as:=e::T::frs (bI qual scope s.heap.objs.size f cd::outer)
  have hfa:∀b∈frs (bI qual scope s.heap.objs.size f cd::outer),b∈as:=λb hb=>xf _ (xf _ hb);refine wpAny_leaving_nextW (base:=W.hideAll s'.heap as) (a0:=a0) I.ok.frames (W.funFrames_hide I.stack (hin as hfa)) rfl ⟨oe,vs,T,oT,ts,he,⟨rfl,h0⟩,hd,h1,W.hideAll_none _ (xf _ (xq ..)),hTe,hT,hdT,h3⟩
   (λb o q=>W.of_hideAll _ q) (W.hideAll_none _ (xq ..)) λh' hL =>
   j2l I F hE (λb=>⟨λz=>?_,λz=>z.elim (hfa b) λz=>z.2.2⟩) hfa hL
  rcases xn.mp z with e1|z'
  .subst e1;exact .inr ⟨λq=>F.new _ (hsN _ q) rfl,F.free,z⟩
  .rcases xn.mp z' with e1|z2
   .subst e1;exact .inr ⟨λq=>hTn _ (hsN _ q) rfl,hTf,z⟩
   .exact .inl z2
end
def spX(K:k8m)(mg:k8p)(S:List D->aj->Prop):Sp:=λvs H _ E=>∃ds x C,TabOk K H/\j5 K H ds vs/\S ds x/\mg x=a3 C/\∀H',j0 H H'->E C a7 H'
section
variable{P:av}{w:az}{K:k8m}{mg:k8p}{base:aD}{x qual:aj}{st:bp}{f:aa}{fd:aQ}{N ps:List aj}{k:Nat}
theorem j6k{S:List D->aj->Prop}(F:Fun K x qual st f fd)(Sc:FnScope N ps (jb st))(hl:∀ds y,S ds y->ds.length=ps.length)
  (hbody:∀(cdv:a8)(A:aC)(outer:List dS)(s:af)(H:Hp)(E:XK),Rq K f cdv->Room k (A.deeper (bI qual (jb st) s.heap.objs.size f cdv))->∀ds y,S ds y ->
   DSs (vo (CX1 P w) P w K mg base N qual (jb st) f cdv A outer s H E) (qw N ds) (jr st) { nx:=λ_=>False,rt:=λ_=>False,ex:=λz _=>z=y }):FnOk P w K mg base (CX1 P w) (k+1) f fd ps (spX K mg S):=by
 obtain⟨oc,od,dV,kV,doc,pm,an,cdv,ct,osl,rfl,lk,hcd⟩:=F.ex;refine jat lk hcd Sc (λvs H Q E ⟨ds,y,C,tb,en,hS,_⟩=>by rw[en.length];exact hl ds y hS) λA outer s H vs Q E hr ⟨ds,y,C,tb,en,hS,hC,hE⟩=>⟨_,Ol,?_⟩
 have ho:=Ve N ds;refine hbody cdv A outer s H E ⟨oc,od,_,osl,lk,rfl⟩ hr ds y hS (start N vs) H _ (U0 tb en) ⟨λρ' σ' H' n R f=>n.elim,λ_ _ _ z=>z.elim,λ_ _ _ z=>z.elim,λr v H' n z=>n.elim,λz ρ' σ' H' n R g=>?_⟩;cases(show z=y from n);intro pins H2 s' e C' I g2 hC' Fe;cases hC.symm.trans hC';unfold Fr0 at g;rw[ho,J8]at g;exact j68 I Fe (hE H2 ((g.trans q9).trans g2))
end
def DX(X:Cx)(ρ:Rho)(e:ao)(x:aj):Prop:=∀σ H Q,Rep X.K ρ σ H->Ld X σ H x->Qf X e σ H Q
def DXA(X:Cx)(ρ:Rho)(es:List ao)(x:aj):Prop:=∀σ H Q,Rep X.K ρ σ H->Ld X σ H x->Dj X es σ H Q
structure CalX(X:Cx)(x:aj)(sp:Sp):Prop where
 ex:∃(k:Nat)(f:aa)(fd:aQ)(ps:List aj),FnOk X.prog X.w X.K X.mg X.base (CX1 X.prog X.w) k f fd ps sp/\Room k X.A/\X.mg x=a3 (.ref f)/\W.keepIn X.K (.ref f)=a6/\Binds X.K fd ps []
section
variable{X:Cx}{ρ:Rho}{e:ao}{es:List ao}{f x:aj}{ds:List D}{p pos:aO}{C:a8}
theorem DX.call {S:List D->aj->Prop} (c:CalX X f (spX X.K X.mg S)) (ha:DTA X ρ (e::es) ds) (hS:S ds x) (hC:X.mg x=a3 C) (hg:Gl X f) (hdb:(f==k8q)=a4)
  (he:a9 (e::es) X.env=(a4,aA e X.env)::a9 es X.env) (hpl:(aY pos (a9 es X.env)).any (·.1)=a4):DX X ρ (.Call (.Name f p) (e::es) [] pos) x:=λσ H Q R k pins s I=>by
 obtain⟨n,fa,fd,ps,F,hr,hm,hk,hb⟩:=c.ex;refine aF (Uu I hg hm ?_ hdb);refine W.callWith_K (h₀:=X.base) I.ok.mod.kin hk (thn (ha σ H (λvs H1=>j0 H H1/\j5 X.K H1 ds vs) R (λvs H1 g e=>⟨g,e⟩) pos pins s I) λus s1 ⟨vs,H1,I1,r,g,en⟩=>⟨I1.kIn,?_⟩) he hpl;have sp:spX X.K X.mg S vs H1 (λ_ _=>False) (λC' _ H'=>C'=C/\j0 H1 H'):=⟨ds,x,C,R.tb.mono g,en,hS,hC,λH' g=>⟨rfl,g⟩⟩
 have hl:us.length=ps.length:=by rw[<-r.length];exact F.len _ _ _ _ sp
 have hb':=hb s1 us I1.kIn (by rw[Xu];exact hl);rw[Xu]at hb';refine eR (bB (F.run X.A X.stack s1 H1 ⟨us,[]⟩ us vs _ _ hr I1.env0 hb' r sp) λr s' hq=>?_);cases r with
 |error ev =>obtain⟨e,C',H',rfl,os,bare,un,hok,fl,rfl,g'⟩:=hq;have I':Inv X pins σ H' s':=I1.call' os un hok bare (λb z=>nomatch z);refine k pins H' s' e C' I' (g.trans g') hC ⟨λb hb=>fl.new b (I1.old hb),fl.free,?_⟩;obtain⟨oe,ws,a0,q1,q2,q3,q4,q5⟩:=fl.obj;refine⟨oe,ws,a0,q1,q2,q3,q4,q5.imp id ?_⟩;rintro⟨T,oT,ts,z1,z2,z3,z4,z5,z6,z7⟩;exact⟨T,oT,ts,z1,z2,z3,z4,z5,z6,λb hb=>z7 b (I1.old hb)⟩
 |ok fl =>
  cases fl with
  |ret u=>obtain⟨_,_,_,_,_,_,_,z⟩:=hq;exact z.elim
  |next=>exact aW hq
  |brk=>exact aW hq
  |cont=>exact aW hq
end
section
variable{X:Cx}{ρ:Rho}{e:ao}{es:List ao}{x:aj}{d:D}{p pos np cpos:aO}{P:Po}{i:Int}{y:aj}{ys:List aj}
noncomputable def jap(out:aj):List aj->aj
 |[]=>out
 |y::ys=>jap (out++y) ys
def DPs(X:Cx)(ρ:Rho):List ao->List aj->Prop
 |[],[]=>True
 |e::es,y::ys=>DE X ρ e (.str y)/\DPs X ρ es ys
 |_,_=>False
end
structure FlT(N:aa->Prop)(H:Hp)(h:aD)(e:aa)(C fl:a8):Prop where
 new:∀b,N b->b≠e
 free:H e=a7
 obj:∃(oe:dz)(vs:Array a8)(a0:a8)(T:aa)(oT:dz)(ts:Array a8),h.get? e=a3 oe/\oe.cls=C/\oe.data=.fields vs/\vs[0]?=a3 a0/\vs[1]?=a3 (.ref T)/\T≠e/\h.get? T=a3 oT/\oT.data=.fields ts/\ts[3]?=a3 fl /\
  H T=a7/\∀b,N b->b≠T
section
variable{X:Cx}{pins:k8o}{σ:St}{H:Hp}{s:af}{e:aa}{C fl:a8}{M:kC}{A:aC}{E:k8n}
end
end L2
end
section
namespace PySem.W
open PySem PySem.Spec PySem.Calls PyProof.Rows Builtin Builtin.ObjectAttr Builtin.Getset_descriptor
section
variable{prog:av}{w:az}{A:aC}{E:k8n}{h:aD}{g:Array fA}{d:Drawn}{t:Nat}{os:OsState}{K:lP}{e C:aa}
end
end PySem.W
end
section
namespace L2
open PySem PySem.Spec PyProof.Rows
noncomputable def Jr:List aj:=["WrongSize","NoAsk","NoWord","Twice","WrongAnswers","Unlike","NoPlace","NoText","WrongPrices","WrongWeights","NoPlan"]
noncomputable def bmV:List a8:=[.type "ValueError",.type "Exception",.type "BaseException",.type "object"]
noncomputable def jl2(K:k8m)(C:aa):Bool:=W.findIn K (.ref C) "__getattribute__" == a3 (a3 (.builtin "BaseException.__getattribute__"))&&(W.findIn K (.ref C) "__getattr__" == a3 a7&&(W.subIn K (.ref C) (.type "BaseException")==a3 a6 &&
 (W.findIn K (.ref C) "__class__" == a3 (a3 (.builtin "object.__class__"))&&(W.mroIn K C (.type "object")==a3 a6&&((W.clsIn K C).isSome&&W.excIn K C bmV "ValueError.__new__")))))
noncomputable def Iz(K:k8m):Bool:=Jr.all λx=>match W.nsIn K au x with
 |some (a3 (.ref C))=>jl2 K C&&(W.kitOne K (.ref C) (.type "ValueError")==a3 a6&&((match W.nsIn K au "AskError" with
   |some (a3 a)=>W.exmOne K (.ref C) a==a3 a6
   |_=>a4)&&Jr.all λc=>match W.nsIn K au c with
   |some (a3 v)=>W.kitOne K (.ref C) v==a3 (x==c)
   |_=>a6))
 |some (a3 _)=>a4
 |_=>a6
structure XcOk(K:k8m)(C:aa):Prop where
 ga:W.findIn K (.ref C) "__getattribute__" = a3 (a3 (.builtin "BaseException.__getattribute__"))
 gt:W.findIn K (.ref C) "__getattr__" = a3 a7
 sub:W.subIn K (.ref C) (.type "BaseException")=a3 a6
 cls:W.findIn K (.ref C) "__class__" = a3 (a3 (.builtin "object.__class__"))
 mro:W.mroIn K C (.type "object")=a3 a6
 is:(W.clsIn K C).isSome=a6
 exc:W.excIn K C bmV "ValueError.__new__" = a6
structure ExOne(K:k8m)(x:aj)(C:aa):Prop where
 ok:XcOk K C
 val:W.kitOne K (.ref C) (.type "ValueError")=a3 a6
 ask:∃a,W.nsIn K au "AskError" = a3 (a3 a)/\W.exmOne K (.ref C) a=a3 a6
 one:∀c∈Jr,∀v,W.nsIn K au c=a3 (a3 v)->W.kitOne K (.ref C) v=a3 (x==c)
section
variable{X:Cx}{pins pins':k8o}{σ:St}{H:Hp}{s:af}{xe:k8n}{e:aa}
noncomputable abbrev Cx.hnd(X:Cx)(e:aa):Cx:={ X with A:=X.A.mark (a3 (.ref e)),calm:=a4,xe:=λ_ _=>False }
end
section
variable{X:Cx}{ρ:Rho}{i:Nat}{a:aa}{o:dz}{x y c c1 c2:aj}{p p1 p2 p3 p4 p5 pos:aO}{k:Bool}
end
structure KindsP(P:av)(w:az)(K:k8m)(mg:k8p)(base:aD)(f x:aj)(l:List D):Prop where
 ex:∃fa:aa,mg f=a3 (.ref fa)/\W.keepIn K (.ref fa)=a6/\∀(A:aC)(outer:List dS)(s:af)(H:Hp)(e:aa)(o:dz),A.depth+4<fg->A.units+150<aX->Env0 P w K mg base A outer s H->TabOk K H ->
  H e=a3 (.frz o (.own e))->W.nsIn K au x=a3 (a3 o.cls) ->
  c8 (ay P w) A (.call (.ref fa) ⟨[.ref e],[]⟩) (CR CX0 outer P w H s (λv H'=>∃a xs,v=.ref a/\j0 H H'/\H a=a7/\H' a=a3 (.lst xs)/\j5 K (del H' [a]) l xs) E0) s
 nl:zc l=a6
abbrev Kinds(X:Cx)(f x:aj)(l:List D):Prop:=KindsP X.prog X.w X.K X.mg X.base f x l
section
variable{X:Cx}{ρ:Rho}{i j:Nat}{e:aa}{o:dz}{f x n k A:aj}{l:List D}{P:Po}{body:List bp}{p p1 p2 p3 p4 p5 pos hpos:aO}
end
section
variable{X:Cx}{ρ:Rho}{i j:Nat}{f n k:aj}{P:Po}{body:List bp}{p p1 p2 p3 p4 p5 pos hpos:aO}
end
section
variable{P:av}{w:az}{K:k8m}{mg:k8p}{base:aD}{f:aa}{g x pn:aj}{st:bp}{fd:aQ}{N:List aj}{l:List D}
end
section
variable{X:Cx}
def jlj:V->Option Int->Option Int->Hp->VK->Prop:=λx lo hi H Q=>∃z,x=.str z/\z.length<=ar/\Q (.str (bS z lo hi)) H
theorem part_of{v:a8}{o:Option Int}(h:fv v o):∃l:Option (Int×gO),v=partValue l/\l.map (·.1)=o:=by
 cases h with
 |none=>exact⟨a7,rfl,rfl⟩
 |int i t=>exact⟨a3 (i,t),rfl,rfl⟩
theorem jet:SlR X jlj:=by intro pins s σ H x v vl vu lo hi sl Q I rx hs pl pu h;obtain⟨z,ex,hz,q⟩:=h;subst ex;obtain⟨t,ev⟩:=rx;subst ev;obtain⟨l,el,ml⟩:=part_of pl;obtain⟨u,eu,mu⟩:=part_of pu;subst el eu ml mu;obtain⟨o,h1,h2,h3⟩:=hs;refine⟨"str",_,PySem.F.slot_str_getitem.lookup,i3 s z t,wpAny_getItem_str_slice (l:=l) (u:=u) (st:=a7) ⟨o,h1,h2,h3⟩ rfl ?_⟩;exact post_val_or_str ⟨Xj (Txt.slice_le z _ _) hz,λt' k=>⟨.str _,H,I.tok k,⟨_,rfl⟩,q⟩⟩
theorem j2c:∀{ts:List aj}{us:List a8},Vals (ts.map V.str) us->∃l:List (aj×gO),us=strValues l/\l.map (·.1)=ts
 |[],_,r=>by cases r;exact⟨[],rfl,rfl⟩
 |t::ts,_,r=>by
  cases r with
  |cons a b =>obtain⟨k,e⟩:=a;obtain⟨l,e1,e2⟩:=j2c b;subst e e1 e2;exact⟨(t,k)::l,rfl,rfl⟩
theorem jck:MtR X "str.join" (λx vs H Q=>∃(sep:aj)(l:aa)(ts:List aj),x=.str sep/\vs=[.ref l]/\SqL X.K H l (ts.map V.str)/\fq sep ts=a6/\Q (.str (eQ sep ts)) H):=by rintro pins s σ H x vs v us Q I rx rv ⟨sep,l,ts,e,e',sq,hok,q⟩;subst e e';obtain⟨t,ev⟩:=rx;subst ev;obtain⟨u,eu,ru⟩:=rv.one;subst eu;cases ru;obtain⟨its,ri,pl,_⟩:=I.list sq;obtain⟨ps,e1,e2⟩:=j2c ri;subst e1 e2;unfold fq at hok;rw[js]at hok;exact cq iE (i3 _ _ _) F.entry_str_join (F.args_str_join_2 _ _) (meets_str_join_list sep t l ps hok) ⟨pl.isList,post_join ps ⟨joinFit_length hok,λt' k=>⟨.str _,H,I.tok k,⟨_,rfl⟩,q⟩⟩⟩
theorem j74 (hc:X.calm=a6):Jk X (.builtin "sum") (λxs H Q=>∃(lst:Bool)(l:aa)(ns:List Int),xs=[.ref l]/\SqB X.K lst H l (ns.map V.int)/\Q (.int ns.sum) H):=by
 rintro pins s σ H xs us Q I r ⟨lst,l,ns,e,sq,q⟩;subst e;obtain⟨u,eu,ru⟩:=vals1 r;subst eu;cases ru;obtain⟨its,rv,pl,_⟩:=I.side sq;have hl:its.length=ns.length:=by rw[<-rv.length,xg]
 have val:∀i v,its.toArray[i]?=a3 v->∃t,v=bo (ns.getD i 0) t:=by
  intro i v hv;have hi:i<its.length:=by obtain⟨h,_⟩:=Array.getElem?_eq_some_iff.mp hv;simpa using h
  have hi':i<ns.length:=by omega
  obtain⟨w1,hw,rw1⟩:=rv.get (x:=.int (ns.getD i 0)) (i:=i) (by rw[X6,kh hi',kj,kh hi'];rfl);have:its.toArray[i]?=a3 w1:=by simpa using hw
  rw[this]at hv;cases hv;exact rw1
 have tot:preSum (λi=>ns.getD i 0) its.toArray.size=ns.sum:=by rw[preSum_getD,Te (by rw[X7];omega)]
 have fin:∀(o:dz)(s':af)(t':gO),Moved [s.heap.objs.size] (λa b=>b=a) { s with heap:=s.heap.push o } s'->EP X pins σ Q (.int (preSum (λi=>ns.getD i 0) its.toArray.size) t') s':=λo s' t' mv=>by obtain⟨hh,gg,dd,tt,oo⟩:=s';obtain⟨m1,m2,m3,m4,m5⟩:=mv;cases m2;cases m3;cases m4;rw[tot];refine⟨.int _,H,I.kept (t':=tt) λb o e=>m1 b o ?_ (km _ e),⟨_,rfl⟩,q⟩;intro z;rw[xj.mp z]at e;exact Xz _ (X4 e)
 unfold qt at pl;cases lst with
 |true =>
  rw[if_pos rfl]at pl;have hlt:l<s.heap.objs.size:=by obtain⟨_,e,_⟩:=pl;exact X4 e
  refine kB (b8 pl ⟨s.heap.objs.size,[s.heap.objs.size,l],[s.heap.objs.size],_,its.toArray.size,_,_,λi=>ns.getD i 0,rfl,(Walks.list (A:=X.A.in1) (I.ok.hd hc) _ _ (Xd hlt) its.toArray).toS,⟨⟨_,xu _ rfl,rfl,rfl⟩,pl.push _⟩,?_,val,λs' t' mv=>fin _ s' t' mv⟩);intro b hb;show b<(s.heap.push _).objs.size;rw[Tp];rcases xn.mp hb with z|z
  .rw[z];exact T9 _
  .rw[xj.mp z];exact S5 hlt
 |false =>
  rw[if_neg xm]at pl;have hlt:l<s.heap.objs.size:=by obtain⟨_,e,_⟩:=pl;exact X4 e
  refine kB (fP pl ⟨s.heap.objs.size,[s.heap.objs.size,l],[s.heap.objs.size],_,its.toArray.size,_,_,λi=>ns.getD i 0,rfl,(Walks.tuple (A:=X.A.in1) (I.ok.hd hc) _ _ (Xd hlt) its.toArray).toS,⟨⟨_,xu _ rfl,rfl,rfl⟩,pl.push _⟩,?_,val,λs' t' mv=>fin _ s' t' mv⟩);intro b hb;show b<(s.heap.push _).objs.size;rw[Tp];rcases xn.mp hb with z|z
  .rw[z];exact T9 _
  .rw[xj.mp z];exact S5 hlt
end
section
variable{X:Cx}{ρ:Rho}{a b e:ao}{ds:List D}{i j:Int}{pos p p1 p2:aO}{y z:aj}{lo hi:Option ao}{l u:Option Int}
theorem Rb{K:k8m}{H:Hp}:∀{ts:List aj}{xs:List V},j5 K H (ts.map D.str) xs->xs=ts.map V.str
 |[],_,h=>h
 |t::ts,_,⟨x,r,e,h,l⟩=>by subst e;cases(show x=.str t from h);rw[Rb l];rfl
theorem vq{K:k8m}{H:Hp}:∀{ts:List Int}{xs:List V},j5 K H (ts.map D.int) xs->xs=ts.map V.int
 |[],_,h=>h
 |t::ts,_,⟨x,r,e,h,l⟩=>by subst e;cases(show x=.int t from h);rw[vq l];rfl
theorem DE.lenS (ha:DT X ρ a (.str y)) (hy:y.length<=ar) (hm:X.mg "len" = a7) (hg:Gl X "len") (hs:a9 [a] X.env=[(a4,aA a X.env)]):DE X ρ (.Call (.Name "len" p) [a] [] pos) (.int y.length):=λσ H Q R q =>(vm j1e hg hm eK (jd peS jz hs) (by decide) (by decide) hs).to (ha σ H _ R λv H1 g1 e1=>⟨y,by rw[show v=.str y from e1],hy,q _ H1 g1 rfl⟩)
theorem DE.catS(ha:DT X ρ a (.str y))(hb:DT X ρ b (.str z))(hl:y.length+z.length<=ar):DE X ρ (.BinOp a .Add b pos) (.str (y++z)):=λσ H Q R q =>(U5 j3w peS peS).to (ha σ H _ R λv H1 g1 e1=>hb σ H1 _ (R.grow g1) λu H2 g2 e2=>⟨y,z,e1,e2,hl,q _ H2 (g1.trans g2) rfl⟩)
theorem DE.ixC{c:Nat}(ha:DT X ρ a (.str y))(hb:DT X ρ b (.int i))(hy:y.length<=ar)(h:L2.atI y.cps.toList i=a3 c)(hs:Yg b):DE X ρ (.Subscript a b pos) (.str ⟨#[c]⟩):=λσ H Q R q =>(N8 jgm peS peS hs).to (ha σ H _ R λv H1 g1 e1=>hb σ H1 _ (R.grow g1) λu H2 g2 e2=>⟨y,i,c,e1,e2,hy,h,q _ H2 (g1.trans g2) rfl⟩)
theorem DE.sliceS(ha:DT X ρ a (.str y))(hl:DP X ρ lo l)(hu:DP X ρ hi u)(hy:y.length<=ar):DE X ρ (.Subscript a (.Slice lo hi a7 p2) pos) (.str (bS y l u)):=λσ H Q R q =>(Oo jet peS poS poS).to (ha σ H _ R λv H1 g1 e1=>hl σ H1 _ (R.grow g1) λH2 g2=>hu σ H2 _ (R.grow (g1.trans g2)) λH3 g3=>⟨y,e1,hy,q _ H3 (g1.trans (g2.trans g3)) rfl⟩)
theorem DE.int1 {k:Bool} (ha:DT X ρ a (.bl k)) (hm:X.mg "int" = a7) (hg:Gl X "int") (hs:a9 [a] X.env=[(a4,aA a X.env)]):DE X ρ (.Call (.Name "int" p) [a] [] pos) (.int (if k then 1 else 0)):=λσ H Q R q =>(Wx j7c hg hm boot_int (jd peS jz hs) (by decide) (by decide) hs).to (ha σ H _ R λv H1 g1 e1=>.inr ⟨k,by rw[show v=.bl k from e1],q _ H1 g1 rfl⟩)
theorem DE.sum (lst:Bool) {ns:List Int} (ha:DT X ρ a (D.seq lst (ns.map D.int))) (hm:X.mg "sum" = a7) (hc:X.calm=a6) (hg:Gl X "sum") (hs:a9 [a] X.env=[(a4,aA a X.env)]):DE X ρ (.Call (.Name "sum" p) [a] [] pos) (.int ns.sum):=λσ H Q R q =>
 (vm (j74 hc) hg hm boot_sum (jd peS jz hs) (by decide) (by decide) hs).to (ha σ H _ R λv H1 g1 e1=>by
  obtain⟨t,xs,ev,sq,en⟩:=V9 e1
  subst ev
  rw[vq en]at sq
  exact⟨lst,t,ns,rfl,sq,q _ H1 g1 rfl⟩)
theorem DE.join{sep:aj}{ts:List aj}{n:Nat}{p0:aO}(ha:DT X ρ a (.lst (ts.map D.str)))(hok:fq sep ts=a6)
  (hfew:((aY p2 (a9 [a] X.env)).all (λx=>!x.1)&&(cH p2 (bD [] X.env)).all (λx=>x.1.isSome)&&decide (([a]:List ao).length+([]:List bx).length+(if ([]:List bx).isEmpty then 0 else 1)<30))=a6)
  (hbase:bf (.Constant (.str sep) n p0) "join" X.env (aA (.Constant (.str sep) n p0) X.env)=aA (.Constant (.str sep) n p0) X.env)
  (hline:(p1.endLine==p2.line)=a6) (hs:a9 [a] X.env=(a4,aA a X.env)::a9 [] X.env):DE X ρ (.Call (.Attribute (.Constant (.str sep) n p0) "join" p1) [a] [] p2) (.str (eQ sep ts)):=λσ H Q R q =>
 (Nb PySem.F.plainAttrs_str iE PySem.F.type_str_join jck j5k (jd peS jz hs) hbase hfew hline hs rfl).to ⟨rfl,ha σ H _ R λv H1 g1 ⟨t,xs,e,sq,en⟩=>⟨sep,t,ts,rfl,by rw[e],by rw[Rb en]at sq;exact sq,hok,q _ H1 g1 rfl⟩⟩
end
section
variable{prog:av}{w:az}{A:aC}{lst:Bool}{j t:aa}{its:Array a8}
theorem j46(hh:A.handled=a7)(hne:t≠j):Draws prog w A j [j,t] its.size (λi v=>its[i]?=a3 v) (λi h=>qz lst h j t i/\qt lst h t its) where
 live:=λ_ _ st=>by obtain⟨o,e,_⟩:=st.1.obj;exact⟨o,e⟩
 frame:=λ_ h h' st hk=>⟨st.1.stay λo e=>hk j (by simp) o e,by
  have q:=st.2
  unfold qt at q ⊢
  cases lst with
  |true=>rw[if_pos rfl]at q ⊢;exact q.at λo e=>hk t (by simp) o e
  |false=>rw[if_neg xm]at q ⊢;exact q.at λo e=>hk t (by simp) o e⟩
 item:=λi s Q E hi st hQ=>j4y st.1 st.2 (y:=its[i]) (by simp[hi]) λh' hit' hs'=>hQ _ h' s.toks (by simp[hi]) ⟨hit',st.2.ext hs'.extBut hne⟩ hs'
 done:=λs Q E st hE=>Ew hh st.1 st.2 (by simp) hE
theorem j6n{n:Nat}(hh:A.handled=a7)(hne:t≠j)(hn:its[n]?=a7):Draws prog w A j [j,t] n (λi v=>its[i]?=a3 v) (λi h=>i=n/\qz lst h j t i/\qt lst h t its) where
 live:=λ_ _ st=>by obtain⟨o,e,_⟩:=st.2.1.obj;exact⟨o,e⟩
 frame:=λ_ h h' st hk=>⟨st.1,st.2.1.stay λo e=>hk j (by simp) o e,by
  have q:=st.2.2
  unfold qt at q ⊢
  cases lst with
  |true=>rw[if_pos rfl]at q ⊢;exact q.at λo e=>hk t (by simp) o e
  |false=>rw[if_neg xm]at q ⊢;exact q.at λo e=>hk t (by simp) o e⟩
 item:=λi s Q E hi st hQ=>absurd st.1 (Xd hi)
 done:=λs Q E st hE=>Ew hh st.2.1 st.2.2 hn hE
end
noncomputable abbrev eh2(h:aD)(lst:Bool)(t:aa):aD:=(zh1 h lst t).push { cls:=.type "enumerate",data:=.fields #[.none,.bool a4,.ref h.objs.size,dZ 0,.none,.none] }
theorem j9b {lst:Bool} (t:aa) (its:Array a8):kD (dU.«enumerate.__new__» ⟨[.type "enumerate",.ref t],[]⟩) (λ_ R s=>qt lst s.heap t its/\R (.ok (.ret (.ref (zh1 s.heap lst t).objs.size))) { s with heap:=eh2 s.heap lst t }) :=
 .of_wp λprog w A R s h=>by
  obtain⟨hp,g,d,tk,os⟩:=s;obtain⟨h1,h⟩:=h;have hsub:=sub_enumerate;have e1:qt lst (Shared.heap ⟨hp,g,d,tk,os⟩) t its:=h1;have ld:∃o:dz,hp.get? t=a3 o:=by
   unfold qt at e1;cases lst with
   |true=>rw[if_pos rfl]at e1;obtain⟨o,e,_⟩:=e1;exact⟨o,e⟩
   |false=>rw[if_neg xm]at e1;obtain⟨o,e,_⟩:=e1;exact⟨o,e⟩
  obtain⟨o,ho⟩:=ld
  wp_walk using c7 ho
  refine wpAny_stack_any λstk=>?_;refine ah ?_;split
  .rename_i cl _ _ _ _ _;cases(cl==bV "enumerate")
   .wp_walk using c7 ho,R8 e1
    exact⟨_,rfl,h⟩
   .wp_walk using c7 ho,R8 e1
    exact⟨_,rfl,h⟩
  .wp_walk using c7 ho,R8 e1
   exact⟨_,rfl,h⟩
noncomputable def Ite(K:k8m)(lst:Bool)(t:aa):It :=
 ⟨λi H=>∃xs x,SqB K lst H t xs/\xs[i]?=a3 x,
 λi H v H'=>∃p x,v=.ref p/\H p=a7/\H'=upd H p (.tup [.int (i:Int),x])/\∀xs,SqB K lst H t xs->xs[i]?=a3 x,
 λi H=>∃xs,SqB K lst H t xs/\xs.length<=i⟩
theorem j4r{P:av}{w:az}{K:k8m}{es:List ao}{n:Nat}{pos:aO}{lst:Bool}{z j t:aa}(hzj:z≠j)(hzt:z≠t)(htj:t≠j) :
  Turn P w K (.Tuple es n pos) (Ite K lst t) [z,j] z (λi h=>(∃old,IsEnum h z j (i:Nat) old)/\qz lst h j t i) where
 mem:=by simp
 obj:=λi h ⟨⟨old,hz⟩,h1⟩ c hc=>by
  simp at hc;rcases hc with rfl|rfl
  .exact⟨_,hz,λv e=>by cases e⟩
  .exact h1.obj
 keep:=λi h h' ⟨⟨old,hz⟩,h1⟩ k=>⟨⟨old,k z (by simp) _ hz⟩,h1.stay λo e=>k j (by simp) o e⟩
 item:=by
  rintro X hP hw hK hc i pins s σ H E I hf ⟨⟨old,hz⟩,h1⟩ ⟨xs,x,sx,hx⟩;subst hP hw hK;obtain⟨us,ru,qu,_⟩:=I.side sx;obtain⟨u,hu,rx⟩:=ru.get hx;have hlt:i<us.toArray.size:=by obtain⟨h,_⟩:=X8.mp hu;simpa using h
  refine wpAny_pyNext_enum_itemD (j46 (A:=X.A.in1) (I.ok.hd hc) htj) hz ⟨h1,qu⟩ hlt hzj (by simp[hzj,hzt]) λv h' tk hv ho st ht sz kp=>⟨_,rfl,?_⟩
  have ev:u=v:=by
   have:us.toArray[i]?=a3 u:=by simpa using hu
   rw[this]at hv;exact aw hv
  subst ev;refine wpAny_letOwnedTupleGo_enum (s:={ s with heap:=h',toks:=tk+1 }) ho λh'' z'' sb=>?_
  replace sb:cJ z h' h'':=sb
  have zlt:z<s.heap.objs.size:=X4 hz;have kp':∀c o,c∉[z,j]->s.heap.get? c=a3 o->h''.get? c=a3 o:=λc o nc e=>by simp at nc;exact sb.extBut _ _ nc.1 (kp c o nc.1 nc.2 e)
  have pt:i7 h'' s.heap.objs.size [.int i tk,u].toArray:=⟨_,sb.extBut _ _ (Py zlt) ht,rfl,_,rfl⟩
  have I2:=(I.chgT hf kp' (xs:=[.int (i:Int),x]) (.cons ⟨tk,rfl⟩ (.cons rx .nil)) (by show 2<=ar;decide) pt (Zx.of (sb.extBut _ _ (Py zlt) ht))).tok (tk+1);refine⟨.ref s.heap.objs.size,_,I2,rfl,⟨_,x,rfl,I.fresh,rfl,λws hw=>by rw[I.side_inj hw sx];exact hx⟩,⟨⟨u,?_⟩,st.1.ext sb.extBut (cS hzj)⟩,λc hc=>?_⟩
  .have e:((i+1:Nat):Int)=(i:Int)+1:=by push_cast;rfl
   rw[e];exact z''
  .obtain⟨o,e⟩:∃o,s.heap.get? c=a3 o:=by
    simp at hc;rcases hc with rfl|rfl
    .exact⟨_,hz⟩
    .obtain⟨o,e,_⟩:=h1.obj;exact⟨o,e⟩
   rw[jk (Xd (X4 e))];exact(hf c hc).1
 done:=by
  rintro X hP hw hK hc i pins s σ H E I hf ⟨⟨old,hz⟩,h1⟩ ⟨xs,sx,hend⟩;subst hP hw hK;obtain⟨us,ru,qu,_⟩:=I.side sx;have e1:=ru.length;have hn:us.toArray[i]?=a7:=by simp;omega
  refine wpAny_pyNext_enum_endD (j6n (A:=X.A.in1) (I.ok.hd hc) htj hn) hz ⟨rfl,h1,qu⟩ λh' kp=>⟨rfl,I.chg hf λc o nc e=>?_⟩
  simp at nc;exact kp c o nc.2 e
 self:=λ_ _ _ _ _ ⟨⟨old,hz⟩,_⟩ h=>ky hz h
section
variable{X:Cx}{ρ:Rho}{a b:ao}{es:List ao}{n:Nat}{pos p q1 q2:aO}{ds ds':List D}{lst:Bool}
noncomputable def Qg(ds:List D):List D:=ds.zipIdx.map λp=>D.tup [.int (p.2:Int),p.1]
theorem Kd{i:Nat}:(Qg ds)[i]?=(ds[i]?).map λd=>D.tup [.int (i:Int),d]:=by unfold Qg;rw[X6,List.getElem?_zipIdx];cases ds[i]?<;>simp
theorem j6e{K:k8m}{F:Hp}{t:aa}{xs:List V}(s1:SqB K lst F t xs)(e1:j5 K F ds xs):Uk K F (Ite K lst t) (Qg ds):=λi H A g hA=>by
 have s1':SqB K lst H t xs:=q9.seqB (g.seqB s1);have hl:(Qg ds).length=ds.length:=by unfold Qg;rw[xg,df]
 refine⟨λh=>?_,λh=>⟨xs,s1',?_⟩,λv H' ⟨p,x,ev,np,eH,hx⟩=>?_⟩
 .rw[hl]at h;obtain⟨x,hx,_⟩:=e1.get (kh h);exact⟨xs,x,s1',hx⟩
 .rw[hl]at h;rw[e1.length];exact h
 .subst eH;refine⟨j8 np,λd hd=>?_⟩;rw[Kd]at hd;cases z:ds[i]? with
  |none=>rw[z]at hd;cases hd
  |some d1 =>rw[z]at hd;cases hd;obtain⟨x',hx',ex⟩:=e1.get z;have q1:=hx xs s1';rw[hx']at q1;have q1:=aw q1;subst q1;have pA:p∉A:=λz=>hA p z np;have gg:j0 F (del (upd H p (.tup [.int (i:Int),x'])) A):=g.trans (je (j8 np));exact⟨p,[.int (i:Int),x'],ev,.inl (.inl (by rw[j7 pA];exact jc)),.int (i:Int),[x'],rfl,rfl,x',[],rfl,ex.mono gg,rfl⟩
theorem DI.enum (lst:Bool) (ha:DE X ρ a (D.seq lst ds)) (hm:X.mg "enumerate" = a7) (hg:Gl X "enumerate") (hs:a9 [a] X.env=[(a4,aA a X.env)]):DI X ρ (.Tuple es n q1) (.Call (.Name "enumerate" p) [a] [] pos) (Qg ds):=λσ H R r q pins s I=>by
 have args:Dj X [a] σ H (λvs H'=>∃v,vs=[v]/\j0 H H'/\Enc X.K (del H' (owns ρ)) (D.seq lst ds) v) :=
  (jd peS jz hs).to (ha σ H _ r λv H1 g1 e1=>⟨v,rfl,g1,e1⟩)
 refine Call_ (Jq I hg hm boot_enumerate (callWith_type1 (thn (args pos pins s I) λus s1 h1=>?_) hs rfl));obtain⟨vs,H1,I1,r1,v,ev,g1,e1⟩:=h1;subst ev;obtain⟨t,xs,et,sq,en⟩:=V9 e1;subst et;obtain⟨u1,eu,ru1⟩:=r1.one;subst eu;cases ru1;obtain⟨w1,rw1,qw1,_⟩:=I1.side (q9.seqB sq);refine callType_new F.called_enumerate (by decide) (F.typeCall_enumerate_1 _) (F.newCall_enumerate_1 _) (λobj=>iP obj _) F.entry_enumerate_new (j9b (lst:=lst) t w1.toArray) ⟨qw1,?_⟩;have z1:(zh1 s1.heap lst t).objs.size=s1.heap.objs.size+1:=Tp ..;have b2:(eh2 s1.heap lst t).get? (zh1 s1.heap lst t).objs.size=a3 _:=xu _ rfl;have b1:(eh2 s1.heap lst t).get? s1.heap.objs.size=a3 _:=km _ (xu _ rfl);have kp:∀c o,s1.heap.get? c=a3 o->(eh2 s1.heap lst t).get? c=a3 o:=λc o e=>km _ (km _ e);show _/\_;rw[z1]at b2 ⊢;have I2:Inv X pins σ H1 { s1 with heap:=eh2 s1.heap lst t }:=I1.kept (t':=s1.toks) kp;have lt1:t<s1.heap.objs.size:=by
  unfold qt at qw1;cases lst with
  |true=>rw[if_pos rfl]at qw1;obtain⟨_,e,_⟩:=qw1;exact X4 e
  |false=>rw[if_neg xm]at qw1;obtain⟨_,e,_⟩:=qw1;exact X4 e
 have side:qz lst (eh2 s1.heap lst t) s1.heap.objs.size t 0:=by
  unfold qz;cases lst with
  |true=>rw[if_pos rfl];exact⟨_,b1,rfl,rfl⟩
  |false=>rw[if_neg xm];exact⟨_,b1,rfl,rfl⟩
 refine⟨⟨_,b2,rfl⟩,ky (s:={ s1 with heap:=eh2 s1.heap lst t }) b2 ?_⟩;refine⟨_,_,_,Ite X.K lst t,H1,rfl,I2,j4r (j:=s1.heap.objs.size) (Nat.succ_ne_self _) (Py (S5 lt1)) (Xd lt1),⟨⟨_,b2⟩,side⟩,λc hc=>?_,q _ H1 g1 (j6e sq en)⟩;have hc':c=s1.heap.objs.size+1\/c=s1.heap.objs.size:=by simpa using hc
 have hge:s1.heap.objs.size<=c:=by rcases hc' with e|e<;>rw[e]<;>first|exact xx _|exact Nat.le_add_right _ _
 obtain⟨f0,f1,f2,f3,f4,f5⟩:=I1.fpOk hge (I1.hok.fresh hge);exact⟨f0,f1,f2,f3,f4,f5⟩
end
section
variable{X:Cx}
theorem j8a:OpR X (bj .FloorDiv) (rI (λ_ j=>0<j/\j<18446744073709551616) λi j=>.int (i/j)):=opI λi j _ _ _ _ _ hc q=>by
 have e:i/j=i.fdiv j:=by rw[gy _ nofun]
 refine floordiv_int nofun (by rw[<-e];exact q) (.inl (PyProof.noPylong_of_log2 ?_))
 have h2:(2:Nat)^64=18446744073709551616:=by decide
 have:=(Nat.log2_lt (n:=j.natAbs) (k:=64) nofun).mpr (by rw[h2];omega);omega
theorem j5w (hu:X.A.units+100<aX):MtR X "list.count" (λx vs H Q=>∃t xs ds d y,x=.ref t/\vs=[y]/\SqL X.K H t xs/\j5 X.K H ds xs/\Enc X.K H d y/\D.depL ds<=97/\d.dep<10000/\Q (.int (ds.countP λe=>deq e d)) H):=by
 rintro pins s σ H x vs v us Q I rx rv ⟨t,xs,ds,d,y,e,e',sq,l,en,hd,nd,q⟩;subst e e';cases rx;obtain⟨u,eu,ru⟩:=rv.one;subst eu;obtain⟨its,ri,⟨⟨cl,dd,da,sl⟩,n,h1,h2,h4,h3⟩,_⟩:=I.list sq;have h2:cl=.type "list":=h2;have h3:da=.seq its.toArray n:=h3;subst h2 h3;refine cq ig ⟨_,h1,rfl⟩ F.entry_list_count (F.args_list_count_2 _ _) (SeqAt.list_countAt t its.toArray n dd sl u (eqW X H d)) ⟨h1,λy hy=>Us (n:=97) I en ru nd (by show X.A.units+1+97<aX;omega) hd l ri y (by simpa using hy),?_⟩;have ev:(its.toArray.toList.countP (eqW X H d):Nat)=ds.countP λe=>deq e d:=by rw[eW];exact Wf I nofun l ri
 rw[ev];exact⟨.int _,H,I.tok _,⟨_,rfl⟩,q⟩
end
section
variable{X:Cx}{ρ:Rho}{a b e:ao}{d d':D}{ds:List D}{i j:Int}{pos p p1 p2:aO}{P:Po}
theorem DE.fdivB(ha:DT X ρ a (.int i))(hb:DT X ρ b (.int j))(h:0<j/\j<18446744073709551616):DE X ρ (.BinOp a .FloorDiv b pos) (.int (i/j)):=DE.arI (g:=λi j=>i/j) j8a ha hb h
theorem DE.countL (hu:X.A.units+100<aX) (ha:DT X ρ a (.lst ds)) (hb:DT X ρ b d) (hd:D.depL ds<=97) (nd:d.dep<10000) (hbase:bf a "count" X.env (aA a X.env)=aA a X.env)
  (hfew:((aY p2 (a9 [b] X.env)).all (λx=>!x.1)&&(cH p2 (bD [] X.env)).all (λx=>x.1.isSome)
   && decide (([b]:List ao).length+([]:List bx).length+(if ([]:List bx).isEmpty then 0 else 1)<30))=a6) (hline:(p1.endLine==p2.line)=a6)
  (hs:a9 [b] X.env=(a4,aA b X.env)::a9 [] X.env):DE X ρ (.Call (.Attribute a "count" p1) [b] [] p2) (.int (ds.countP λe=>deq e d)):=λσ H Q R q =>
 (Nb du ig PySem.F.type_list_count (j5w hu) peS (jd peS jz hs) hbase hfew hline hs rfl).to (ha σ H _ R λv H1 g1 ⟨t,xs,e,sq,l⟩=>⟨by rw[e];exact .inl ⟨rfl,xs,sq⟩,hb σ H1 _ (R.grow g1) λu H2 g2 e2 =>
  ⟨t,xs,ds,d,u,e,rfl,g2.seq sq,l.mono g2,e2,hd,nd,q _ H2 (g1.trans g2) rfl⟩⟩)
end
noncomputable def ddS(acc:List aj)(v:aj):List aj:=if acc.any (· == v)=a6 then acc else acc++[v]
noncomputable def dd(ts:List aj):List aj:=ts.foldl ddS []
theorem jdu(ts:List aj)(v:aj):dd (ts++[v])=ddS (dd ts) v:=by simp[dd]
theorem Ny:∀(ts acc:List aj),(ts.foldl ddS acc).length<=acc.length+ts.length
 |[],acc=>by simp
 |v::ts,acc=>by
  have h:=Ny ts (ddS acc v);have h2:(ddS acc v).length<=acc.length+1:=by unfold ddS;split<;>simp
  rw[Pz,X3];omega
def Z5(P:av)(w:az)(h:aD)(S:aa)(ts:List aj):Prop:=h.SetOf (dy P w) S (λk=>(dd ts).any (· == k)) (dd ts).length
section
variable{P:av}{w:az}{A:aC}{I S:aa}{fp wr:List aa}{Gn:Array fA->Array fA->Prop}{Pv:Nat->a8->Prop}{St:Nat->af->Prop}{ts:List aj}
theorem Z5.stay{h h':aD}(x:Z5 P w h S ts)(k:∀o,h.get? S=a3 o->h'.get? S=a3 o):Z5 P w h' S ts:=by obtain⟨o,es,ep,t,ho,r⟩:=x;exact⟨o,es,ep,t,k o ho,r⟩
theorem Z5.more{h:aD}{v:aj}(x:h.SetOf (dy P w) S (λk=>(dd ts).any (· == k) || decide (k=v)) (if (dd ts).any (· == v)=a6 then(dd ts).length else(dd ts).length+1)):Z5 P w h S (ts++[v]):=by
 unfold Z5;rw[jdu];have e1:(λk=>(ddS (dd ts) v).any (· == k))=λk=>(dd ts).any (· == k) || decide (k=v):=by
  funext k
  unfold ddS;by_cases h1:(dd ts).any (· == v)=a6
  .rw[if_pos h1];by_cases h2:k=v
   .subst h2;rw[h1];rfl
   .rw[decide_eq_false h2,gG]
  .rw[if_neg h1,List.any_append];congr 1;by_cases h2:k=v
   .subst h2;simp
   .have:¬v=k:=λz=>h2 z.symm;simp[h2,this]
 have e2:(ddS (dd ts) v).length=if (dd ts).any (· == v)=a6 then(dd ts).length else(dd ts).length+1:=by unfold ddS;split<;>simp
 rw[e1,e2];exact x
theorem fill{R:fm->af->Prop}(W:WalksS P w A.in1 I fp wr Gn ts.length Pv St)(out:S∉fp)(hv:∀i v,Pv i v->∃x t,ts[i]?=a3 x/\v=.str x t)(room:ts.length+1<gu):∀(r i:Nat)(q:af),i+r=ts.length->St i q->Z5 P w q.heap S (ts.take i) ->
  (∀q',Moved (S::wr) Gn q q'->Z5 P w q'.heap S ts->R (.ok (.ret .none)) q')->c8 (ay P w) A (.builtin "set.update.loop" ⟨[.ref S,.ref I],[]⟩) R q:=by
 have outw:S∉wr:=λz=>out (W.sub S z);have wider:∀b∈wr,b∈S::wr:=λb z=>xf S z;intro r;induction r with
 |zero =>intro i q hi st fu fin;have e:i=ts.length:=hi;subst e;refine aI dD ?_;rw[Xo bQ _];refine a5 (m:=ck (.ref I)) (W.done q _ _ st λq' mv=>?_);refine ah (fin q' (mv.mono wider) ?_);rw[cP]at fu;exact fu.stay λo z=>mv.heap S o outw z
 |succ r ih =>
  intro i q hi st fu fin;have lt:i<ts.length:=by omega
  refine aI dD ?_;rw[Xo bQ _];refine a5 (m:=ck (.ref I)) (W.item i q _ _ lt st λv q' pv st' mv=>?_);obtain⟨x,t,hx,ev⟩:=hv i v pv;subst ev;have fu':Z5 P w q'.heap S (ts.take i):=fu.stay λo z=>mv.heap S o outw z;refine a5 (m:=bL [bO x t] (setAdd S (.str x t))) (aT ?_);unfold setAdd;refine aT (a5 ((dy P w).pyHash (k:=x) (strKind_is P w x t) ?_));have small:(dd (ts.take i)).length+1<gu:=by
   have:=Ny (ts.take i) [];have e:(dd (ts.take i)).length<=i:=by
    have:([]:List aj).length+(ts.take i).length<=i:=by rw[P0,T5];omega
    exact Xj (Ny (ts.take i) []) this
   omega
  refine wpAny_setAddHashed_of (knd:=dy P w) (strKind_is P w x t) rfl fu' small λh' sb full2=>?_;have next:Z5 P w h' S (ts.take (i+1)):=by rw[S7,hx];exact Z5.more full2
  refine ah ⟨aP bQ _,ih (i+1) _ nofun (W.frame _ q' _ _ st' (Pk _) λb hb o e=>?_) next λq2 mv2 full3=>?_⟩
  .have ne:b≠S:=λz=>out (z▸hb);rw[sb.2 b ne];exact e
  .refine fin q2 (Moved.trans W.gtrans ((mv.mono wider).then_heap (Pk _) λb o hb e=>?_) mv2) full3;have ne:b≠S:=λz=>hb (by rw[z];exact xq ..);rw[sb.2 b ne];exact e
end
section
variable{P:av}{w:az}{A:aC}{E:k8n}{s:af}
noncomputable abbrev Jp(led:Bool):dz:={ cls:=.type "set",dict:=a7,data:=.set #[] 0 (.fresh 0 0 led) }
theorem j91{led:Bool}{l:aa}{its:Array a8}{ts:List aj}{X:PySem.Fin->af->Prop}{Y:k8n}(hh:A.handled=a7)(hl:s.heap.IsList l its)(hts:∀(i:Nat)(v:a8),its[i]?=a3 v->∃x t,ts[i]?=a3 x/\v=.str x t)(hn:its.size=ts.length)(room:ts.length+1<gu)
  (q:∀h' tk,Z5 P w h' s.heap.objs.size ts->(∀b o,b<s.heap.objs.size->s.heap.get? b=a3 o->h'.get? b=a3 o)->X (.done (.ret .none)) { s with heap:=h',toks:=tk }) :
  aq (ay P w) A.in1 (dU.«set.__init__» ⟨[.ref s.heap.objs.size,.ref l],[]⟩) X Y { s with heap:=s.heap.push (Jp led) }:=by
 obtain⟨⟨oc,od,oda,os⟩,e1,e2,n,e3⟩:=hl;have e2:oc=.type "list":=e2;have e3:oda=.seq its n:=e3;subst e2 e3;have here:(s.heap.push (Jp led)).get? s.heap.objs.size=a3 (Jp led):=xu _ rfl;have lst:(s.heap.push (Jp led)).get? l=a3 { cls:=.type "list",dict:=od,data:=.seq its n,slots:=os }:=km _ e1;have ne1:=PySem.F.sub_list_set;have ne2:=PySem.F.sub_list_frozenset;have ne3:(bV "list" == bV "dict")=a4:=by decide
 have isl:(s.heap.push (Jp led)).IsList l its:=⟨_,lst,rfl,n,rfl⟩
 unfold dU.«set.__init__» noKeywords Builtin.Frozenset.updateFrom;generalize keep:i4=PI
 wp_walk
 subst keep;refine b8 isl (a5 (lS ?_));have lt:l<s.heap.objs.size:=X4 e1;have sz:(s.heap.push (Jp led)).objs.size=s.heap.objs.size+1:=Tp ..;have walk:=(Walks.list (prog:=P) (w:=w) (A:=A.in1.in1) (by simp[hh]) (s.heap.push (Jp led)).objs.size l (by rw[sz];exact Xd (S5 lt)) its).toS;rw[hn]at walk;refine fill (ts:=ts) (S:=s.heap.objs.size) walk (λz=>?_) hts room ts.length 0 { s with heap:=(s.heap.push (Jp led)).push { cls:=.type "list_iterator",data:=.fields #[.ref l,.int 0 0] } } nofun ⟨⟨_,xu _ rfl,rfl,rfl⟩,isl.push _⟩ ?_ λq' mv full=>?_
 .rw[sz]at z;rcases xn.mp z with z|z
  .exact Xd (T9 _) z
  .exact Py lt (xj.mp z)
 .have z:Z5 P w (s.heap.push (Jp led)) s.heap.objs.size []:=(setObjOf_fresh (knd:=dy P w) led).setOf here (by unfold gu;omega);exact z.stay λo e=>km _ e
 .obtain⟨h',g',d',tk',os'⟩:=q';obtain⟨m1,m2,m3,m4,m5⟩:=mv;cases m2;cases m3;cases m4;refine ah (ah (q h' tk' full λb o hb e=>m1 b o ?_ (km _ (km _ e))));intro z;rw[sz]at z;rcases xn.mp z with z|z
  .exact Xd hb z
  .exact Xd (S5 hb) (xj.mp z)
theorem j75{l:aa}{its:Array a8}{ts:List aj}{Q:k8n}(hh:A.handled=a7)(hl:s.heap.IsList l its)(hts:∀(i:Nat)(v:a8),its[i]?=a3 v->∃x t,ts[i]?=a3 x/\v=.str x t)(hn:its.size=ts.length)(room:ts.length+1<gu)
  (q:∀h' tk,Z5 P w h' s.heap.objs.size ts->(∀b o,b<s.heap.objs.size->s.heap.get? b=a3 o->h'.get? b=a3 o)->Q (.ref s.heap.objs.size) { s with heap:=h',toks:=tk }):aq (ay P w) A (call (.type "set") [.ref l]) Q E s:=by
 have cs:=PySem.F.called_set;obtain⟨c0,tl0,hm0⟩:=cs.mro;have m1:=cs.made;have m2:=cs.sub;have m3:=cs.notType;have m4:=cs.canCreate;have m5:=PySem.F.typeCall_set_1 (.ref l);refine eR (lK (?_:aq _ _ (callAny (.type "set") _) _ _ _));refine ah ⟨Code.quiet_builtin _ (by decide +kernel),aI PySem.F.entry_type_call ?_⟩;rw[Around.under_plain (weight_type_call_type "set" [.ref l] []) rfl]
 repeat (any_goals (first|assumption|wp_step))
 refine bB (PySem.code_set_new_1 (.ref l) (E:=E) (Q₁:=λo q1=>∃led:Bool,o=.ref s.heap.objs.size/\q1={ s with heap:=s.heap.push (Jp led) }) λled=>⟨led,rfl,rfl⟩) λr q1 hr=>?_;cases r with
 |error e=>exact hr
 |ok fl =>
  cases fl with
  |ret o =>
   obtain⟨led,eo,eq1⟩:=hr;subst eo eq1;have ty:Shared.TypeIs { s with heap:=s.heap.push (Jp led) } (.ref s.heap.objs.size) "set":=⟨_,xu _ rfl,rfl⟩
   have m6:=cs.init.lookup;have m7:=cs.init.bind (.ref s.heap.objs.size)
   repeat (any_goals (first|assumption|wp_step))
   refine bB (codeAny_call_builtin (R:=wants (λr q2=>r=.none/\∃h' tk,q2={ s with heap:=h',toks:=tk }/\Z5 P w h' s.heap.objs.size ts/\∀b o,b<s.heap.objs.size->s.heap.get? b=a3 o->h'.get? b=a3 o) E) cs.init.plain PySem.F.entry_set_init (PySem.check_set_init_1 ty ?_)) λr2 q2 hr2=>?_
   .exact j91 (led:=led) (by simp[hh]) hl hts hn room λh' tk full old=>⟨rfl,h',tk,rfl,full,old⟩
   .cases r2 with
    |error e=>exact hr2
    |ok fl2 =>
     cases fl2 with
     |ret r3 =>
      obtain⟨e3,h',tk,e4,full,old⟩:=hr2;subst e3 e4
      repeat (any_goals (first|assumption|wp_step))
      exact q _ _ full old
     |_=>exact hr2.elim
  |_=>exact hr.elim
end
section
variable{X:Cx}{ρ:Rho}{a:ao}{p p1 p2 pos:aO}
theorem DE.lenSet {ts:List aj} (ha:DT X ρ a (.lst (ts.map D.str))) (hc:X.calm=a6) (room:ts.length+1<4096) (hm:X.mg "len" = a7) (hm2:X.mg "set" = a7) (hg:Gl X "len") (hg2:Gl X "set") (hs:a9 [a] X.env=[(a4,aA a X.env)])
  (hs2:a9 [.Call (.Name "set" p1) [a] [] p2] X.env=[(a4,aA (.Call (.Name "set" p1) [a] [] p2) X.env)]):DE X ρ (.Call (.Name "len" p) [.Call (.Name "set" p1) [a] [] p2] [] pos) (.int (dd ts).length):=λσ H Q R q pins s I=>by
 have inner:aq (ay X.prog X.w) X.A (aA (.Call (.Name "set" p1) [a] [] p2) X.env) (λu s2=>∃(S:aa)(H1:Hp),u=.ref S/\Inv X pins σ H1 s2/\j0 H H1/\Z5 X.prog X.w s2.heap S ts) X.xe s:=by
  refine aF (Jq I hg2 hm2 boot_set ?_);refine callWith_type1 (thn ((jd (es:=[]) peS jz hs).to (σ:=σ) (H:=H) (Q:=λvs H1=>∃(l:aa)(xs:List V),vs=[.ref l]/\j0 H H1/\SqL X.K H1 l xs/\j5 X.K H1 (ts.map D.str) xs) (ha σ H _ R λv H1 g ⟨l,xs,e,sq,en⟩=>⟨l,xs,by rw[e],g,sq,en⟩) p2 pins s I) λus s1 ⟨vs,H1,I1,r,l,xs,ev,g,sq,en⟩=>?_) hs rfl;subst ev;obtain⟨u,eu,r1⟩:=vals1 r;subst eu;cases(show u=aB l from r1);obtain⟨its,rv,pl,_⟩:=I1.list sq;rw[Rb en]at rv;have hlen:its.toArray.size=ts.length:=by rw[X7,<-rv.length,xg]
  refine j75 (ts:=ts) (I1.ok.hd hc) pl.isList (λi v hv=>?_) hlen (by show ts.length+1<4096;exact room) λh' tk full old=>?_
  .have hi:i<ts.length:=by have:=(Array.getElem?_eq_some_iff.mp hv).1;omega
   obtain⟨w1,hw,t,ew⟩:=rv.get (x:=.str ts[i]) (i:=i) (by rw[X6,kh hi];rfl);have:its.toArray[i]?=a3 w1:=by simpa using hw
   rw[this]at hv;cases hv;exact⟨ts[i],t,kh hi,ew⟩
  .exact⟨_,H1,rfl,I1.kept (t':=tk) λb o e=>old b o (X4 e) e,g,full⟩
 refine aF (Jq I hg hm eK ?_);refine dR (by rw[hs2];rfl) (hZ ?_);show aq _ _ (iR ((a4,aA _ X.env)::aY pos [])) _ _ s;refine eZ (thn inner λu s2 h2=>fe ?_);obtain⟨S,H1,rfl,I2,g,⟨o,es,ep,t,ho,hex,hd,hel,hmem,hb,hf,hn⟩⟩:=h2;refine call_len_set ho hex hd hf ?_ ?_
 .have:es.size<4096:=hb;omega
 .rw[hn];exact⟨.int _,H1,I2.tok _,⟨_,rfl⟩,q _ H1 g rfl⟩
end
section
variable{prog:av}{w:az}{A:aC}{E:k8n}{s:af}{d it vw:aa}{od:dz}{es:Array gx}{ep i:Nat}{ok ov:a8}
end
noncomputable def jgq(ks:List (List Int))(ds:List D):List D:=(ks.zip ds).map λp=>D.tup [.tup (p.1.map D.int),p.2]
section
variable{X:Cx}{ρ:Rho}{a b:ao}{es:List ao}{n:Nat}{pos p p1 p2 q1:aO}{ks:List (List Int)}{ds:List D}{k:List Int}
theorem j0p{P:av}{w:az}:∀{ks:List Int}{us:List a8},Vals (ks.map V.int) us->ItemsAre (fE P w) ks us
 |[],_,r=>by rw[d4]at r;cases r;exact .nil
 |k::ks,_,r=>by
  rw[Xa]at r;cases r with
  |cons h t =>
   obtain⟨tk,e⟩:=(show ∃t,_=bo k t from h)
   subst e;exact .cons (by simp[fE,ku]) (j0p t)
theorem Ca{pins:k8o}{σ:St}{H:Hp}{s:af}{t:aa}(I:Inv X pins σ H s)(sq:SqT X.K H t (k.map V.int)):(fD (fE X.prog X.w)).is s.heap k t:=by obtain⟨its,rv,⟨o,e1,e2,m,e3⟩,_⟩:=I.tuple sq;exact⟨o,its.toArray,m,e1,e2,e3,by simpa using j0p rv⟩
theorem j31{pins:k8o}{σ:St}{H:Hp}{s:af}{d:aa}{xs:List (List Int×aa×a8)}{ep:Nat}(I:Inv X pins σ H s)(hx:H d=a3 (.dI xs ep))(kt:∀x∈xs,SqT X.K H x.2.1 (x.1.map V.int)) :
  (d==eS)=a4/\xs.length<=ar/\s.heap.DictOfH (fD (fE X.prog X.w)) d xs:=by
 obtain⟨z1,z2,z3,od,en,h1,h2,h3,h4⟩:=(show jh X.prog X.w H s.heap d (.dI xs ep)from I.hok _ _ hx)
 exact⟨z2,z1,od,en,ep,h1,h2,h3,h4,λx hx=>Ca I (kt x hx),z3⟩
theorem j7h{xs:List (List Int×aa×a8)}:(jN xs k).isSome=(xs.map λx=>x.1).contains k:=by
 induction xs with
 |nil=>rfl
 |cons x xs ih =>
  unfold jN at ih ⊢;rw[Option.isSome_map]at ih ⊢;rw[jT,Xa,List.contains_cons];by_cases z:x.1=k
  .simp[z]
  .have z':(k==x.1)=a4:=by simp;exact λe=>z e.symm
   rw[decide_eq_false z,z',gH];exact ih
theorem any_range:∀bs:List Bool,(ax bs.length).any (λi=>(bs[i]?).getD a6)=bs.any id
 |[]=>rfl
 |b::bs=>by rw[X3,Td,dF,kF,dF,<-any_range bs];rfl
theorem j23 (hc:X.calm=a6):Jk X (.builtin "any") (λxs H Q=>∃(l:aa)(bs:List Bool),xs=[.ref l]/\SqL X.K H l (bs.map V.bl)/\Q (.bl (bs.any id)) H):=by
 intro pins s σ H xs us Q I r ⟨l,bs,e,sq,q⟩;subst e;obtain⟨u,eu,ru⟩:=vals1 r;subst eu;cases ru;obtain⟨its,rv,pl,_⟩:=I.list sq;have hlt:l<s.heap.objs.size:=by obtain⟨_,_,e,_⟩:=pl;exact X4 e
 have hl:its.length=bs.length:=by rw[<-rv.length,xg]
 refine call_any_walk (b8 pl.isList ⟨s.heap.objs.size,[s.heap.objs.size,l],[s.heap.objs.size],its.toArray.size,_,_,λi=>(bs[i]?).getD a6,rfl,Walks.list (A:=X.A.in1) (I.ok.hd hc) _ _ (Xd hlt) its.toArray,⟨⟨_,xu _ rfl,rfl,rfl⟩,pl.isList.push _⟩,?_,λh' tk kp=>?_⟩)
 .intro i v s' Q' E' hv hq;have hi:i<its.length:=by have:=Array.getElem?_eq_some_iff.mp hv;obtain⟨h,_⟩:=this;simpa using h
  have hb:i<bs.length:=by omega
  obtain⟨w1,hw,rw1⟩:=rv.get (x:=.bl bs[i]) (i:=i) (by rw[X6,kh hb];rfl);have:its.toArray[i]?=a3 w1:=by simpa using hw
  rw[this]at hv;cases hv;cases rw1;simp only[kh hb,dE]at hq;exact b7 hq
 .have ev:(ax its.toArray.size).any (λi=>(bs[i]?).getD a6)=bs.any id:=by rw[X7,hl];exact any_range bs
  rw[ev];refine⟨.bl _,H,I.kept (t':=tk) λb o e=>kp b o ?_ (km _ e),rfl,q⟩;intro z;rw[xj.mp z]at e;exact Xz _ (X4 e)
theorem DE.any {bs:List Bool} (ha:DT X ρ a (.lst (bs.map D.bl))) (hm:X.mg "any" = a7) (hc:X.calm=a6) (hg:Gl X "any") (hs:a9 [a] X.env=[(a4,aA a X.env)]):DE X ρ (.Call (.Name "any" p) [a] [] pos) (.bl (bs.any id)):=λσ H Q R q =>(vm (j23 hc) hg hm boot_any (jd peS jz hs) (by decide) (by decide) hs).to (ha σ H _ R λv H1 g1 ⟨l,xs,e,sq,en⟩=>⟨l,bs,by rw[e],by rw[Bc en]at sq;exact sq,q _ H1 g1 rfl⟩)
theorem DS.unp{i j:Nat}{x y:aj}{e:ao}{P:Po}{d d':D}(hij:i≠j)(he:DE X ρ e (.tup [d,d']))(h:P.nx ((ρ.set i (.val d)).set j (.val d')))(hc:X.calm=a6)(hN:X.N.Nodup)(hi:X.N[i]?=a3 x)(hj:X.N[j]?=a3 y)(hx:Loc X.env.scope x)(hy:Loc X.env.scope y)
  (fx:X.fn x=a6\/X.env.scope.names.lookup x=a3 .local) (fy:X.fn y=a6\/X.env.scope.names.lookup y=a3 .local)
  (hs:dX [.Tuple [.Name x p1,.Name y p2] n q1] e pos.line X.env=pure a4) (hw:dY [.Tuple [.Name x p1,.Name y p2] n q1] e X.env=pure a7) :
  DS X ρ (.Assign [.Tuple [.Name x p1,.Name y p2] n q1] e pos) P:=λσ H E R q=>by
 refine(j5b peS pgS hs hw).to (he σ H _ R λv H1 g1 e1=>?_);obtain⟨sub,hG⟩:=DG.pair (ρ:=ρ) (q1:=p1) (q2:=p2) (n:=n) (pos:=q1) (d:=d) (d':=d') i j hij hN hi hj hx hy fx fy hc;exact hG σ H1 v _ (R.grow g1) e1 λσ' R'=>q.nx _ σ' H1 h R' (j0.trans (Fr0.grow g1) (Fr0.drop sub))
end
def jiz:TE:=λ_ H Q=>∀p,H p=a7->Q (.ref p) (upd H p (.dI [] 0))
def jj7(K:k8m)(td ty tv:TE):TS:=λD σ H=>tv σ H λv H1=>td σ H1 λx H2=>ty σ H2 λy H3 =>
 ∃(a b:aa)(xs:List (List Int×aa×a8)) (ep:Nat) (k:List Int),x=.ref a/\H3 a=a3 (.dI xs ep)/\(∀x∈xs,SqT K H3 x.2.1 (x.1.map V.int))/\y=.ref b/\SqT K H3 b (k.map V.int) /\
  (xs.map λx=>x.1).contains k=a4/\xs.length<ar/\∀u ep',RelV v u->D.nx σ (upd H3 a (.dI (xs++[(k,b,u)]) ep'))
section
variable{X:Cx}{pos pos':aO}{o i value:ao}{td ty tv:TE}
theorem Inv.bigD{pins:k8o}{σ:St}{H:Hp}{s:af}(I:Inv X pins σ H s):eS<s.heap.objs.size:=by have h:au<s.heap.objs.size:=(I.mod.glob.keeps I.bk).lt;exact Pr (by decide) h
theorem jcc:PE X (.Dict [] [] pos) jiz:=λpins s σ H Q I h =>
 wpAny_Dict_empty ⟨.ref s.heap.objs.size,_,I.laid (a:=s.heap.objs.size) (o:=.dI [] 0) (t':=s.toks) (λ_ _ q=>km _ q) (xx _)
  ⟨Ti _,beq_eq_false_iff_ne.mpr (cS (Xd I.bigD)),eO,_,#[],xu _ rfl,⟨rfl,rfl,rfl⟩,rfl,rfl⟩,rfl,h _ (I.hok.fresh (xx _))⟩
theorem jc7(hu:X.A.units+100<aX)(ho:PE X o td)(hi:PE X i ty)(hv:PE X value tv)(hs:aZ value (a3 (.Subscript o i pos')) pos.line X.env=pure a4) :
  PS X (.Assign [.Subscript o i pos'] value pos) (jj7 X.K td ty tv):=by
 intro pins s σ H D I h;refine wpAny_Assign_Subscript (thn (hv pins s σ H _ I h) λr s1 ⟨v,H1,I1,rv,q1⟩=>thn (ho pins s1 σ H1 _ I1 q1) λu s2 ⟨x,H2,I2,rx,q2⟩=>thn (hi pins s2 σ H2 _ I2 q2) λiv s3 ⟨y,H3,I3,ry,hq⟩=>?_) hs;obtain⟨a,b,xs,ep,k,ex,hx,kt,ey,sq,nk,hl,q⟩:=hq;subst ex ey;cases rx;cases ry;obtain⟨lo,hz,dd⟩:=j31 I3 hx kt;refine wpAny_setItem_heap (hsz:=hz) (ka nofun) (Ca I3 sq) dd λh' dd' sb=>?_;have na:jN xs k=a7:=by
  have:=j7h (xs:=xs) (k:=k);rw[nk]at this;cases z:jN xs k with
  |none=>rfl
  |some _=>rw[z]at this;cases this
 rw[storedH_new na]at dd';obtain⟨ob,es,ep',w1,w2,w3,w4,w5,w6⟩:=dd';refine⟨σ,_,I3.write (x:=a) (e:=a) (o:=.dI (xs++[(k,b,r)]) ep') (t':=s3.toks+(fD (fE X.prog X.w)).draws k) (by rw[hx];exact True.intro) (.inl rfl) (λc z nc e=>(sb.2 c nc).trans e) ⟨ob,w1⟩ ?_,q r ep' rv⟩;exact⟨by simp;omega,lo,w6,ob,es,w1,w2,w3,w4⟩
end
section
variable{X:Cx}{ρ:Rho}{it e:ao}{P:Po}{ds:List D}{x t y:Nat}{nx nt ny:aj}{n8:Nat}{p1 p2 p3 p4 p5 p6 p7 p8 p9 p10 p11 p12 p13 p14 p15 p16 p17 p18:aO}
theorem jb4{H:Hp}{a:aa}{o:HO}(h:H a=a3 o):H=upd (del H [a]) a o:=funext λb=>by
 by_cases z:b=a
 .subst z;rw[jc];exact h
 .rw[jk z,j7 (by simpa using z)]
theorem j14{H:Hp}{a:aa}{o:HO}(h:H a=a7):del (upd H a o) [a]=H:=funext λb=>by
 by_cases z:b=a
 .subst z;rw[qy (by simp)];exact h.symm
 .rw[j7 (by simpa using z),jk z]
theorem j2o{H F:Hp}{a:aa}{o:HO}(h:H a=a3 o):mrg [a] H F=upd F a o:=funext λb=>by
 by_cases z:b=a
 .subst z;rw[Jb (by simp),jc];exact h
 .rw[jm (by simpa using z),jk z]
end
noncomputable def J6:List (List Int)->List D->List Int->Option D
 |k'::ks,d::ds,k=>if k'=k then a3 d else J6 ks ds k
 |_,_,_=>a7
theorem j32{K:k8m}{H:Hp}{k:List Int}{d:D}:∀{xs:List (List Int×aa×a8)} {ds:List D} {vs:List V},Vals vs (xs.map λx=>x.2.2)->j5 K H ds vs->J6 (xs.map λx=>x.1) ds k=a3 d->∃p v,jN xs k=a3 p/\RelV v p.2/\Enc K H d v
 |[],_,_,_,_,h=>by cases h
 |x::xs,[],_,_,_,h=>by cases h
 |x::xs,d'::ds,_,rv,⟨v,r,e,h1,l⟩,h=>by
  subst e;rw[Xa]at rv h;unfold jN;rw[jT];cases rv with
  |cons a b =>
   rw[J6]at h;by_cases z:x.1=k
   .rw[if_pos z]at h;cases h;rw[decide_eq_true z];exact⟨x.2,v,rfl,a,h1⟩
   .rw[if_neg z]at h;rw[decide_eq_false z];exact j32 b l h
section
variable{X:Cx}{ρ:Rho}{a b:ao}{d:D}{ds:List D}{ks:List (List Int)}{k:List Int}{pos p p1 p2 p3:aO}
theorem jjw(hu:X.A.units+100<aX):IxR X (λx y H Q=>∃(d:aa)(xs:List (List Int×aa×a8)) (ep:Nat) (t:aa) (k:List Int) (q:aa×a8) (v:V),x=.ref d/\y=.ref t/\H d=a3 (.dI xs ep)/\(∀x∈xs,SqT X.K H x.2.1 (x.1.map V.int))/\SqT X.K H t (k.map V.int)/\jN xs k=a3 q/\RelV v q.2/\Q v H):=by intro value slice pins s σ H x y v u Q I rx ry h hs;obtain⟨d,xs,ep,t,k,q,w,rfl,rfl,hx,kt,sq,hq,rq,hQ⟩:=h;cases rx;cases ry;obtain⟨lo,hz,dd⟩:=j31 I hx kt;exact lX dd.typeIs slot_dict_getitem.lookup (wpAny_getItem_heap (ka nofun) (Ca I sq) dd hq ⟨w,H,I.tok _,rq,hQ⟩) hs
theorem DE.dget(hu:X.A.units+100<aX)(ha:DE X ρ a (.dct ks ds))(hb:DT X ρ b (.tup (k.map D.int)))(h:J6 ks ds k=a3 d)(hs:Yg b):DE X ρ (.Subscript a b pos) d:=λσ H Q R q =>
 (N8 (jjw hu) peS peS hs).to (ha σ H _ R λv H1 g1 ⟨c,xs,ep,vs,e,hx,ek,kt,rv,l⟩=>hb σ H1 _ (R.grow g1) λu H2 g2 ⟨t,ys,e2,sq,l2⟩=>by
  rw[vq l2]at sq
  subst ek
  obtain⟨q',v',z1,z2,z3⟩:=j32 rv (l.mono (je g2)) h
  exact⟨c,xs,ep,t,k,q',v',e,e2,g2 _ _ (of_del hx).2,λx hx=>g2.seqT (q9.seqT (kt x hx)),sq,z1,z2,q v' H2 (g1.trans g2) z3⟩)
end
section
variable{prog:av}{w:az}{A:aC}{E:k8n}{s:af}{d it vw:aa}{od:dz}{es:Array gx}{ep i:Nat}
theorem jdt {Q:k8n} (ht:s.TypeIs (.ref d) "dict") (lo:(d==eS)=a4)
  (q:Q (.ref s.heap.objs.size) { s with heap:=s.heap.push { cls:=.type "dict_values",data:=.fields #[.ref d] } }):aq (ay prog w) A (call (.builtin "dict.values") [.ref d]) Q E s:=by
 refine bM hW ht F.entry_dict_values ?_ (F.args_dict_values_1 _);unfold dU.«dict.values»;refine a5 ?_;unfold Builtin.Dict.noArgs;refine a5 (wpAny_notOrdered_dict ht ?_);show aq _ _ (pure d) _ _ s;refine ah ?_;show aq _ _ (Builtin.Dict.showsAll d >>= _) _ _ s;unfold Builtin.Dict.showsAll;rw[if_neg (λz=>by rw[lo]at z;cases z)];exact a5 (ah (a5 (aM (ah ⟨_,rfl,q⟩))))
theorem jds{Q:k8n}(hv:s.heap.IsValuesView vw d)(ho:s.heap.get? d=a3 od)(hd:od.data=.dict es ep)
  (q:Q (.ref s.heap.objs.size) { s with heap:=s.heap.push { cls:=.type "dict_valueiterator",data:=.fields #[.ref d,.int 0 0,.int es.size 0,.int ep 0] } }) :
  aq (ay prog w) A (i4 (.ref vw)) Q E s:=by
 obtain⟨oz,z1,z2,z3⟩:=id hv;refine wpAny_pyIter_slot hv.typeIs ij (bM ij hv.typeIs F.entry_dict_values_iter ?_ (F.args_dict_values_iter_1 _));unfold dU.«dict_values.__iter__»;refine a5 (ah ?_);refine a5 ?_;unfold jB;refine a5 (cO z1 z3 (x:=.ref d) rfl (ah (a5 ?_)));unfold jA;refine a5 (fZ ho hd (a5 (gL ho hd ?_)));have own:cw "dict_valueiterator" = a4:=by decide
 simp only[own,Xp,if_false];refine aM (ah ⟨_,rfl,"dict_valueiterator",_,⟨_,xu _ rfl,rfl⟩,T6.lookup,?_⟩);simpa [dZ]using q
theorem jdr{e:gx}{Q:Option a8->af->Prop}(hit:s.heap.IsValIter it d i es.size ep)(ho:s.heap.get? d=a3 od)(hd:od.data=.dict es ep)(he:es[i]?=a3 e)
  (hQ:∀h',h'.IsValIter it d (i+1) es.size ep->cJ it s.heap h'->Q (a3 e.val) { s with heap:=h' }):aq (ay prog w) A (ck (.ref it)) Q E s:=by
 obtain⟨o,hoI,hc,hdI⟩:=id hit;unfold ck;refine a5 (ma (bN (name:=aK "__next__") hit.typeIs T6
  (bM T6 hit.typeIs fV ?_ (fO _))))
 refine a5 (ah ?_);refine a5 ?_;refine a5 ?_
 first|refine a5 (bR hit.typeIs (ah ?_))|refine a5 (cG hit.typeIs (ah ?_))
 refine a5 (lT hoI hdI ?_);have hown:cw "dict_valueiterator" = a4:=by decide
 simp only[hown,Xp,if_false];show aq _ _ (if (aB d==aV)=a6 then _ else _) _ _ s;rw[if_neg (λz=>by cases z)];refine a5 (ah ?_);refine a5 (fZ ho hd ?_);rw[if_neg (by simp)];refine a5 (ah ?_);refine a5 (gL ho hd ?_);rw[if_neg (by simp)];refine ah ?_;simp only[show ¬((i:Int)<0)from by omega,if_false,Xc,he];refine a5 ?_
 first|refine a5 (bR hit.typeIs (ah ?_))|refine a5 (cG hit.typeIs (ah ?_))
 refine a5 (f9 hit.typeIs ?_);show aq _ _ (setField (.ref it) 1 (dZ ((i:Int)+1)) >>= _) _ _ s;refine a5 (ff hoI hdI (by simp) ?_);have hit':(s.heap.update it (gJ (·.setIfInBounds 1 (dZ ((i:Int)+1))))).IsValIter it d (i+1) es.size ep :=
  ⟨_,eD _ hoI (ie (dk hdI _)),(jv ..).trans hc,by rw[dk hdI];simp[dZ]⟩
 refine a5 (aT ?_);refine a5 (f9 (s:={ s with heap:=s.heap.update it (gJ (·.setIfInBounds 1 (dZ ((i:Int)+1)))) }) hit'.typeIs ?_);refine a5 (f9 (s:={ s with heap:=s.heap.update it (gJ (·.setIfInBounds 1 (dZ ((i:Int)+1)))) }) hit'.typeIs ?_);show aq _ _ (pure e.val) _ _ _;exact ah (ah ⟨_,rfl,ah (hQ _ hit' (Xx ..))⟩)
theorem jhk{Q:Option a8->af->Prop}(hh:A.handled=a7)(hit:s.heap.IsValIter it d i es.size ep)(ho:s.heap.get? d=a3 od)(hd:od.data=.dict es ep)(hge:es.size<=i)
  (hQ:∀h',eM it s.heap h'->Q a7 { s with heap:=h' }):aq (ay prog w) A (ck (.ref it)) Q E s:=by
 obtain⟨o,hoI,hc,hdI⟩:=id hit;unfold ck;refine a5 (ma (bN (name:=aK "__next__") hit.typeIs T6
  (bM T6 hit.typeIs fV ?_ (fO _))))
 refine a5 (ah ?_);refine a5 ?_;refine a5 ?_
 first|refine a5 (bR hit.typeIs (ah ?_))|refine a5 (cG hit.typeIs (ah ?_))
 refine a5 (lT hoI hdI ?_);have hown:cw "dict_valueiterator" = a4:=by decide
 simp only[hown,Xp,if_false];show aq _ _ (if (aB d==aV)=a6 then _ else _) _ _ s;rw[if_neg (λz=>by cases z)];refine a5 (ah ?_);refine a5 (fZ ho hd ?_);rw[if_neg (by simp)];refine a5 (ah ?_);refine a5 (gL ho hd ?_);rw[if_neg (by simp)];refine ah ?_;simp only[show ¬((i:Int)<0)from by omega,if_false,Xc,Array.getElem?_eq_none hge];refine a5 ?_
 first|refine a5 (bR hit.typeIs (ah ?_))|refine a5 (cG hit.typeIs (ah ?_))
 show aq _ _ (setField (.ref it) 0 .none >>= _) _ _ s;refine a5 (ff hoI hdI (by simp) ?_);show aq _ _ (lV (.type "StopIteration") [] >>= _) _ _ _;refine a5 ?_;simp only[lV,newTuple];refine a5 (aM ?_ (by size_fits));refine a5 (m:=fi _ _) (d6 (a:=aV) (by first|rfl|(simp only[fi];rfl)) ?_);refine aM ?_ (by size_fits);simp only[raiseNew];refine a5 (m9 ?_);rw[show A.in1.handled=a7 from hh];refine a5 (ah (wpAny_throw ?_));refine a5 (wpAny_isInstance (T:="StopIteration") (b:=a6) ⟨_,xu _ rfl,rfl⟩ isSubtype_stop ?_);exact ah (hQ _ (((Xx ..).extBut.push _).push _))
theorem j9g(hh:A.handled=a7)(I:aa)(hne:d≠I)(hd:od.data=.dict es ep):Walks prog w A I [I,d] [I] es.size (λi v=>∃e,es[i]?=a3 e/\v=e.val) (λi h=>h.IsValIter I d i es.size ep/\h.get? d=a3 od) where
 sub:=λb hb=>by simp at hb;simp[hb]
 frame:=λ_ _ _ st hk=>⟨let ⟨o,ho,x⟩:=st.1;⟨o,hk I (by simp) o ho,x⟩,hk d (by simp) _ st.2⟩
 item:=λi s Q E hi st hQ=>by refine jdr st.1 st.2 hd (cb hi) λh' hit' hs'=>?_;exact hQ _ h' s.toks ⟨_,cb hi,rfl⟩ ⟨hit',hs'.extBut _ _ hne st.2⟩ λb o hb e=>hs'.extBut b o (λh=>hb (by simp[h])) e
 done:=λs Q E st hQ=>jhk hh st.1 st.2 hd (xx _) λh' he'=>hQ h' s.toks λb o hb e=>he' b o (λh=>hb (by simp[h])) e
 self:=λ_ _ _ _ st hQ=>wpAny_pyIter_valiter st.1 hQ
theorem jhj (hd:od.data=.dict es ep):fN prog w "dict_values" vw d es.size (λi v=>∃e,es[i]?=a3 e/\v=e.val) (λh=>h.IsValuesView vw d/\h.get? d=a3 od) where
 type:=λ_ hm=>hm.1.typeIs
 there:=λ_ hm=>⟨let ⟨_,ho,_⟩:=hm.1;X4 ho,X4 hm.2⟩
 keep:=λ_ _ hm hk=>⟨let ⟨o,ho,x⟩:=hm.1;⟨o,hk vw (.inl rfl) o ho,x⟩,hk d (.inr rfl) _ hm.2⟩
 notList:=by decide
 notTuple:=by decide
 hint:=λ_ _ _ _ hm hq=>W.kdl_hint_values hm.1.typeIs hq
 iter:=λ_ _ hh hm=>⟨_,_,(λ_ _ hq=>jds hm.1 hm.2 hd hq),j9g hh _ (Xd (X4 hm.2)) hd,⟨⟨_,xu _ rfl,rfl,rfl⟩,km _ hm.2⟩⟩
end
section
variable{prog:av}{w:az}{A:aC}{E:k8n}{s:af}{T:String}{r d:aa}{n:Nat}{P:Nat->a8->Prop}{OK:aD->Prop}
theorem j21{Q:List a8->af->Prop}(K:fN prog w T r d n P OK)(hh:A.handled=a7)(hok:OK s.heap)(hn:n<=ar)
  (hQ:∀(h':aD)(tk:Nat)(acc:Array a8),(∀b o,s.heap.get? b=a3 o->h'.get? b=a3 o)->kE P acc n->Q acc.toList { s with heap:=h',toks:=tk }):aq (ay prog w) A (collect (.ref r)) Q E s:=by
 have hlt:=K.there _ hok;have hS:(s.heap.push { cls:=.type "list",data:=.seq ([]:List a8).toArray }).get? s.heap.objs.size=a3 { cls:=.type "list",data:=.seq ([]:List a8).toArray }:=xu _ rfl;have key:∀R:fm->af->Prop,(∀(h':aD)(tk:Nat)(acc:Array a8)(c:Nat),(∀b o,s.heap.get? b=a3 o->h'.get? b=a3 o)->h'.get? s.heap.objs.size=a3 { cls:=.type "list",dict:=a7,data:=.seq acc c,slots:=#[] }->kE P acc n->R (.ok (.ret (.ref s.heap.objs.size))) { s with heap:=h',toks:=tk }) ->
   c8 (ay prog w) A (.builtin "proto.collect" ⟨[.ref r],[]⟩) R s:=λR hR=>by
  refine aI F.entry_proto_collect ?_;rw[Xo F.plain_proto_collect _];show aq _ A.in1 (newList [] >>= λl=>iI (.builtin "list.__iadd__" ⟨[l,.ref r],[]⟩)) _ _ s;refine a5 (aM ?_);refine ah ⟨aP jY _,aI F.entry_list_iadd ?_⟩;rw[Xo jY _];show aq _ A.in1 (lI (.ref s.heap.objs.size) (.ref r) (.ref s.heap.objs.size)) _ _ _;exact W.kdl_extend (R:=R) (s:={ s with heap:=s.heap.push { cls:=.type "list",data:=.seq ([]:List a8).toArray } }) K hh (K.keep _ _ hok λb _ o e=>km _ e) _ (Py hlt.1) (Py hlt.2) _ 0 hS
   (λh' tk acc c kp hS' hacc=>hR h' tk acc c (λb o e=>kp b o (Xd (X4 e)) (km _ e)) hS' hacc) hn
 unfold collect;refine a5 (lS (key _ λh' tk acc c kp hS' hacc=>?_));show aq _ A (load s.heap.objs.size >>= _) _ _ _;refine a5 (wpAny_load hS' ?_);exact ah (hQ h' tk acc kp hacc)
theorem Cv {Q:k8n} (K:fN prog w T r d n P OK) (hh:A.handled=a7) (hok:OK s.heap) (hsz:n<=ar) (hTt:(bV T==bV "tuple")=a4)
  (hQ:∀(h':aD)(tk:Nat)(acc:Array a8),(∀b o,s.heap.get? b=a3 o->h'.get? b=a3 o)->kE P acc n->Q (.ref h'.objs.size) { s with heap:=h'.push { cls:=.type "tuple",data:=.seq acc },toks:=tk }) :
  aq (ay prog w) A (call (.type "tuple") [.ref r]) Q E s:=by
 refine callType_codes (Q₁:=λobj s₁=>s₁.TypeIs obj "tuple"/\Q obj s₁) F.called_tuple (F.typeCall_tuple_1 _) F.entry_object_init ?_ λobj s₁ h₁ =>⟨h₁.1,iP obj _,object_init_meets F.called_tuple.init.lookup F.called_tuple.made (by decide) prog w A.in1 _ s₁ ⟨h₁.1,rfl,h₁.2⟩⟩
 refine lK ?_;show aq _ A.in1.in1 (do checkBuiltinCall "tuple.__new__" ⟨[.type "tuple",.ref r],[]⟩;iI (.builtin "tuple.__new__" ⟨[.type "tuple",.ref r],[]⟩)) _ _ s;refine a5 (d6 (F.newCall_tuple_1 _) (ah ⟨aP jX _,aI F.entry_tuple_new ?_⟩));rw[Xo jX _];have hsub:=sub_tuple_self;have hinit:=init_tuple_lookup;have hmh:=madeHere_tuple;have hTI:=K.type s hok;have hn:=hsz
 wp_walk using wpAny_typeOf hTI,j21 (A:=A.in1.in1) K hh hok hn
 intro h' tk acc kp hacc;show aq _ _ (be acc.toList.toArray >>= λv=>ret v) _ _ _;unfold be;refine a5 (aM ?_ (by show acc.toList.toArray.size<=ar;simp only[Array.toArray_toList];rw[hacc.1];exact hsz));refine ah ?_;have e:acc.toList.toArray=acc:=by simp
 rw[e];exact⟨⟨_,xu _ rfl,rfl⟩,hQ h' tk acc kp hacc⟩
end
section
variable{X:Cx}{ρ:Rho}{a:ao}{ds:List D}{ks:List (List Int)}{pos p p1 p2:aO}
theorem j0y{P:av}{w:az}{en:Array gx}{xs:List (List Int×aa×a8)}{acc:Array a8}(h:en.toList=xs.map (ke (fD (fE P w))))(ha:kE (λi v=>∃e,en[i]?=a3 e/\v=e.val) acc en.size):acc=(xs.map λx=>x.2.2).toArray:=by
 obtain⟨h1,h2⟩:=ha;have hl:en.size=xs.length:=by have:=congrArg cR h;simpa using this
 apply Array.ext';refine sy λi=>?_;rw[eW,X6];by_cases hi:i<acc.size
 .have hv:acc[i]?=a3 acc[i]:=cb hi;obtain⟨e,he,ev⟩:=h2 i _ hv;have he':en.toList[i]?=a3 e:=by simpa using he
  rw[h,X6]at he';rw[gX,hv,ev];obtain⟨x,hx,ex⟩:=Pb.mp he';rw[hx,<-ex];rfl
 .rw[Pj (by simpa using hi),Pj nofun];rfl
theorem DE.tupVals (ha:DE X ρ a (.dct ks ds)) (hc:X.calm=a6) (hm:X.mg "tuple" = a7) (hg:Gl X "tuple") (hbase:bf a "values" X.env (aA a X.env)=aA a X.env) (hline:(p1.endLine==p2.line)=a6)
  (hs2:a9 [.Call (.Attribute a "values" p1) [] [] p2] X.env=[(a4,aA (.Call (.Attribute a "values" p1) [] [] p2) X.env)]):DE X ρ (.Call (.Name "tuple" p) [.Call (.Attribute a "values" p1) [] [] p2] [] pos) (.tup ds):=λσ H Q R q pins s I=>by
 refine aF (Jq I hg hm boot_tuple ?_);refine callWith_type1 ?_ hs2 rfl;rw[hs2];show aq _ _ (iR ((a4,aA _ X.env)::aY pos [])) _ _ s;refine eZ ?_;refine wpAny_Call_method0_late hbase hline (thn (ha σ H (λv H'=>j0 H H'/\Enc X.K (del H' (owns ρ)) (.dct ks ds) v) R (λv H' g e=>⟨g,e⟩) pins s I) λv s1 ⟨x,H1,I1,r1,g1,en⟩=>?_);obtain⟨d,xs,ep,vs,ex,hx,ek,kt,rv,l⟩:=en;subst ex ek;cases r1;have hx1:H1 d=a3 (.dI xs ep):=(of_del hx).2;obtain⟨z1,z2,z3,od,en,h1,h2,h3,h4⟩:=(show jh X.prog X.w H1 s1.heap d (.dI xs ep)from I1.hok _ _ hx1)
 have hsz:en.size=xs.length:=by have:=congrArg cR h4;simpa using this
 refine⟨"dict","dict.values",PySem.F.plainAttrs_dict,hW,PySem.F.type_dict_values,⟨od,h1,h2.1⟩,λb e=>by cases e;exact⟨od,h1,h2.2.1⟩,dR rfl (PySem.evalArgs_none (jdt ⟨od,h1,h2.1⟩ z2 ?_))⟩;refine fe ?_;have v1:(s1.heap.push { cls:=.type "dict_values",data:=.fields #[.ref d] }).get? s1.heap.objs.size=a3 { cls:=.type "dict_values",data:=.fields #[.ref d] }:=xu _ rfl;have I2:=I1.kept (t':=s1.toks) (h':=s1.heap.push { cls:=.type "dict_values",data:=.fields #[.ref d] }) λb o e=>km _ e;refine Cv (jhj (vw:=s1.heap.objs.size) (d:=d) (od:=od) h3) (I1.ok.hd hc) ⟨⟨_,v1,rfl,rfl⟩,km _ h1⟩ (by rw[hsz];exact z1) (by decide) λh' tk acc kp hacc=>?_;have ea:=j0y h4 hacc;subst ea;have I3:Inv X pins σ H1 { s1 with heap:=h',toks:=tk }:=I2.kept (t':=tk) (h':=h') kp;have hf:H1 h'.objs.size=a7:=I3.hok.fresh (xx _);have hl:=rv.length;have hxl:vs.length<=ar:=by rw[hl,xg];exact z1
 have I4:=I3.laid (a:=h'.objs.size) (o:=.tup vs) (t':=tk) (h':=h'.push { cls:=.type "tuple",data:=.seq (xs.map λx=>x.2.2).toArray }) (λb u q=>km _ q) (xx _) ⟨hxl,_,rv,IsTup.new _ _,Zx.new _ _⟩;have nt:h'.objs.size∉owns ρ:=(R.grow g1).fresh hf;exact⟨.ref h'.objs.size,_,I4,rfl,q _ _ (g1.trans (j8 hf)) ⟨h'.objs.size,vs,rfl,.inl (.inl (by rw[j7 nt];exact jc)),l.mono (je (j8 hf))⟩⟩
end
section
variable{X:Cx}{ρ:Rho}{it e1 e2:ao}{P:Po}{ds:List D}{x t y:Nat}{nx nt ny:aj}{p1 p2 p3 p4 p5 p6 p10 p11 p12 p14 p16 p17 p18:aO}
noncomputable abbrev jak(nx nt ny:aj)(it e1 e2:ao)(p1 p2 p3 p4 p5 p6 p10 p11 p12 p14 p16 p17 p18:aO):List bp :=
 [.Assign [.Name nx p1] (.Dict [] [] p2) p3,.For (.Name nt p4) it [.Assign [.Name ny p5] e1 p6,.Assign [.Subscript (.Name nx p10) (.Name nt p11) p12] e2 p14] [] p16,.Return (a3 (.Name nx p17)) p18]
theorem J3:∀ns:List Int,zc (ns.map D.int)=a6
 |[]=>rfl
 |n::ns=>by rw[Xa,zc,J3 ns];rfl
theorem j00{α:Type}:∀{l:List α}{i:Nat}{x:α},l[i]?=a3 x->l.set i x=l
 |[],_,_,_=>rfl
 |y::l,0,x,h=>by simp at h;subst h;rfl
 |y::l,i+1,x,h=>by rw[t7,j00 (by simpa using h)]
theorem j9e{K:k8m}{H:Hp}{A:List aa}(hA:∀a∈A,Hd (H a)){ds:List D}{vs:List V}(n:zc ds=a6)(h:j5 K H ds vs):j5 K (del H A) ds vs:=j5.hide hA n h
theorem DSs.nmake(W:Nat->Rho->List (List Int)->List Int->Prop)(rx:x<ρ.length)(rt:t<ρ.length)(ry:y<ρ.length)(hxt:x≠t)(hxy:x≠y)(hty:t≠y)(hi:DI X (ρ.set x .un) (.Name nt p4) it ds)(h0:W 0 (ρ.set x .un) [] [])
  (hs:∀i d ρ' ks ns,ds[i]?=a3 d->W i ρ' ks ns->∃k d1 n,d=.tup (k.map D.int)/\DE X (ρ'.set t (.val d)) e1 d1/\DE X (((ρ'.set t (.val d)).set y (.val d1)).set x (.val (.dct ks (ns.map D.int)))) e2 (.int n) /\
   ks.contains k=a4/\ks.length<ar/\W (i+1) ((ρ'.set t (.val d)).set y (.val d1)) (ks++[k]) (ns++[n]))
  (hd:∀ρ' ks ns,W ds.length ρ' ks ns->P.rt (.val (.dct ks (ns.map D.int))))
  (hu:X.A.units+100<aX) (hc:X.calm=a6) (hp:gw (ay X.prog X.w) X.A X.env X.xe) (hN:X.N.Nodup) (hX:X.N[x]?=a3 nx) (hT:X.N[t]?=a3 nt) (hY:X.N[y]?=a3 ny)
  (lx:Loc X.env.scope nx) (lt:Loc X.env.scope nt) (ly:Loc X.env.scope ny) (fx:X.fn nx=a6\/X.env.scope.names.lookup nx=a3 .local) (ft:X.fn nt=a6\/X.env.scope.names.lookup nt=a3 .local) (fy:X.fn ny=a6\/X.env.scope.names.lookup ny=a3 .local)
  (dx:(nx==k8q)=a4) (cx:(nx==k8r)=a4) (dt:(nt==k8q)=a4) (ct:(nt==k8r)=a4)
  (s1:aZ (.Dict [] [] p2) (a3 (.Name nx p1)) p3.line X.env=pure a4) (s2:aZ e1 (a3 (.Name ny p5)) p6.line X.env=pure a4)
  (s3:aZ e2 (a3 (.Subscript (.Name nx p10) (.Name nt p11) p12)) p14.line X.env=pure a4) (hf:∀x,aH it X.env x=pure x) :
  DSs X ρ (jak nx nt ny it e1 e2 p1 p2 p3 p4 p5 p6 p10 p11 p12 p14 p16 p17 p18) P:=λσ H E R q=>by
 have vis:∀{z:aj},Loc X.env.scope z->Vis X.env.scope z:=λh=>h.elim .inl λz=>.inr (.inl z);refine(W2 (Ur hN hX lx jcc s1 fx) (W2 (j5a hp hc piS (M5 hN hT lt ft) (W2 (Ur hN hY ly peS s2 fy)
  (j2h (jc7 hu (Ql hX (vis lx) dx cx) (Ql hT (vis lt) dt ct) peS s3))) hf)
  (j2h (Wv (Ql hX (vis lx) dx cx))))).to ?_
 intro a ha;have R0:Rep X.K (ρ.set x .un) (σ.set x (a3 (.ref a))) H:=R.set_un;have hxl:x<σ.length:=by rw[R.len];exact rx
 refine j3n (A:=[a]) (R':=λJ F=>j0 H F/\Uk X.K (del F (owns (ρ.set x .un))) J ds) (λb hb=>.inr ⟨[],0,by rw[xj.mp hb];exact jc⟩) (by rw[j14 ha];exact hi _ H _ R0 λJ F g ok=>⟨g,ok⟩) λJ F ⟨g,ok⟩ hn=>?_;rw[j2o jc];have fa:F a=a7:=hn a (by simp);refine⟨λi m σ' H'=>∃ρ' Fh xs ep ns,H'=upd Fh a (.dI xs ep)/\Fh a=a7/\Rep X.K ρ' σ' Fh/\j0 F Fh/\(∀b∈owns ρ',b∈owns (ρ.set x .un))/\ρ'.length=ρ.length/\σ'[x]?=a3 (a3 (.ref a)) /\
   (∀z∈xs,SqT X.K Fh z.2.1 (z.1.map V.int))/\Vals (ns.map V.int) (xs.map λz=>z.2.2)/\W i ρ' (xs.map λz=>z.1) ns/\m=ds.length-i/\i<=ds.length,
  ⟨ds.length,ρ.set x .un,F,[],0,[],rfl,fa,R0.grow g,j0.refl _,λb hb=>hb,by simp,Wr hxl,λz hz=>(nomatch hz),.nil,h0,rfl,Ti _⟩,?_⟩
 rintro i m σ' H' ⟨ρ',Fh,xs,ep,ns,rfl,fha,R',gF,sub,hL,sx,kt,rv,w,rfl,hle⟩;have gU:j0 Fh (upd Fh a (.dI xs ep)):=j8 fha;obtain⟨go,stop,yld⟩:=ok i (upd Fh a (.dI xs ep)) (a::owns ρ') (λb o eb=>by
  obtain⟨nb,eb⟩:=of_del eb
  have nba:b≠a:=λz=>by rw[z,fa]at eb;cases eb
  rw[j7,jk nba]
  .exact gF b o eb
  .intro z
   rcases xn.mp z with z|z
   .exact nba z
   .exact nb (sub b z)) (λb hb=>by
  rcases xn.mp hb with z|z
  .rw[z,jc];simp
  .obtain⟨ys,eb⟩:=R'.owned b z
   rw[gU _ _ eb];simp)
 by_cases hlt:i<ds.length
 .obtain⟨k,d1,n,ed,hE,hE2,nk,hkl,w'⟩:=hs i ds[i] ρ' _ ns (kh hlt) w;refine .inr ⟨go hlt,λσ2 H2=>∃ρ2 Fh2 xs2 ep2 ns2,H2=upd Fh2 a (.dI xs2 ep2)/\Fh2 a=a7/\Rep X.K ρ2 σ2 Fh2/\j0 F Fh2/\(∀b∈owns ρ2,b∈owns (ρ.set x .un))/\ρ2.length=ρ.length/\σ2[x]?=a3 (a3 (.ref a)) /\
   (∀z∈xs2,SqT X.K Fh2 z.2.1 (z.1.map V.int))/\Vals (ns2.map V.int) (xs2.map λz=>z.2.2)/\W (i+1) ρ2 (xs2.map λz=>z.1) ns2,
   λσ2 H2 ⟨ρ2,Fh2,xs2,ep2,ns2,z1,z2,z3,z4,z5,z5',z6,z7,z8,z10⟩=>⟨ds.length-(i+1),by omega,ρ2,Fh2,xs2,ep2,ns2,z1,z2,z3,z4,z5,z5',z6,z7,z8,z10,rfl,hlt⟩,λv H2 yv=>?_⟩
  obtain⟨g2,en⟩:=yld v H2 yv;have en:=en _ (kh hlt);have h2a:H2 a=a3 (.dI xs ep):=g2 _ _ jc;have e2:H2=upd (del H2 [a]) a (.dI xs ep):=jb4 h2a;have f2a:del H2 [a] a=a7:=qy (by simp);have gF2:j0 Fh (del H2 [a]):=λb o eb=>by
   have nb:b≠a:=λz=>by rw[z,fha]at eb;cases eb
   rw[j7 (by simpa using nb)];exact g2 b o (gU b o eb)
  have en2:Enc X.K (del (del H2 [a]) (owns ρ')) ds[i] v:=by rw[Zk];exact en
  generalize del H2 [a]=F2 at e2 f2a gF2 en2;subst e2;have R2:Rep X.K (ρ'.set t (.val ds[i])) (σ'.set t (a3 v)) F2:=(R'.grow gF2).set_val en2;have sub2:∀b∈owns (ρ'.set t (.val ds[i])),b∈owns (ρ.set x .un):=λb hb=>sub b ((jy rfl).subset hb);show Qf X e1 (σ'.set t (a3 v)) (upd F2 a (.dI xs ep)) _;refine j3o (A:=[a]) (Q':=λv F3=>j0 F2 F3/\Enc X.K (del F3 (owns (ρ'.set t (.val ds[i])))) d1 v) (λb hb=>.inr ⟨xs,ep,by rw[xj.mp hb];exact jc⟩) (by rw[j14 f2a];exact hE _ F2 _ R2 λv F3 g e=>⟨g,e⟩) λv3 F3 ⟨g3,en3⟩ hn3=>?_;rw[j2o jc];have f3a:F3 a=a7:=hn3 a (by simp);have R3:Rep X.K ((ρ'.set t (.val ds[i])).set y (.val d1)) ((σ'.set t (a3 v)).set y (a3 v3)) F3:=(R2.grow g3).set_val en3;have sub3:∀b∈owns ((ρ'.set t (.val ds[i])).set y (.val d1)),b∈owns (ρ.set x .un):=λb hb=>sub2 b ((jy rfl).subset hb);have sx3:((σ'.set t (a3 v)).set y (a3 v3))[x]?=a3 (a3 (.ref a)):=by rw[zq (cS hxy),zq (cS hxt)];exact sx
  have lenN:σ'.length=ρ.length:=by rw[R'.len,hL]
  have htl:t<σ'.length:=by rw[lenN];exact rt
  have hL3:((ρ'.set t (.val ds[i])).set y (.val d1)).length=ρ.length:=by rw[Ph,Ph,hL]
  have st3:((σ'.set t (a3 v)).set y (a3 v3))[t]?=a3 (a3 v):=by rw[zq (cS hty)];exact Wr htl
  have kt3:∀z∈xs,SqT X.K F3 z.2.1 (z.1.map V.int):=λz hz=>g3.seqT (gF2.seqT (kt z hz));rw[ed]at en2;obtain⟨tb,ys,ev,sq,li⟩:=en2;rw[vq li]at sq;subst ev;have sq3:SqT X.K F3 tb (k.map V.int):=g3.seqT (q9.seqT sq);clear R2;show Qf X e2 ((σ'.set t (a3 (V.ref tb))).set y (a3 v3)) (upd F3 a (.dI xs ep)) _;generalize (σ'.set t (a3 (V.ref tb))).set y (a3 v3)=σ3 at R3 sx3 st3 ⊢;generalize (ρ'.set t (.val ds[i])).set y (.val d1)=ρ3 at R3 sub3 hL3 hE2 w' ⊢;have g4:j0 F3 (upd F3 a (.dI xs ep)):=j8 f3a;have hO:∀b∈owns ρ3,Hd (upd F3 a (.dI xs ep) b):=λb hb=>.inl (let ⟨zs,e⟩:=R3.owned b hb;⟨zs,g4 _ _ e⟩);have na:a∉owns ρ3:=λz=>by obtain⟨zs,e⟩:=R3.owned a z;rw[f3a]at e;cases e
  have R4:Rep X.K (ρ3.set x (.val (.dct (xs.map λz=>z.1) (ns.map D.int)))) σ3 (upd F3 a (.dI xs ep)):=by
   have z:=(R3.grow g4).set_val (i:=x) (d:=.dct (xs.map λz=>z.1) (ns.map D.int)) (v:=.ref a) ⟨a,xs,ep,ns.map V.int,rfl,by rw[j7 na];exact jc,rfl,λz hz=>?_,rv,j9e hO (J3 ns) (j5.ints ns)⟩
   .rw[j00 sx3]at z;exact z
   .have e:Enc X.K (upd F3 a (.dI xs ep)) (.tup (z.1.map D.int)) (.ref z.2.1):=⟨_,_,rfl,g4.seqT (kt3 z hz),j5.ints z.1⟩
    obtain⟨b,zs,e1,e2,e3⟩:=e.hide hO (by rw[Qq];exact J3 z.1);cases e1;rw[vq e3]at e2;exact e2
  refine hE2 σ3 _ _ R4 λv4 H4 g5 en4=>?_;cases(show v4=.int n from en4);have h4a:H4 a=a3 (.dI xs ep):=g5 _ _ jc;have f4a:del H4 [a] a=a7:=qy (by simp);have gF4:j0 F3 (del H4 [a]):=λb o eb=>by
   have nb:b≠a:=λz=>by rw[z,f3a]at eb;cases eb
   rw[j7 (by simpa using nb)];exact g5 b o (g4 b o eb)
  have gU4:j0 (del H4 [a]) H4:=q9;refine⟨.ref a,sx3,.ref tb,st3,a,tb,xs,ep,k,rfl,h4a,λz hz=>gU4.seqT (gF4.seqT (kt3 z hz)),rfl,gU4.seqT (gF4.seqT sq3),nk,by rw[xg]at hkl;exact hkl,λu ep' ru=>?_⟩;refine⟨ρ3,del H4 [a],xs++[(k,tb,u)],ep',ns++[n],?_,f4a,R3.grow gF4,gF.trans (gF2.trans (g3.trans gF4)),sub3,hL3,sx3,λz hz=>?_,?_,by rw[Pq];exact w'⟩
  .funext b
   by_cases z:b=a
   .subst z;rw[jc,jc]
   .rw[jk z,jk z,j7 (by simpa using z)]
  .rcases Xy.mp hz with hz|hz
   .exact gF4.seqT (kt3 z hz)
   .rw[xj.mp hz];exact gF4.seqT sq3
  .rw[Pq,Pq];exact rv.append (.cons ru .nil)
 .have e:i=ds.length:=by omega
  subst e;refine .inl ⟨stop (xx _),.ref a,sx,?_⟩;refine q.rt (.val (.dct _ (ns.map D.int))) (.ref a) _ (hd ρ' _ ns w) ⟨λb o eb=>gU b o (gF b o (g b o (of_del eb).2)),a,xs,ep,ns.map V.int,rfl,jc,rfl,λz hz=>gU.seqT (kt z hz),rv,j5.ints ns⟩
end
section
variable{X:Cx}{ρ:Rho}{a e:ao}{l:List D}{d:D}{p1 pos:aO}
noncomputable def ixD(d:D):List D->Option Nat
 |[]=>a7
 |x::r=>if deq x d=a6 then a3 0 else(ixD d r).map (· + 1)
end
section
variable{X:Cx}{pins:k8o}{σ:St}{H:Hp}{l q S I:aa}{xs:List V}{R:fm->af->Prop}
def ja8(X:Cx)(σ:St)(H:Hp)(q:aa)(xs:List V)(kf:Nat->Int):Prop:=∀(i:Nat)(x:V)(u:a8),xs[i]?=a3 x->RelV x u->∀(pl:k8o) (s:af) (H1:Hp),j0 H H1->Inv X pl σ H1 s ->
 aq (ay X.prog X.w) X.A.in1 (call (.ref q) [u]) (λr s'=>∃t H2,r=.int (kf i) t/\j0 H1 H2/\Inv X pl σ H2 s') (λ_ _=>False) s
def J2(kf:Nat->Int)(n i:Nat):Prop:=∀j,j<n->kf i<=kf j/\(j<i->kf i<kf j)
theorem jcm(kf:Nat->Int)(hh:X.A.handled=a7)(hl:∀H1,j0 H H1->SqL X.K H1 l xs)(hSI:S≠I)(fS:zm X pins H S)(fI:zm X pins H I)(turn:ja8 X σ H q xs kf)
  (hR:∀i x u s' H',xs[i]?=a3 x->RelV x u->J2 kf xs.length i->j0 H H'->Inv X pins σ H' s'->R (.ok (.ret u)) s') :
  ∀(r j i:Nat)(s:af)(H1:Hp)(x:V)(u:a8)(t:gO)(c:Nat),xs.length-(j+1)=r->j+1<=xs.length->j0 H H1->H1 S=a7->H1 I=a7->Inv X pins σ H1 s->s.heap.get? S=a3 (bc "list" #[u,.int (kf i) t] c) ->
   s.heap.IsListIter I l (j+1)->xs[i]?=a3 x->RelV x u->i<=j->J2 kf (j+1) i->c8 (ay X.prog X.w) X.A (.builtin "min.loop" ⟨[.ref I,.ref q,.ref S],[]⟩) R s:=by
 have hname:(toString "min" ++ toString ".loop":String) = "min.loop":=by decide
 have fp:∀{H1:Hp},H1 S=a7->H1 I=a7->∀b∈[S,I],zm X pins H1 b:=λ{H1} nS nI b hb=>by
  rcases xn.mp hb with e|hb
  .subst e;exact⟨nS,fS.2⟩
  .rw[xj.mp hb];exact⟨nI,fI.2⟩
 intro r;induction r with
 |zero =>
  intro j i s H1 x u t c hr hj g1 nS nI I1 oS it hx ru hij hb;have hin:j+1=xs.length:=by omega
  obtain⟨its,rv,p,_⟩:=I1.list (hl H1 g1);have hlen:=rv.length;refine aI Tf ?_;rw[Xo Xk _];show aq _ X.A.in1 (bW (.ref S) >>= _) _ _ _;refine a5 (ba oS rfl ?_);show aq _ X.A.in1 (tryCatch (ck (.ref I)) _ >>= _) _ _ _;refine a5 (aN (bX hh it p.isList (by simp;omega) λh' eb=>?_));have I2:Inv X pins σ H1 { s with heap:=h' }:=I1.chg (ch:=[S,I]) (fp nS nI) λb o hb e=>eb b o (λz=>hb (by simp[z])) e;have oS':h'.get? S=a3 (bc "list" #[u,.int (kf i) t] c):=eb S _ hSI oS;show aq _ X.A.in1 (fC S (λ_=>#[]) >>= _) _ _ _;refine a5 ?_;refine bA oS' rfl (a5 (bC (ah ?_)));have s1:=Xx h' S (aS λ_=>(#[]:Array a8));exact hR i x u _ H1 hx ru (hin▸hb) g1 (I2.chg (ch:=[S,I]) (fp nS nI) λb o hb e=>(s1.2 b (λz=>hb (by simp[z]))).trans e)
 |succ r ih =>
  intro j i s H1 x u t c hr hj g1 nS nI I1 oS it hx ru hij hb;have hlt:j+1<xs.length:=by omega
  obtain⟨its,rv,p,_⟩:=I1.list (hl H1 g1);have hlen:=rv.length;have hx1:xs[j+1]?=a3 xs[j+1]:=by simp[hlt]
  obtain⟨v,hv,rv1⟩:=rv.get hx1;refine aI Tf ?_;rw[Xo Xk _];show aq _ X.A.in1 (bW (.ref S) >>= _) _ _ _;refine a5 (ba oS rfl ?_);show aq _ X.A.in1 (tryCatch (ck (.ref I)) _ >>= _) _ _ _;refine a5 (aN (bg it p.isList (x:=v) (by simpa using hv) λh' it' sb=>?_));have I2:Inv X pins σ H1 { s with heap:=h' }:=I1.chg (ch:=[S,I]) (fp nS nI) λb o hb e=>(sb.2 b (λz=>hb (by simp[z]))).trans e;have oS':h'.get? S=a3 (bc "list" #[u,.int (kf i) t] c):=(sb.2 S hSI).trans oS;obtain⟨oI,eI,cI,dI⟩:=id it';have I3:=I2.pinned (fp:=[S,I]) (fp nS nI) (λb hb=>by
   rcases xn.mp hb with e|hb
   .subst e;exact⟨_,oS',λv z=>by cases z⟩
   .rw[xj.mp hb];exact⟨_,eI,λv z=>by rw[dI]at z;cases z⟩)
  show aq _ X.A.in1 (tryCatch (bL [v] (call (.ref q) [v])) _ >>= _) _ _ _;refine a5 (aN (aT (bE (turn (j+1) _ v hx1 rv1 _ _ H1 g1 I3) (λy s2 he=>?_) λ_ _ hF=>hF.elim)));obtain⟨t2,H2,rfl,g2,I4⟩:=he;have pS:=I4.pin (S,_) (Xb _ (Xb _ (v9 (by simp) oS')));have pI:=I4.pin (I,_) (Xb _ (Xb _ (v9 (by simp) eI)));have I5:=I4.unpinned;have g12:j0 H H2:=λb o e=>g2 b o (g1 b o e);have it2:s2.heap.IsListIter I l (j+1+1):=⟨oI,pI.1,cI,dI⟩
  show aq _ X.A.in1 (tryCatch (bL [v,.int (kf (j+1)) t2] (d8 .Lt (.int (kf (j+1)) t2) (.int (kf i) t) >>= _)) _ >>= _) _ _ _;refine a5 (aN (aT (a5 (CmpOf.ints_lt (prog:=X.prog) (w:=X.w) (A:=X.A.in1) (P:=λi v=>∃t,v=.int (kf i) t) kf (λi v h=>h) (j+1) i _ _ _ _ _ ⟨t2,rfl⟩ ⟨t,rfl⟩ ?_))));refine a5 (aT (b7 ?_));refine a5 (bC (ah ?_));by_cases hb':kf (j+1)<kf i
  .have s1:=Xx s2.heap S (aS λ_=>#[v,.int (kf (j+1)) t2]);obtain⟨c2,hc2⟩:∃c2,(s2.heap.update S (aS λ_=>#[v,.int (kf (j+1)) t2])).get? S=a3 (bc "list" #[v,.int (kf (j+1)) t2] c2):=⟨_,cK pS.1 λ_=>#[v,.int (kf (j+1)) t2]⟩
   simp only[hb',decide_true,if_true];refine a5 ?_;refine bA pS.1 rfl (a5 (bC ?_));rw[hname];refine ah ⟨aP Xk _,ih (j+1) (j+1) _ H2 _ v t2 c2 nofun hlt g12 pS.2.1 pI.2.1 (I5.chg (ch:=[S,I]) (fp pS.2.1 pI.2.1) λb o hb e=>(s1.2 b (λz=>hb (by simp[z]))).trans e) hc2
    ⟨oI,(s1.2 I hSI.symm).trans pI.1,cI,dI⟩ hx1 rv1 (xx _) λj' hj'=>?_⟩
   by_cases e:j'=j+1
   .subst e;exact⟨by omega,λ_=>by omega⟩
   .have hb1:=(hb j' nofun).1;exact⟨by omega,λ_=>by omega⟩
  .simp only[hb',decide_false,Xp,if_false];refine a5 (bC ?_);rw[hname];refine ah ⟨aP Xk _,ih (j+1) i _ H2 x u t c nofun hlt g12 pS.2.1 pI.2.1 I5 pS.1 it2 hx ru nofun λj' hj'=>?_⟩;by_cases e:j'=j+1
   .subst e;exact⟨by omega,λ_=>by omega⟩
   .exact hb j' nofun
theorem jg5(kf:Nat->Int)(hh:X.A.handled=a7){s:af}{Q:VK}{E:k8n}(I0:Inv X pins σ H s)(hl:∀H1,j0 H H1->SqL X.K H1 l xs)(hne:0<xs.length)(turn:ja8 X σ H q xs kf)
  (hQ:∀i x H',xs[i]?=a3 x->J2 kf xs.length i->j0 H H'->Q x H') :
  aq (ay X.prog X.w) X.A (call (.builtin "min") [.ref l] [(aK "key",.ref q)]) (EP X pins σ Q) E s:=by
 have hname:(toString "min" ++ toString ".loop":String) = "min.loop":=by decide
 have hls:∃its:List a8,Vals xs its/\PlainL s.heap l its.toArray/\xs.length<=ar:=I0.list (hl H λ_ _ e=>e);obtain⟨its0,rv0,p0,_⟩:=hls;refine lZ iA ik ip (kmk_min_key _ _) ?_;show aq _ X.A.in1 (aJ "min" ["key","default"] 0 ⟨[],[(aK "key",.ref q)]⟩ >>= _) _ _ s;refine a5 (d6 (show aJ "min" ["key","default"] 0 ⟨[],[(aK "key",.ref q)]⟩=pure [a3 (.ref q),a7]from rfl) ?_);refine a5 (ah ?_);refine a5 (b8 p0.isList ?_);refine a5 (fM ?_ (Ti _));rw[hname];generalize hA:s.heap.push { cls:=.type "list_iterator",data:=.fields #[.ref l,.int 0 0] }=h1;have z1:h1.objs.size=s.heap.objs.size+1:=by rw[<-hA];exact ki ..
 have gI:(h1.push (bc "list" #[] 0)).get? s.heap.objs.size=a3 { cls:=.type "list_iterator",data:=.fields #[.ref l,.int 0 0] }:=by rw[<-hA];exact km _ (xu _ rfl)
 have gS:(h1.push (bc "list" #[] 0)).get? h1.objs.size=a3 (bc "list" #[] 0):=xu _ rfl;have I1:Inv X pins σ H { s with heap:=h1.push (bc "list" #[] 0) }:=I0.kept (t':=s.toks) λb o e=>km _ (by rw[<-hA];exact km _ e);have nI:H s.heap.objs.size=a7:=I0.hok.fresh (xx _);have nS:H h1.objs.size=a7:=I0.hok.fresh (by rw[z1];exact Pk _);have fI:zm X pins H s.heap.objs.size:=I0.fpOk (xx _) nI;have fS:zm X pins H h1.objs.size:=I0.fpOk (by rw[z1];exact Pk _) nS;have hSI:h1.objs.size≠s.heap.objs.size:=by rw[z1];exact Py (T9 _)
 have fp:∀{H1:Hp},H1 h1.objs.size=a7->H1 s.heap.objs.size=a7->∀b∈[h1.objs.size,s.heap.objs.size],zm X pins H1 b:=λ{H1} nS nI b hb=>by
  rcases xn.mp hb with e|hb
  .subst e;exact⟨nS,fS.2⟩
  .rw[xj.mp hb];exact⟨nI,fI.2⟩
 refine ah ⟨aP Xk _,?_⟩;obtain⟨its,rv,p,_⟩:=I1.list (hl H λ_ _ e=>e);have hlen:=rv.length;have hx0:xs[0]?=a3 xs[0]:=by simp[hne]
 obtain⟨v,hv,rv1⟩:=rv.get hx0;refine aI Tf ?_;rw[Xo Xk _];show aq _ X.A.in1 (bW (.ref _) >>= _) _ _ _;refine a5 (ba gS rfl ?_);show aq _ X.A.in1 (tryCatch (ck (.ref s.heap.objs.size)) _ >>= _) _ _ _;refine a5 (aN (bg (i:=0) ⟨_,gI,rfl,rfl⟩ p.isList (x:=v) (by simpa using hv) λh' it' sb=>?_));have I2:Inv X pins σ H { s with heap:=h' }:=I1.chg (ch:=[h1.objs.size,s.heap.objs.size]) (fp nS nI) λb o hb e=>(sb.2 b (λz=>hb (by simp[z]))).trans e;have oS':h'.get? h1.objs.size=a3 (bc "list" #[] 0):=(sb.2 _ hSI).trans gS;obtain⟨oI,eI,cI,dI⟩:=id it';have I3:=I2.pinned (fp:=[h1.objs.size,s.heap.objs.size]) (fp nS nI) (λb hb=>by
  rcases xn.mp hb with e|hb
  .subst e;exact⟨_,oS',λv z=>by cases z⟩
  .rw[xj.mp hb];exact⟨_,eI,λv z=>by rw[dI]at z;cases z⟩)
 show aq _ X.A.in1 (tryCatch (bL [v] (call (.ref q) [v])) _ >>= _) _ _ _;refine a5 (aN (aT (bE (turn 0 _ v hx0 rv1 _ _ H (λ_ _ e=>e) I3) (λy s2 he=>?_) λ_ _ hF=>hF.elim)));obtain⟨t2,H2,rfl,g2,I4⟩:=he;have pS:=I4.pin (h1.objs.size,_) (Xb _ (Xb _ (v9 (by simp) oS')));have pI:=I4.pin (s.heap.objs.size,_) (Xb _ (Xb _ (v9 (by simp) eI)));have I5:=I4.unpinned;have s1:=Xx s2.heap h1.objs.size (aS λ_=>#[v,.int (kf 0) t2]);obtain⟨c2,hc2⟩:∃c2,(s2.heap.update h1.objs.size (aS λ_=>#[v,.int (kf 0) t2])).get? h1.objs.size=a3 (bc "list" #[v,.int (kf 0) t2] c2):=⟨_,cK pS.1 λ_=>#[v,.int (kf 0) t2]⟩
 show aq _ X.A.in1 (fC h1.objs.size (λ_=>#[v,.int (kf 0) t2]) >>= _) _ _ _;refine a5 ?_;refine bA pS.1 rfl ?_;rw[hname];refine ah ⟨aP Xk _,jcm kf hh hl hSI fS fI turn (λi x u s' H' hx ru hb g I=>⟨x,H',I,ru,hQ i x H' hx hb g⟩) _ 0 0 _ H2 _ v t2 c2 rfl hne g2 pS.2.1 pI.2.1
  (I5.chg (ch:=[h1.objs.size,s.heap.objs.size]) (fp pS.2.1 pI.2.1) λb o hb e=>(s1.2 b (λz=>hb (by simp[z]))).trans e) hc2 ⟨oI,(s1.2 _ hSI.symm).trans pI.1,cI,dI⟩ hx0 rv1 (xx _) λj' hj'=>?_⟩
 have e:j'=0:=by omega
 subst e;exact⟨t6 _,λh=>absurd h (Xz _)⟩
end
section
variable{X:Cx}{ρ:Rho}{σ:St}{H:Hp}{q:aa}{f:aj}{l:List D}{xs:List V}{kf:Nat->Int}{a:ao}{d:D}{p p1 pk pos:aO}
theorem j0.sqL{K:k8m}{H H':Hp}{a:aa}{xs:List V}(e:j0 H H')(h:SqL K H a xs):SqL K H' a xs:=by
 rcases h with (h|⟨o,h⟩)|h
 .exact .inl (.inl (e _ _ h))
 .exact .inl (.inr ⟨o,e _ _ h⟩)
 .exact .inr h
theorem j0u{n i j:Nat}(hi:i<n)(hj:j<n)(h:J2 kf n i)(h':J2 kf n j):i=j:=by
 have a:=h j hj;have b:=h' i hi;by_cases e:i<j
 .have:=b.2 e;omega
 .by_cases e2:j<i
  .have:=a.2 e2;omega
  .omega
theorem jcv(tb:TabOk X.K H)(hq:X.mg f=a3 (.ref q))(hc:∀i d,l[i]?=a3 d->Cal X f (spP X.K λds' d'=>ds'=[d]/\d'=.int (kf i)))(en:j5 X.K H l xs):ja8 X σ H q xs kf:=by
 intro i x u hx ru pl s H1 g1 I;obtain⟨d,hd,ed⟩:=en.get' hx;obtain⟨k,fa,fd,ps,F,hr,hm,hk,hb,_⟩:=(hc i d hd).ex;have e:fa=q:=by rw[hq]at hm;cases hm;rfl
 subst e;have sp:spP X.K (λds' d'=>ds'=[d]/\d'=.int (kf i)) [x] H1 (λv H2=>v=.int (kf i)/\j0 H1 H2) E0 :=
  ⟨[],[d],.int (kf i),tb.mono g1,(λa h=>nomatch h),by rw[J8];exact⟨x,[],rfl,ed.mono g1,rfl⟩,⟨rfl,rfl⟩,λv H2 g2 z=>⟨z,g2⟩⟩
 have hl:[u].length=ps.length:=F.len _ _ _ _ sp;refine eR (bB (F.run X.A.in1 X.stack s H1 ⟨[u],[]⟩ [u] [x] _ E0 hr.in1 I.env0.in1 (by simpa using hb s [u] I.kIn (by simpa using hl)) (.cons ru .nil) sp) λr s' hq=>?_);cases r with
 |error e=>exact(show False from hq)
 |ok fl =>
  cases fl with
  |ret u' =>obtain⟨v,H2,I2,rv,e,g2⟩:=I.after hq;subst e;obtain⟨t,rfl⟩:=rv;exact⟨t,H2,rfl,g2,I2⟩
  |next=>exact aW hq
  |brk=>exact aW hq
  |cont=>exact aW hq
theorem DT.minK (i:Nat) (hcalm:X.calm=a6) (hm:X.mg "min" = a7) (hg:Gl X "min") (hq:X.mg f=a3 (.ref q)) (hgf:Gl X f) (hdf:(f==k8q)=a4) (ha:DT X ρ a (.lst l))
  (hc:∀i d,l[i]?=a3 d->Cal X f (spP X.K λds' d'=>ds'=[d]/\d'=.int (kf i))) (hi:l[i]?=a3 d) (hl:J2 kf l.length i) (hs:a9 [a] X.env=[(a4,aA a X.env)]) :
  DT X ρ (.Call (.Name "min" p) [a] [⟨a3 "key",.Name f p1,pk⟩] pos) d:=λσ H Q R k pins s I=>by
 refine aF (Jq I hg hm i6 ?_ (by decide) (by decide));refine jP (by rw[hs];rfl) rfl (evalArgs_kw2 rfl ?_ hs);have h1:PA X [a] (Rv (Qf X a) Dg):=jd peS jz hs;refine thn (h1 pos pins s σ H (λvs H1=>∃v,vs=[v]/\j0 H H1/\Enc X.K H1 (.lst l) v) I (ha σ H _ R λv H1 g1 e1=>⟨v,rfl,g1,e1⟩)) λus s1 ⟨vs,H1,I1,r1,v,ev,g1,e1⟩=>?_;subst ev;have h2:PK X [⟨a3 "key",.Name f p1,pk⟩] (Rv (tC (.ref q)) Dg):=V3 (j2k (v:=.ref q) hgf hq rfl hdf) j5f;refine thn (h2 pos pins s1 σ H1 (λvs H2=>vs=[.ref q]/\H2=H1) I1 ⟨rfl,rfl⟩) λks s2 ⟨ws,H2,I2,r2,ew,eH⟩=>?_;subst ew eH;obtain⟨b,xs,eb,sq,en⟩:=e1;subst eb;obtain⟨u,eu,ru⟩:=r1.one;subst eu;obtain⟨w,ek,rw⟩:=r2.one;subst ek;cases(show u=aB b from ru);cases(show w=aB q from rw);have hlen:=en.length;have hin:=(X8.mp hi).1;show aq (ay X.prog X.w) X.A (fb (.builtin "min") [.ref b] [(aK "key",.ref q)]) _ _ _;refine jg5 kf (I.ok.hd hcalm) I2 (λH3 g3=>j0.sqL g3 sq) nofun (jcv (R.tb.mono g1) hq hc en) λj x H3 hx hj g3=>?_;have hjn:=(X8.mp hx).1;have e:j=i:=j0u nofun hin (hlen▸hj) hl;subst e;obtain⟨x',hx',ex⟩:=en.get hi;cases hx.symm.trans hx';exact k x H3 (g1.trans g3) (ex.mono g3)
theorem j0z{K:k8m}{H:Hp}:∀{ns:List Int}{xs:List V},j5 K H (ns.map D.int) xs->xs=ns.map V.int
 |[],xs,h=>h
 |n::ns,xs,⟨x,r,e,en,l⟩=>by rw[e,show x=V.int n from en,j0z l];rfl
end
section
variable{X:Cx}{pins:k8o}{σ:St}{H:Hp}{l S I:aa}{xs:List V}{R:fm->af->Prop}
def jis(X:Cx)(pins:k8o)(σ:St)(H:Hp)(xs:List V)(bt:Nat->Nat->Bool):Prop:=∀(i j:Nat)(x y:V)(u v:a8)(s:af)(Q:k8n)(E:k8n),xs[i]?=a3 x->xs[j]?=a3 y->RelV x u->RelV y v->Inv X pins σ H s ->
 Q (.bool (bt i j)) s->aq (ay X.prog X.w) X.A.in1 (d8 .Lt u v) Q E s
theorem jcl(bt:Nat->Nat->Bool)(hh:X.A.handled=a7)(hl:SqL X.K H l xs)(hSI:S≠I)(fS:zm X pins H S)(fI:zm X pins H I)(cmp:jis X pins σ H xs bt)
  (hR:∀x u s',xs[aL bt (xs.length-1)]?=a3 x->RelV x u->Inv X pins σ H s'->R (.ok (.ret u)) s') :
  ∀(r j:Nat)(s:af)(x:V)(u:a8)(c:Nat),xs.length-(j+1)=r->j+1<=xs.length->Inv X pins σ H s->s.heap.get? S=a3 (bc "list" #[u,u] c) ->
   s.heap.IsListIter I l (j+1)->xs[aL bt j]?=a3 x->RelV x u->c8 (ay X.prog X.w) X.A (.builtin "min.loop" ⟨[.ref I,.none,.ref S],[]⟩) R s:=by
 have hname:(toString "min" ++ toString ".loop":String) = "min.loop":=by decide
 have fp:∀b∈[S,I],zm X pins H b:=λb hb=>by
  rcases xn.mp hb with e|hb
  .subst e;exact fS
  .rw[xj.mp hb];exact fI
 intro r;induction r with
 |zero =>
  intro j s x u c hr hj I1 oS it hx ru;have hin:j+1=xs.length:=by omega
  obtain⟨its,rv,p,_⟩:=I1.list hl;have hlen:=rv.length;refine aI Tf ?_;rw[Xo Xk _];show aq _ X.A.in1 (bW (.ref S) >>= _) _ _ _;refine a5 (ba oS rfl ?_);show aq _ X.A.in1 (tryCatch (ck (.ref I)) _ >>= _) _ _ _;refine a5 (aN (bX hh it p.isList (by simp;omega) λh' eb=>?_));have I2:Inv X pins σ H { s with heap:=h' }:=I1.chg (ch:=[S,I]) fp λb o hb e=>eb b o (λz=>hb (by simp[z])) e;have oS':h'.get? S=a3 (bc "list" #[u,u] c):=eb S _ hSI oS;show aq _ X.A.in1 (fC S (λ_=>#[]) >>= _) _ _ _;refine a5 ?_;refine bA oS' rfl (a5 (bC (ah ?_)));have s1:=Xx h' S (aS λ_=>(#[]:Array a8));exact hR x u _ (by rw[<-hin];exact hx) ru (I2.chg (ch:=[S,I]) fp λb o hb e=>(s1.2 b (λz=>hb (by simp[z]))).trans e)
 |succ r ih =>
  intro j s x u c hr hj I1 oS it hx ru;have hlt:j+1<xs.length:=by omega
  obtain⟨its,rv,p,_⟩:=I1.list hl;have hlen:=rv.length;have hx1:xs[j+1]?=a3 xs[j+1]:=by simp[hlt]
  obtain⟨v,hv,rv1⟩:=rv.get hx1;refine aI Tf ?_;rw[Xo Xk _];show aq _ X.A.in1 (bW (.ref S) >>= _) _ _ _;refine a5 (ba oS rfl ?_);show aq _ X.A.in1 (tryCatch (ck (.ref I)) _ >>= _) _ _ _;refine a5 (aN (bg it p.isList (x:=v) (by simpa using hv) λh' it' sb=>?_));have I2:Inv X pins σ H { s with heap:=h' }:=I1.chg (ch:=[S,I]) fp λb o hb e=>(sb.2 b (λz=>hb (by simp[z]))).trans e;have oS':h'.get? S=a3 (bc "list" #[u,u] c):=(sb.2 S hSI).trans oS;obtain⟨oI,eI,cI,dI⟩:=id it';show aq _ X.A.in1 (tryCatch (bL [v,v] (d8 .Lt v u >>= _)) _ >>= _) _ _ _;refine a5 (aN (aT (a5 (cmp (j+1) (aL bt j) _ _ v u _ _ _ hx1 hx rv1 ru I2 ?_))));refine a5 (aT (b7 ?_));refine a5 (bC (ah ?_));cases hb:bt (j+1) (aL bt j) with
  |true =>
   have s1:=Xx h' S (aS λ_=>#[v,v]);obtain⟨c2,hc2⟩:∃c2,(h'.update S (aS λ_=>#[v,v])).get? S=a3 (bc "list" #[v,v] c2):=⟨_,cK oS' λ_=>#[v,v]⟩
   simp only[if_true];refine a5 ?_;refine bA oS' rfl (a5 (bC ?_));rw[hname];exact ah ⟨aP Xk _,ih (j+1) _ _ v c2 nofun hlt (I2.chg (ch:=[S,I]) fp λb o hb e=>(s1.2 b (λz=>hb (by simp[z]))).trans e) hc2
    ⟨oI,(s1.2 I hSI.symm).trans eI,cI,dI⟩ (by simp only[aL,hb,if_true];exact hx1) rv1⟩
  |false =>simp only[Xp,if_false];refine a5 (bC ?_);rw[hname];exact ah ⟨aP Xk _,ih (j+1) _ x u c nofun hlt I2 oS' ⟨oI,eI,cI,dI⟩ (by simp only[aL,hb,Xp,if_false];exact hx) ru⟩
theorem j5z(bt:Nat->Nat->Bool)(hh:X.A.handled=a7){s:af}{Q:VK}{E:k8n}(I0:Inv X pins σ H s)(hl:SqL X.K H l xs)(hne:0<xs.length)(cmp:jis X pins σ H xs bt)
  (hQ:∀x,xs[aL bt (xs.length-1)]?=a3 x->Q x H):aq (ay X.prog X.w) X.A (call (.builtin "min") [.ref l]) (EP X pins σ Q) E s:=by
 have hname:(toString "min" ++ toString ".loop":String) = "min.loop":=by decide
 obtain⟨its0,rv0,p0,_⟩:=I0.list hl;refine call_function_tree iA ik ip (PySem.F.args_min1 _) ?_;show aq _ X.A.in1 (aJ "min" ["key","default"] 0 ⟨[],[]⟩ >>= _) _ _ s;refine a5 (d6 (show aJ "min" ["key","default"] 0 ⟨[],[]⟩=pure [a7,a7]from rfl) ?_);refine a5 (ah ?_);refine a5 (b8 p0.isList ?_);refine a5 (fM ?_ (Ti _));rw[hname];generalize hA:s.heap.push { cls:=.type "list_iterator",data:=.fields #[.ref l,.int 0 0] }=h1;have z1:h1.objs.size=s.heap.objs.size+1:=by rw[<-hA];exact ki ..
 have gI:(h1.push (bc "list" #[] 0)).get? s.heap.objs.size=a3 { cls:=.type "list_iterator",data:=.fields #[.ref l,.int 0 0] }:=by rw[<-hA];exact km _ (xu _ rfl)
 have gS:(h1.push (bc "list" #[] 0)).get? h1.objs.size=a3 (bc "list" #[] 0):=xu _ rfl;have I1:Inv X pins σ H { s with heap:=h1.push (bc "list" #[] 0) }:=I0.kept (t':=s.toks) λb o e=>km _ (by rw[<-hA];exact km _ e);have fI:zm X pins H s.heap.objs.size:=I0.fpOk (xx _) (I0.hok.fresh (xx _));have fS:zm X pins H h1.objs.size:=I0.fpOk (by rw[z1];exact Pk _) (I0.hok.fresh (by rw[z1];exact Pk _));have hSI:h1.objs.size≠s.heap.objs.size:=by rw[z1];exact Py (T9 _)
 have fp:∀b∈[h1.objs.size,s.heap.objs.size],zm X pins H b:=λb hb=>by
  rcases xn.mp hb with e|hb
  .subst e;exact fS
  .rw[xj.mp hb];exact fI
 refine ah ⟨aP Xk _,?_⟩;obtain⟨its,rv,p,_⟩:=I1.list hl;have hlen:=rv.length;have hx0:xs[0]?=a3 xs[0]:=by simp[hne]
 obtain⟨v,hv,rv1⟩:=rv.get hx0;refine aI Tf ?_;rw[Xo Xk _];show aq _ X.A.in1 (bW (.ref _) >>= _) _ _ _;refine a5 (ba gS rfl ?_);show aq _ X.A.in1 (tryCatch (ck (.ref s.heap.objs.size)) _ >>= _) _ _ _;refine a5 (aN (bg (i:=0) ⟨_,gI,rfl,rfl⟩ p.isList (x:=v) (by simpa using hv) λh' it' sb=>?_));have I2:Inv X pins σ H { s with heap:=h' }:=I1.chg (ch:=[h1.objs.size,s.heap.objs.size]) fp λb o hb e=>(sb.2 b (λz=>hb (by simp[z]))).trans e;have oS':h'.get? h1.objs.size=a3 (bc "list" #[] 0):=(sb.2 _ hSI).trans gS;obtain⟨oI,eI,cI,dI⟩:=id it';have s1:=Xx h' h1.objs.size (aS λ_=>#[v,v]);obtain⟨c2,hc2⟩:∃c2,(h'.update h1.objs.size (aS λ_=>#[v,v])).get? h1.objs.size=a3 (bc "list" #[v,v] c2):=⟨_,cK oS' λ_=>#[v,v]⟩
 show aq _ X.A.in1 (fC h1.objs.size (λ_=>#[v,v]) >>= _) _ _ _;refine a5 ?_;refine bA oS' rfl ?_;rw[hname];exact ah ⟨aP Xk _,jcl bt hh hl hSI fS fI cmp (λx u s' hx ru I=>⟨x,H,I,ru,hQ x hx⟩) _ 0 _ _ v c2 rfl hne
  (I2.chg (ch:=[h1.objs.size,s.heap.objs.size]) fp λb o hb e=>(s1.2 b (λz=>hb (by simp[z]))).trans e) hc2 ⟨oI,(s1.2 _ hSI.symm).trans eI,cI,dI⟩ hx0 rv1⟩
end
noncomputable def Jg(l:List (List Int))(i j:Nat):Bool:=HT.lexLt (l.getD i []) (l.getD j [])
section
variable{X:Cx}{ρ:Rho}{a:ao}{l:List (List Int)}{k:List Int}{p pos:aO}
theorem DT.minT (hu:X.A.units+100<aX) (hcalm:X.calm=a6) (hm:X.mg "min" = a7) (hg:Gl X "min") (ha:DT X ρ a (.lst (l.map λk=>D.tup (k.map D.int)))) (hk:l[aL (Jg l) (l.length-1)]?=a3 k) (hs:a9 [a] X.env=[(a4,aA a X.env)]) :
  DT X ρ (.Call (.Name "min" p) [a] [] pos) (.tup (k.map D.int)):=λσ H Q R q pins s I=>by
 refine aF (Jq I hg hm i6 ?_ (by decide) (by decide));refine callWith_builtin1 (thn ((jd (es:=[]) peS jz hs).to (σ:=σ) (H:=H) (Q:=λvs H1=>∃v,vs=[v]/\j0 H H1/\Enc X.K H1 (.lst (l.map λk=>D.tup (k.map D.int))) v) (ha σ H _ R λv H1 g1 e1=>⟨v,rfl,g1,e1⟩) pos pins s I) λus s1 ⟨vs,H1,I1,r1,v,ev,g1,e1⟩=>?_) hs rfl;subst ev;obtain⟨b,xs,eb,sq,en⟩:=e1;subst eb;obtain⟨u,eu,ru⟩:=r1.one;subst eu;cases(show u=aB b from ru);have hlen:xs.length=l.length:=by rw[en.length,xg]
 have hin:=(X8.mp hk).1;have item:∀{i:Nat}{x:V},xs[i]?=a3 x->∃t,x=.ref t/\SqT X.K H1 t ((l.getD i []).map V.int)/\Enc X.K H1 (.tup ((l.getD i []).map D.int)) x:=λ{i x} hx=>by
  obtain⟨d,hd,ed⟩:=en.get' hx;rw[X6]at hd;obtain⟨k',hk',ek⟩:=Pb.mp hd;subst ek;have eg:l.getD i []=k':=by rw[kj,hk'];rfl
  rw[eg];obtain⟨t,ys,e1,sq',l'⟩:=id ed;rw[vq l']at sq';exact⟨t,e1,sq',ed⟩
 refine j5z (Jg l) (I.ok.hd hcalm) I1 sq nofun (λi j x y u v s2 Q2 E2 hx hy rx ry I2 hq=>?_) λx hx=>?_
 .obtain⟨t,e1,s1',_⟩:=item hx;obtain⟨t',e2,s2',_⟩:=item hy;subst e1 e2;cases rx;cases ry;obtain⟨its,r1,p1,_⟩:=I2.tuple s1';obtain⟨its2,r2,p2,_⟩:=I2.tuple s2';exact HT.lt_tupInts (A:=X.A.in1) p1 p2 (intsAre_of r1) (intsAre_of r2) (by show X.A.units+1<aX;omega) hq
 .rw[hlen]at hx;obtain⟨t,e1,_,ed⟩:=item hx;have eg:l.getD (aL (Jg l) (l.length-1)) []=k:=by rw[kj,hk];rfl
  rw[eg]at ed;exact q x H1 g1 ed
end
section
variable{X:Cx}{ρ:Rho}{it e2:ao}{P:Po}{ds:List D}{x t:Nat}{nx nt:aj}{p1 p2 p3 p4 p10 p11 p12 p14 p16 p17 p18:aO}
end
noncomputable def jlp(p q:Int×List Int):Bool:=if p.1=q.1 then HT.lexLt p.2 q.2 else decide (p.1<q.1)
noncomputable def Du(l:List (Int×List Int))(i j:Nat):Bool:=jlp (l.getD i (0,[])) (l.getD j (0,[]))
noncomputable def pairD(p:Int×List Int):D:=.tup [.int p.1,.tup (p.2.map D.int)]
theorem Ni:∀l:List Int,HT.lexLt l l=a4
 |[]=>rfl
 |x::l=>by rw[HT.lexLt_cons,if_pos rfl,Ni l]
theorem Bg:∀l:List Int,D.depL (l.map D.int)=0
 |[]=>rfl
 |x::l=>by rw[Xa,D.depL,Bg l];rfl
theorem Ke:∀{ns ms:List Int},v6 (ns.map D.int) (ms.map D.int)=a6->ns=ms
 |[],[],_=>rfl
 |[],_::_,h=>nomatch h
 |_::_,[],h=>nomatch h
 |x::ns,y::ms,h=>by rw[Xa,Xa,Qo,Xg]at h;rw[Ke h.2,show x=y from by simpa [j13]using h.1]
section
open PySem.SeqAt
open PySem.AutoSeq1 (wpAny_loadPart')
open PySem.MeetsSeq PySem.MeetsSeq2 PySem.MeetsSeq3
theorem Ky(l b x y:aa)(a c:Int)(t u:gO)(n n2:Nat)(dd dd2:Option aa)(sl sl2:Array (Option a8))(e r:Bool) :
  kD (dU.«tuple.__lt__» ⟨[.ref l,.ref b],[]⟩)
   (λA R s=>s.heap.get? l=a3 { cls:=.type "tuple",dict:=dd,data:=.seq #[.int a t,.ref x] n,slots:=sl }/\s.heap.get? b=a3 { cls:=.type "tuple",dict:=dd2,data:=.seq #[.int c u,.ref y] n2,slots:=sl2 } /\
    EqAt A.in1 s (.ref x) (.ref y) e/\(∀(prog:av)(w:az)(E:k8n)(Q:k8n),Q (.bool r) s->aq (ay prog w) A.in1 (d8 .Lt (.ref x) (.ref y)) Q E s) /\
    R (.ok (.ret (.bool (if a=c then(if e=a6 then a4 else r)else decide (a<c))))) s) :=
 .of_wp λprog w A R s h=>by
  obtain⟨hp,g,d,tk,os⟩:=s;obtain⟨hl,hb,hx,hr,h⟩:=h;have f2:=fW
  wp_walk using eT hl,eT hb,kW _ (λrest b s'=>b.1=a7/\s'=⟨hp,g,d,tk,os⟩ /\
   (rest=[(bo a t,bo c u),(aB x,aB y)]\/(rest=[(aB x,aB y)]/\a=c)\/(rest=[]/\a=c/\e=a6))) _
  case turn =>
   rintro⟨y',x'⟩ rest b s' ⟨hb',rfl,hz⟩;rcases hz with hz|⟨hz,ac⟩|⟨hz,_⟩
   .injection hz with hyx hrest;injection hyx with hy hx';subst hy hx';obtain⟨e',he,hiff⟩:=HT.eqAt_int A.in1 ⟨hp,g,d,tk,os⟩ a t c u;refine a5 (he prog w _ _ ?_);cases e' with
    |true =>
     wp_walk
     exact⟨rfl,rfl,.inr (.inl ⟨hrest,hiff.mp rfl⟩)⟩
    |false =>
     rw[if_neg (λq=>absurd (hiff.mpr q) xm)]at h;have hri:=HT.rcLt_int A.in1 ⟨hp,g,d,tk,os⟩ a t c u prog w
     wp_walk using hri
     exact⟨_,rfl,by simpa using h⟩
   .injection hz with hyx hrest;injection hyx with hy hx';subst hy hx';refine a5 (hx prog w _ _ ?_);rw[if_pos ac]at h;cases e with
    |true =>
     wp_walk
     exact⟨rfl,rfl,.inr (.inr ⟨hrest,ac,rfl⟩)⟩
    |false =>
     have hri:=hr prog w
     wp_walk using hri
     exact⟨_,rfl,by simpa using h⟩
   .cases hz
  case fin =>
   rintro⟨b1,b2⟩ s' ⟨hb',rfl,hz⟩;simp only at hb';subst hb';rcases hz with hz|⟨hz,ac⟩|⟨hz,ac,e1⟩
   .cases hz
   .cases hz
   .rw[if_pos ac,if_pos e1]at h
    wp_walk
    exact⟨_,rfl,by simpa [eE]using h⟩
  case h =>exact⟨rfl,rfl,.inl rfl⟩
end
section
variable{X:Cx}{ρ:Rho}{a:ao}{l:List (Int×List Int)}{k:Int×List Int}{p pos:aO}
theorem DT.minP (hu:X.A.units+100<aX) (hcalm:X.calm=a6) (hm:X.mg "min" = a7) (hg:Gl X "min") (ha:DT X ρ a (.lst (l.map pairD))) (hk:l[aL (Du l) (l.length-1)]?=a3 k) (hs:a9 [a] X.env=[(a4,aA a X.env)]) :
  DT X ρ (.Call (.Name "min" p) [a] [] pos) (pairD k):=λσ H Q R q pins s I=>by
 refine aF (Jq I hg hm i6 ?_ (by decide) (by decide));refine callWith_builtin1 (thn ((jd (es:=[]) peS jz hs).to (σ:=σ) (H:=H) (Q:=λvs H1=>∃v,vs=[v]/\j0 H H1/\Enc X.K H1 (.lst (l.map pairD)) v) (ha σ H _ R λv H1 g1 e1=>⟨v,rfl,g1,e1⟩) pos pins s I) λus s1 ⟨vs,H1,I1,r1,v,ev,g1,e1⟩=>?_) hs rfl;subst ev;obtain⟨b,xs,eb,sq,en⟩:=e1;subst eb;obtain⟨u,eu,ru⟩:=r1.one;subst eu;cases(show u=aB b from ru);have hlen:xs.length=l.length:=by rw[en.length,xg]
 have hin:=(X8.mp hk).1;have item:∀{i:Nat}{x:V},xs[i]?=a3 x->Enc X.K H1 (pairD (l.getD i (0,[]))) x:=λ{i x} hx=>by
  obtain⟨d,hd,ed⟩:=en.get' hx;rw[X6]at hd;obtain⟨k',hk',ek⟩:=Pb.mp hd;subst ek;have eg:l.getD i (0,[])=k':=by rw[kj,hk'];rfl
  rw[eg];exact ed
 have part:∀{q:Int×List Int}{x:V},Enc X.K H1 (pairD q) x->∃t y,x=.ref t/\SqT X.K H1 t [.int q.1,.ref y]/\SqT X.K H1 y (q.2.map V.int)/\Enc X.K H1 (.tup (q.2.map D.int)) (.ref y):=λ{q x} ed=>by obtain⟨t,ys,e1,sq',l'⟩:=ed;obtain⟨v1,ys1,rfl,e2,v2,ys2,rfl,e3,rfl⟩:=l';cases(show v1=.int q.1 from e2);obtain⟨y,zs,e4,sq2,l4⟩:=id e3;subst e4;rw[vq l4]at sq2;exact⟨t,y,e1,sq',sq2,e3⟩
 refine j5z (Du l) (I.ok.hd hcalm) I1 sq nofun (λi j x y u v s2 Q2 E2 hx hy rx ry I2 hq=>?_) λx hx=>?_
 .obtain⟨t,x1,e1,s1',s1'',en1⟩:=part (item hx);obtain⟨t',y1,e2,s2',s2'',en2⟩:=part (item hy);subst e1 e2;cases rx;cases ry;obtain⟨its,r1,p1,_⟩:=I2.tuple s1';obtain⟨its2,r2,p2,_⟩:=I2.tuple s2';obtain⟨itx,rx1,px,_⟩:=I2.tuple s1'';obtain⟨ity,ry1,py,_⟩:=I2.tuple s2'';obtain⟨_,_,rfl,⟨k1,rfl⟩,eu⟩:=r1.two;obtain⟨_,_,rfl,⟨k2,rfl⟩,ev⟩:=r2.two;cases eu;cases ev;have hE:=(V2 I2 1 X.A.in1.in1 (d:=.tup ((l.getD i (0,[])).2.map D.int)) (d':=.tup ((l.getD j (0,[])).2.map D.int)) (by rw[D.dep,Bg];decide) (by show X.A.units+1+1+1<aX;omega) (by rw[D.dep,Bg];decide) en1 rfl en2 rfl).2;obtain⟨⟨cls,dd,data,sl⟩,ho,hc,n,hd⟩:=id p1;obtain⟨⟨cls2,dd2,data2,sl2⟩,ho2,hc2,n2,hd2⟩:=id p2;simp only at hc hd hc2 hd2;subst hc hd hc2 hd2;have hb:Du l i j=if (l.getD i (0,[])).1=(l.getD j (0,[])).1 then(if deq (.tup ((l.getD i (0,[])).2.map D.int)) (.tup ((l.getD j (0,[])).2.map D.int))=a6 then a4 else HT.lexLt (l.getD i (0,[])).2 (l.getD j (0,[])).2)else decide ((l.getD i (0,[])).1<(l.getD j (0,[])).1):=by
   show(if _ then _ else _)=_;split
   .split
    .rename_i h;rw[Nx]at h;rw[Ke h,Ni]
    .rfl
   .rfl
  rw[hb]at hq;exact iU (op:=.Lt) ⟨_,ho,rfl⟩ ⟨_,ho2,rfl⟩ gz gp (gf _ _) (Ky t t' x1 y1 _ _ _ _ n n2 dd dd2 sl sl2 _ _)
   ⟨ho,ho2,hE,λprog w E Q h=>HT.lt_tupInts (A:=X.A.in1.in1) px py (intsAre_of rx1) (intsAre_of ry1) (by show X.A.units+1+1<aX;omega) h,(λx=>nomatch x),hq⟩ (by show X.A.units+1<aX;omega)
 .rw[hlen]at hx;have ed:=item hx;have eg:l.getD (aL (Du l) (l.length-1)) (0,[])=k:=by rw[kj,hk];rfl
  rw[eg]at ed;exact q x H1 g1 ed
end
section
variable{X:Cx}{ρ:Rho}{a:ao}{p p1 p2 pos:aO}
end
noncomputable def jlw(kvs:List (aj×Int))(k:aj):Option Int:=(kvs.find? λp=>decide (p.1=k)).map λp=>p.2
noncomputable def jlz(kvs:List (aj×Int))(k:aj):Bool:=kvs.any λp=>decide (p.1=k)
noncomputable def dput(kvs:List (aj×Int))(k:aj)(n:Int):List (aj×Int):=if jlz kvs k=a6 then kvs.map λp=>if p.1=k then(p.1,n)else p else kvs++[(k,n)]
section
variable{X:Cx}{ρ:Rho}{a b e k:ao}{rest:List bp}{P:Po}{kvs:List (aj×Int)}{z:aj}{n:Int}{i j:Nat}{nx ny:aj}{pos pos' p p1 p2 p3 p4 p5 p6 p7 p8:aO}{td ty tv:TE}{o value:ao}
end
section
variable{prog:av}{w:az}{A:aC}{E:k8n}{s:af}
end
section
variable{prog:av}{w:az}{A:aC}{E:k8n}{s:af}{l1 l2:Bool}{z TI TO i1 i2 t1 t2 p:aa}{f:Bool}{op:dz}{k:Nat}{us vs:Array a8}{x y a b:a8}
end
section
variable{X:Cx}{pins:k8o}{σ:St}{z TI TO i1 i2 t1 t2 d:aa}{l1 l2:Bool}{ks:List aj}{ns:List Int}{A:aC}{R:fm->af->Prop}
end
section
variable{X:Cx}{ρ:Rho}{a b:ao}{ks:List aj}{ns:List Int}{p p2 p3 p4:aO}
end
section
variable{X:Cx}{ρ:Rho}{a e:ao}{es:List ao}{x:aj}{d:D}{p p1 p2 pos:aO}{y:aj}{ds:List D}
theorem Ld.grow{σ:St}{H H':Hp}(k:Ld X σ H x)(g:j0 H H'):Ld X σ H' x:=λpins H2 s' e C I g2 hC Fe=>k pins H2 s' e C I (g.trans g2) hC Fe
theorem DXA.head(ha:DX X ρ a x)(hs:a9 (a::es) X.env=(a4,aA a X.env)::a9 es X.env):DXA X ρ (a::es) x:=λσ H Q R k =>(jd peS paS hs).to (ha σ H _ R k)
theorem DXA.tail(ha:DT X ρ a d)(h:DXA X ρ es x)(hs:a9 (a::es) X.env=(a4,aA a X.env)::a9 es X.env):DXA X ρ (a::es) x:=λσ H Q R k =>(jd peS paS hs).to (ha σ H _ R λv H1 g _=>h σ H1 _ (R.grow g) (k.grow g))
theorem DX.args {f:aj} (ha:DXA X ρ (e::es) x) (hg:Gl X f) (hdb:(f==k8q)=a4) {fa:aa} (hfa:X.mg f=a3 (.ref fa)) (hk:W.keepIn X.K (.ref fa)=a6)
  (he:a9 (e::es) X.env=(a4,aA e X.env)::a9 es X.env) (hpl:(aY pos (a9 es X.env)).any (·.1)=a4):DX X ρ (.Call (.Name f p) (e::es) [] pos) x:=λσ H Q R k pins s I=>by
 refine aF (Uu I hg hfa ?_ hdb);exact W.callWith_K (h₀:=X.base) I.ok.mod.kin hk (thn (ha σ H (λ_ _=>False) R k pos pins s I) λus s1 ⟨vs,H1,I1,r,z⟩=>z.elim) he hpl
end
noncomputable def jg:List Int->Int
 |[]=>0
 |a::r=>r.foldl max a
theorem j8g:∀(r:List Int)(a:Int),a<=r.foldl max a
 |[],a=>t6 a
 |b::r,a=>by rw[Pz];have:=j8g r (max a b);omega
theorem Ka:∀(r:List Int)(a:Int),r.foldl max a∈a::r/\∀b∈a::r,b<=r.foldl max a
 |[],a=>⟨xj.mpr rfl,λb hb=>by rw[xj.mp hb];exact t6 _⟩
 |c::r,a=>by
  rw[Pz];obtain⟨h1,h2⟩:=Ka r (max a c);refine⟨?_,λb hb=>?_⟩
  .rcases xn.mp h1 with z|z
   .rw[z];by_cases q:a<=c
    .rw[Int.max_eq_right q];exact xf _ xq
    .rw[Int.max_eq_left nofun];exact xq
   .exact xf _ (xf _ z)
  .have l:=h2 (max a c) xq;rcases xn.mp hb with z|z
   .rw[z];omega
   .rcases xn.mp z with z|z
    .rw[z];omega
    .exact h2 b (xf _ z)
theorem V4{ns:List Int}(h:ns≠[]):jg ns∈ns/\∀b∈ns,b<=jg ns:=by
 cases ns with
 |nil=>exact absurd rfl h
 |cons a r=>exact Ka r a
theorem Ds{ns:List Int}{M:Int}(h1:M∈ns)(h2:∀a∈ns,a<=M):jg ns=M:=by
 have hn:ns≠[]:=λe=>by rw[e]at h1;exact nomatch h1
 obtain⟨a,b⟩:=V4 hn;have:=h2 _ a;have:=b _ h1;omega
noncomputable def Qz(ns:List Int):Int:=-jg (ns.map λn=>-n)
theorem Yo{ns:List Int}(h:ns≠[]):Qz ns∈ns/\∀b∈ns,Qz ns<=b:=by
 obtain⟨h1,h2⟩:=V4 (ns:=ns.map λn=>-n) (by simpa using h);obtain⟨a,ha,e⟩:=xr.mp h1;unfold Qz;refine⟨?_,λb hb=>?_⟩
 .rw[<-e,Int.neg_neg];exact ha
 .have:=h2 _ (xr.mpr ⟨b,hb,rfl⟩);omega
theorem Dq{ns:List Int}{M:Int}(h1:M∈ns)(h2:∀a∈ns,M<=a):Qz ns=M:=by
 obtain⟨a,b⟩:=Yo (ns:=ns) λe=>by rw[e]at h1;exact nomatch h1
 have:=h2 _ a;have:=b _ h1;omega
section
variable{X:Cx}{ρ:Rho}{a b e:ao}{es:List ao}{x y:aj}{d:D}{i j:Int}{p p1 p2 p3 p4 pk pos:aO}{ds:List D}
theorem ja9{pins:k8o}{s:af}{σ:St}{H:Hp}{l:aa}{ns:List Int}(I:Inv X pins σ H s)(sq:SqL X.K H l (ns.map V.int))(hne:ns≠[]):∃zs,s.heap.IsList l (fh zs)/\0<zs.size/\zs.size=ns.length/\∀i,i<zs.size->gC zs i=ns.getD i 0:=by
 obtain⟨its,rv,pl,_⟩:=I.list sq;have hl:its.length=ns.length:=by rw[<-rv.length,xg]
 have val:∀(i:Nat)(v:a8),its[i]?=a3 v->∃t,v=bo (ns.getD i 0) t:=by
  intro i v hv;have hi:i<its.length:=(X8.mp hv).1;have hi':i<ns.length:=by omega
  obtain⟨w1,hw,rw1⟩:=rv.get (x:=.int (ns.getD i 0)) (i:=i) (by rw[X6,kh hi',kj,kh hi'];rfl);rw[hw]at hv;cases hv;exact rw1
 have hall:AllInts its.toArray:=by intro v hv;obtain⟨i,hi,e⟩:=Xw.mp (show v∈its by simpa using hv);obtain⟨t,e'⟩:=val i v (by rw[kh hi,e]);exact⟨_,t,e'⟩
 obtain⟨zs,hz⟩:=hall.items;have pl':=pl.isList;rw[hz]at pl';have hsz:0<zs.size:=by
  have:its.toArray.size=(fh zs).size:=by rw[hz]
  have h1:0<ns.length:=List.length_pos_iff.mpr hne;simp[fh]at this;omega
 have hns:∀i,i<zs.size->gC zs i=ns.getD i 0:=by
  intro i hi;obtain⟨v1,e1⟩:∃v,(fh zs)[i]?=a3 v:=⟨_,cb (by simpa [fh]using hi)⟩
  obtain⟨t,ht⟩:=jM e1;rw[<-hz]at e1;obtain⟨t',ht'⟩:=val i _ (by simpa using e1);rw[ht]at ht';exact(Value.int.inj ht').1
 have len:zs.size=ns.length:=by
  have:its.toArray.size=(fh zs).size:=by rw[hz]
  simp[fh]at this;omega
 exact⟨zs,pl',hsz,len,hns⟩
theorem j78 (hc:X.calm=a6):Jk X (.builtin "max") (λxs H Q=>∃(l:aa)(ns:List Int),xs=[.ref l]/\SqL X.K H l (ns.map V.int)/\ns≠[]/\Q (.int (jg ns)) H):=by
 rintro pins s σ H xs us Q I r ⟨l,ns,e,sq,hne,q⟩;subst e;obtain⟨u,eu,ru⟩:=vals1 r;subst eu;cases ru;obtain⟨zs,pl',hsz,len,hns⟩:=ja9 I sq hne;refine max_intList (I.ok.hd hc) pl' hsz λv h' tk hv hk=>?_;obtain⟨t,rfl⟩:=jM hv;obtain⟨h1,h2⟩:=argBest_gt (gC zs) (zs.size-1);have hM:jg ns=gC zs (aL (λi j=>decide (gC zs i>gC zs j)) (zs.size-1)):=by
  refine Ds ?_ λc hc=>?_
  .rw[hns _ nofun];rw[kj,kh nofun];exact Xm _
  .obtain⟨k,hk,rfl⟩:=Xw.mp hc;have:=h2 k nofun
   rw[hns k nofun,kj,kh hk]at this;exact this
 rw[hM]at q;exact⟨.int _,H,I.kept hk,⟨t,rfl⟩,q⟩
theorem j76 (hc:X.calm=a6):Jk X (.builtin "min") (λxs H Q=>∃(l:aa)(ns:List Int),xs=[.ref l]/\SqL X.K H l (ns.map V.int)/\ns≠[]/\Q (.int (Qz ns)) H):=by
 rintro pins s σ H xs us Q I r ⟨l,ns,e,sq,hne,q⟩;subst e;obtain⟨u,eu,ru⟩:=vals1 r;subst eu;cases ru;obtain⟨zs,pl',hsz,len,hns⟩:=ja9 I sq hne;refine min_intList (I.ok.hd hc) pl' hsz λv h' tk hv hk=>?_;obtain⟨t,rfl⟩:=jM hv;obtain⟨h1,h2⟩:=argBest_lt (gC zs) (zs.size-1);have hM:Qz ns=gC zs (aL (λi j=>decide (gC zs i<gC zs j)) (zs.size-1)):=by
  refine Dq ?_ λc hc=>?_
  .rw[hns _ nofun];rw[kj,kh nofun];exact Xm _
  .obtain⟨k,hk,rfl⟩:=Xw.mp hc;have:=h2 k nofun
   rw[hns k nofun,kj,kh hk]at this;exact this
 rw[hM]at q;exact⟨.int _,H,I.kept hk,⟨t,rfl⟩,q⟩
theorem DE.max2 (ha:DT X ρ a (.int i)) (hb:DT X ρ b (.int j)) (hm:X.mg "max" = a7) (hc:X.calm=a6) (hg:Gl X "max") (hs:a9 [a,b] X.env=(a4,aA a X.env)::a9 [b] X.env) (hs2:a9 [b] X.env=(a4,aA b X.env)::a9 [] X.env)
  (hpl:(aY pos (a9 [b] X.env)).any (·.1)=a4):DE X ρ (.Call (.Name "max" p) [a,b] [] pos) (.int (if j>i then j else i)):=λσ H Q R q =>
 (vm (j79 hc) hg hm m8 (jd peS (jd peS jz hs2) hs) (by decide) (by decide) hs hpl).to (ha σ H _ R λv H1 g1 e1=>hb σ H1 _ (R.grow g1) λu H2 g2 e2=>⟨i,j,by rw[show v=.int i from e1,show u=.int j from e2],q _ H2 (g1.trans g2) rfl⟩)
theorem DE.maxL {ns:List Int} (ha:DT X ρ a (.lst (ns.map D.int))) (hn:ns≠[]) (hm:X.mg "max" = a7) (hc:X.calm=a6) (hg:Gl X "max") (hs:a9 [a] X.env=[(a4,aA a X.env)]):DE X ρ (.Call (.Name "max" p) [a] [] pos) (.int (jg ns)):=λσ H Q R q =>(vm (j78 hc) hg hm m8 (jd peS jz hs) (by decide) (by decide) hs).to (ha σ H _ R λv H1 g1 ⟨l,xs,e,sq,en⟩=>⟨l,ns,by rw[e],by rw[vq en]at sq;exact sq,hn,q _ H1 g1 rfl⟩)
theorem DE.minL {ns:List Int} (ha:DT X ρ a (.lst (ns.map D.int))) (hn:ns≠[]) (hm:X.mg "min" = a7) (hc:X.calm=a6) (hg:Gl X "min") (hs:a9 [a] X.env=[(a4,aA a X.env)]):DE X ρ (.Call (.Name "min" p) [a] [] pos) (.int (Qz ns)):=λσ H Q R q =>(vm (j76 hc) hg hm i6 (jd peS jz hs) (by decide) (by decide) hs).to (ha σ H _ R λv H1 g1 ⟨l,xs,e,sq,en⟩=>⟨l,ns,by rw[e],by rw[vq en]at sq;exact sq,hn,q _ H1 g1 rfl⟩)
theorem jjv {K:k8m} {fd:aQ} {ps:List aj} (hn:0<ps.length) (h:∀(s:af)(us:List a8)(w:a8),K.In s.heap->us.length+1=ps.length->dA s fd ⟨us,[("prices",w)]⟩ (ps.zip (us++[w]))):KBinds K fd ps ["prices"] kG kGV :=
 ⟨λs us ws hK hl=>by
  match ws,hl with
  |[w],hl=>exact h s us w hK (by simpa [kG]using hl)
  |[],hl=>exact absurd hl (Xd hn)
  |_::_::_,hl=>exact absurd hl (Xd hn),λ{vs us zs ws} r1 r2=>by
  cases r2 with
  |nil=>exact .nil
  |cons a b =>
   cases b with
   |nil=>exact r1.append (.cons a .nil)
   |cons _ _=>exact .nil⟩
theorem DE.callD {S:List D->D->Prop} (c:Cal X x (spP X.K S)) (hx:x∈j4a) (ha:DA X ρ (e::es) ds) (hS:S (ds++[.non]) d) (hg:Gl X x) (hdb:(x==k8q)=a4)
  (he:a9 (e::es) X.env=(a4,aA e X.env)::a9 es X.env) (hpl:(aY pos (a9 es X.env)).any (·.1)=a4):DE X ρ (.Call (.Name x p) (e::es) [] pos) d:=λσ H Q R q=>by
 obtain⟨k,f,fd,ps,F,hr,hm,hk,hb,hd⟩:=c.ex;refine(M6 (dvs:=[.non]) F (hr.mono (Pk _)) hg hm hk (hd hx).1 (.cons rfl .nil) Im paS hdb he hpl).to (ha σ H _ R λvs H1 g1 e1=>?_);show spP X.K S (vs++[.non]) H1 Q E0;exact⟨owns ρ,ds++[.non],d,R.tb.mono g1,(R.grow g1).owned,e1.append (show j5 X.K _ [D.non] [V.non] from⟨.non,[],rfl,rfl,rfl⟩),hS,λv H2 g2 z=>q v H2 (g1.trans g2) z⟩
end
section
variable{X:Cx}{ρ:Rho}{p1 p2 p3 p4 p5 p6 q1 pos:aO}
end
section
variable{X:Cx}{ρ:Rho}{p1 p2 p3 p4 p5 p6 q1 pos:aO}
end
noncomputable def ch1(c:Nat):aj:=⟨#[c]⟩
noncomputable def chs(y:aj):List D:=y.cps.toList.map λc=>D.str (ch1 c)
noncomputable def ascii(y:aj):Bool:=y.cps.all (· < 128)
noncomputable def Its(y:aj):It:=⟨λi _=>i<y.cps.size,λi H x H'=>H'=H/\∃c,y.cps[i]?=a3 c/\x=.str (ch1 c),λi _=>y.cps.size<=i⟩
theorem j7l {P:av} {w:az} {K:k8m} {tg:ao} (it:aa) (y:aj) (t:gO):Turn P w K tg (Its y) [it] it (λi h=>h.IsStrIter it "str_ascii_iterator" y t i) where
 mem:=by simp
 obj:=λi h st b hb=>by
  have e:b=it:=by simpa using hb
  subst e;obtain⟨o,e,c,d⟩:=st;exact⟨o,e,λv z=>by rw[d]at z;cases z⟩
 keep:=λi h h' st k=>let ⟨o,e,r⟩:=st;⟨o,k it (by simp) o e,r⟩
 item:=by intro X hP hw hK hc i pins s σ H E I hf st hg;subst hP hw hK;obtain⟨f0,f1,f2,f3,f4,f5⟩:=hf it (by simp);have W:=Walks.strAscii (prog:=X.prog) (w:=X.w) (I.ok.hd hc) it y t;refine W.item i s _ _ hg st λv h' tk hv st' kk=>?_;obtain⟨c,u,hcu,rfl⟩:=hv;have I1:Inv X pins σ H { s with heap:=h',toks:=tk }:=I.turned (λb o hb e=>kk b o (by simpa using hb) e) f0 f1 f3 f4 f5;obtain⟨o,e,oc,d⟩:=id st';exact⟨_,rfl,Iv (s:={ s with heap:=h',toks:=tk }) e oc d (by decide) ⟨.str (ch1 c),H,I1,⟨u,rfl⟩,⟨rfl,c,hcu,rfl⟩,st',λb hb=>(hf b hb).1⟩⟩
 done:=by intro X hP hw hK hc i pins s σ H E I hf st hg;subst hP hw hK;obtain⟨f0,f1,f2,f3,f4,f5⟩:=hf it (by simp);exact wpAny_pyNext_ascii_end (I.ok.hd hc) st (by have:y.cps.size<=i:=hg;simp;omega) λh' eb=>⟨rfl,I.turned (t':=s.toks) (λb o hb e=>eb b o hb e) f0 f1 f3 f4 f5⟩
 self:=λ_ _ _ _ _ st h=>wpAny_pyIter_striter_ascii st h
section
variable{X:Cx}{ρ:Rho}{a b c e tg it:ao}{y z:aj}{i j k:Int}{p p2 pos:aO}
theorem j8l{K:k8m}{F:Hp}(y:aj):Uk K F (Its y) (chs y):=λi H A g hA=>by
 have hl:(chs y).length=y.cps.size:=by unfold chs;rw[xg,cW]
 rw[hl];refine⟨λh=>h,λh=>h,λx H' ⟨e,c,hc,ex⟩=>?_⟩;subst e ex;refine⟨j0.refl _,λd hd=>?_⟩;unfold chs at hd;rw[X6,gX,hc]at hd;cases hd;rfl
theorem DI.str(h:DT X ρ it (.str y))(ha:ascii y=a6):DI X ρ tg it (chs y):=λσ H R r q pins s I=>by
 refine thn (h σ H (λv H1=>v=.str y/\j0 H H1) r (λv H1 g e=>⟨e,g⟩) pins s I) λv s1 ⟨x,H1,I1,r1,ex,g1⟩=>?_;subst ex;obtain⟨t,rfl⟩:=(show ∃t,v=bO y t from r1)
 refine wpAny_pyIter_ascii ha ?_;refine⟨s1.heap.objs.size,[s1.heap.objs.size],_,_,H1,rfl,I1.kept (t':=s1.toks) λb o e=>km _ e,j7l _ y t,⟨_,xu _ rfl,rfl,rfl⟩,λb hb=>?_,q _ H1 g1 (j8l y)⟩;have e:b=s1.heap.objs.size:=by simpa using hb
 subst e;exact I1.fpOk (xx _) (I1.hok.fresh (xx _))
noncomputable def inS(y z:aj):Bool:=!(fK z y 0 z.length 1).isEmpty
theorem K4:OpR X (aR .Gt) (λx y H Q=>∃i j,x=.str i/\y=.str j/\Q (.bl (decide (j.cps.toList<i.cps.toList))) H):=by intro pins s σ H x y v u Q I rx ry h;obtain⟨i,j,rfl,rfl,q⟩:=h;obtain⟨t,rfl⟩:=rx;obtain⟨t',rfl⟩:=ry;exact P.gt_str (ju I q rfl)
theorem DE.ltS(ha:DT X ρ a (.str y))(hb:DT X ρ b (.str z)):DE X ρ (.Compare a [.Lt] [b] pos) (.bl (decide (y.cps.toList<z.cps.toList))):=λσ H Q R q =>(Jm K1 peS peS (za _)).to (ha σ H _ R λv H1 g1 e1=>hb σ H1 _ (R.grow g1) λu H2 g2 e2=>⟨y,z,e1,e2,q _ H2 (g1.trans g2) rfl⟩)
theorem DB.ltS(ha:DT X ρ a (.str y))(hb:DT X ρ b (.str z)):DB X ρ (.Compare a [.Lt] [b] pos) (decide (y.cps.toList<z.cps.toList)):=λσ H Q R q =>(Jl K1 peS peS (za _)).to (ha σ H _ R λv H1 g1 e1=>hb σ H1 _ (R.grow g1) λu H2 g2 e2=>⟨y,z,e1,e2,_,rfl,q H2 (g1.trans g2)⟩)
theorem DE.gtS(ha:DT X ρ a (.str y))(hb:DT X ρ b (.str z)):DE X ρ (.Compare a [.Gt] [b] pos) (.bl (decide (z.cps.toList<y.cps.toList))):=λσ H Q R q =>(Jm K4 peS peS (za _)).to (ha σ H _ R λv H1 g1 e1=>hb σ H1 _ (R.grow g1) λu H2 g2 e2=>⟨y,z,e1,e2,q _ H2 (g1.trans g2) rfl⟩)
theorem DB.gtS(ha:DT X ρ a (.str y))(hb:DT X ρ b (.str z)):DB X ρ (.Compare a [.Gt] [b] pos) (decide (z.cps.toList<y.cps.toList)):=λσ H Q R q =>(Jl K4 peS peS (za _)).to (ha σ H _ R λv H1 g1 e1=>hb σ H1 _ (R.grow g1) λu H2 g2 e2=>⟨y,z,e1,e2,_,rfl,q H2 (g1.trans g2)⟩)
theorem DE.inS(ha:DT X ρ a (.str y))(hb:DT X ρ b (.str z))(hm:aG .In b=a4):DE X ρ (.Compare a [.In] [b] pos) (.bl (inS y z)):=λσ H Q R q =>(Jm K3 peS peS hm).to (ha σ H _ R λv H1 g1 e1=>hb σ H1 _ (R.grow g1) λu H2 g2 e2=>⟨y,z,e1,e2,q _ H2 (g1.trans g2) rfl⟩)
theorem DB.inS(ha:DT X ρ a (.str y))(hb:DT X ρ b (.str z))(hm:aG .In b=a4):DB X ρ (.Compare a [.In] [b] pos) (inS y z):=λσ H Q R q =>(Jl K3 peS peS hm).to (ha σ H _ R λv H1 g1 e1=>hb σ H1 _ (R.grow g1) λu H2 g2 e2=>⟨y,z,e1,e2,_,rfl,q H2 (g1.trans g2)⟩)
theorem mulOk_of(h1:1<=k/\k<=1000)(h2:y.length<=1000):MulOk y k:=by
 refine⟨?_,λ_ _=>?_,λ_ _=>?_⟩
 .simp;omega
 .have:(1000:Int)<=(2^63-1)/k:=Int.le_ediv_of_mul_le nofun nofun
  omega
 .have hk:k.toNat<=1000:=by omega
  have:y.length*k.toNat<=1000000:=Nat.mul_le_mul h2 hk;unfold cN;rw[jJ];simp;omega
theorem j3v:OpR X (bj .Mult) (λx y H Q=>∃i k,x=.str i/\y=.int k/\MulOk i k/\Q (.str (iO i k)) H):=by intro pins s σ H x y v u Q I rx ry h;obtain⟨i,k,rfl,rfl,hm,q⟩:=h;obtain⟨t,rfl⟩:=rx;obtain⟨t',rfl⟩:=ry;exact SB.mul hm λt' tk=>⟨.str _,H,I.un (t':=tk) Un.refl I.hok,⟨_,rfl⟩,q⟩
theorem DE.mulS(ha:DT X ρ a (.str y))(hb:DT X ρ b (.int k))(h1:1<=k/\k<=1000)(h2:y.length<=1000):DE X ρ (.BinOp a .Mult b pos) (.str (iO y k)):=λσ H Q R q =>(U5 j3v peS peS).to (ha σ H _ R λv H1 g1 e1=>hb σ H1 _ (R.grow g1) λu H2 g2 e2=>⟨y,k,e1,e2,mulOk_of h1 h2,q _ H2 (g1.trans g2) rfl⟩)
end
theorem Ku (a v:a8):argsOk "max" ⟨[a],[(aK "default",v)]⟩:=by unfold argsOk;kernel_rfl
section
variable{X:Cx}{pins:k8o}{σ:St}{H:Hp}{l S I:aa}{xs:List V}{R:fm->af->Prop}{dv:a8}
def jit(X:Cx)(pins:k8o)(σ:St)(H:Hp)(xs:List V)(bt:Nat->Nat->Bool):Prop:=∀(i j:Nat)(x y:V)(u v:a8)(s:af)(Q:k8n)(E:k8n),xs[i]?=a3 x->xs[j]?=a3 y->RelV x u->RelV y v->Inv X pins σ H s ->
 Q (.bool (bt i j)) s->aq (ay X.prog X.w) X.A.in1 (d8 .Gt u v) Q E s
theorem jcj(bt:Nat->Nat->Bool)(hh:X.A.handled=a7)(hl:SqL X.K H l xs)(hSI:S≠I)(fS:zm X pins H S)(fI:zm X pins H I)(cmp:jit X pins σ H xs bt)
  (hR:∀x u s',xs[aL bt (xs.length-1)]?=a3 x->RelV x u->Inv X pins σ H s'->R (.ok (.ret u)) s') :
  ∀(r j:Nat)(s:af)(x:V)(u:a8)(c:Nat),xs.length-(j+1)=r->j+1<=xs.length->Inv X pins σ H s->s.heap.get? S=a3 (bc "list" #[u,u] c) ->
   s.heap.IsListIter I l (j+1)->xs[aL bt j]?=a3 x->RelV x u->c8 (ay X.prog X.w) X.A (.builtin "max.loop" ⟨[.ref I,.none,.ref S],[(aK "default",dv)]⟩) R s:=by
 have hname:(toString "max" ++ toString ".loop":String) = "max.loop":=by decide
 have fp:∀b∈[S,I],zm X pins H b:=λb hb=>by
  rcases xn.mp hb with e|hb
  .subst e;exact fS
  .rw[xj.mp hb];exact fI
 intro r;induction r with
 |zero =>
  intro j s x u c hr hj I1 oS it hx ru;have hin:j+1=xs.length:=by omega
  obtain⟨its,rv,p,_⟩:=I1.list hl;have hlen:=rv.length;refine aI cC ?_;rw[Xo Pn _];show aq _ X.A.in1 (bW (.ref S) >>= _) _ _ _;refine a5 (ba oS rfl ?_);show aq _ X.A.in1 (tryCatch (ck (.ref I)) _ >>= _) _ _ _;refine a5 (aN (bX hh it p.isList (by simp;omega) λh' eb=>?_));have I2:Inv X pins σ H { s with heap:=h' }:=I1.chg (ch:=[S,I]) fp λb o hb e=>eb b o (λz=>hb (by simp[z])) e;have oS':h'.get? S=a3 (bc "list" #[u,u] c):=eb S _ hSI oS;show aq _ X.A.in1 (fC S (λ_=>#[]) >>= _) _ _ _;refine a5 ?_;refine bA oS' rfl (a5 (bC (ah ?_)));have s1:=Xx h' S (aS λ_=>(#[]:Array a8));exact hR x u _ (by rw[<-hin];exact hx) ru (I2.chg (ch:=[S,I]) fp λb o hb e=>(s1.2 b (λz=>hb (by simp[z]))).trans e)
 |succ r ih =>
  intro j s x u c hr hj I1 oS it hx ru;have hlt:j+1<xs.length:=by omega
  obtain⟨its,rv,p,_⟩:=I1.list hl;have hlen:=rv.length;have hx1:xs[j+1]?=a3 xs[j+1]:=by simp[hlt]
  obtain⟨v,hv,rv1⟩:=rv.get hx1;refine aI cC ?_;rw[Xo Pn _];show aq _ X.A.in1 (bW (.ref S) >>= _) _ _ _;refine a5 (ba oS rfl ?_);show aq _ X.A.in1 (tryCatch (ck (.ref I)) _ >>= _) _ _ _;refine a5 (aN (bg it p.isList (x:=v) (by simpa using hv) λh' it' sb=>?_));have I2:Inv X pins σ H { s with heap:=h' }:=I1.chg (ch:=[S,I]) fp λb o hb e=>(sb.2 b (λz=>hb (by simp[z]))).trans e;have oS':h'.get? S=a3 (bc "list" #[u,u] c):=(sb.2 S hSI).trans oS;obtain⟨oI,eI,cI,dI⟩:=id it';show aq _ X.A.in1 (tryCatch (bL [v,v] (d8 .Gt v u >>= _)) _ >>= _) _ _ _;refine a5 (aN (aT (a5 (cmp (j+1) (aL bt j) _ _ v u _ _ _ hx1 hx rv1 ru I2 ?_))));refine a5 (aT (b7 ?_));refine a5 (bC (ah ?_));cases hb:bt (j+1) (aL bt j) with
  |true =>
   have s1:=Xx h' S (aS λ_=>#[v,v]);obtain⟨c2,hc2⟩:∃c2,(h'.update S (aS λ_=>#[v,v])).get? S=a3 (bc "list" #[v,v] c2):=⟨_,cK oS' λ_=>#[v,v]⟩
   simp only[if_true];refine a5 ?_;refine bA oS' rfl (a5 (bC ?_));rw[hname];exact ah ⟨aP Pn _,ih (j+1) _ _ v c2 nofun hlt (I2.chg (ch:=[S,I]) fp λb o hb e=>(s1.2 b (λz=>hb (by simp[z]))).trans e) hc2
    ⟨oI,(s1.2 I hSI.symm).trans eI,cI,dI⟩ (by simp only[aL,hb,if_true];exact hx1) rv1⟩
  |false =>simp only[Xp,if_false];refine a5 (bC ?_);rw[hname];exact ah ⟨aP Pn _,ih (j+1) _ x u c nofun hlt I2 oS' ⟨oI,eI,cI,dI⟩ (by simp only[aL,hb,Xp,if_false];exact hx) ru⟩
theorem jg2(bt:Nat->Nat->Bool)(hh:X.A.handled=a7){s:af}{Q:VK}{E:k8n}(I0:Inv X pins σ H s)(hl:SqL X.K H l xs)(hne:0<xs.length)(cmp:jit X pins σ H xs bt)
  (hQ:∀x,xs[aL bt (xs.length-1)]?=a3 x->Q x H):aq (ay X.prog X.w) X.A (call (.builtin "max") [.ref l] [(aK "default",dv)]) (EP X pins σ Q) E s:=by
 have hname:(toString "max" ++ toString ".loop":String) = "max.loop":=by decide
 obtain⟨its0,rv0,p0,_⟩:=I0.list hl;refine lZ iB il iq (Ku _ _) ?_;show aq _ X.A.in1 (aJ "max" ["key","default"] 0 ⟨[],[(aK "default",dv)]⟩ >>= _) _ _ s;refine a5 (d6 (show aJ "max" ["key","default"] 0 ⟨[],[(aK "default",dv)]⟩=pure [a7,a3 dv]from rfl) ?_);refine a5 (ah ?_);refine a5 (b8 p0.isList ?_);refine a5 (fM ?_ (Ti _));rw[hname];generalize hA:s.heap.push { cls:=.type "list_iterator",data:=.fields #[.ref l,.int 0 0] }=h1;have z1:h1.objs.size=s.heap.objs.size+1:=by rw[<-hA];exact ki ..
 have gI:(h1.push (bc "list" #[] 0)).get? s.heap.objs.size=a3 { cls:=.type "list_iterator",data:=.fields #[.ref l,.int 0 0] }:=by rw[<-hA];exact km _ (xu _ rfl)
 have gS:(h1.push (bc "list" #[] 0)).get? h1.objs.size=a3 (bc "list" #[] 0):=xu _ rfl;have I1:Inv X pins σ H { s with heap:=h1.push (bc "list" #[] 0) }:=I0.kept (t':=s.toks) λb o e=>km _ (by rw[<-hA];exact km _ e);have fI:zm X pins H s.heap.objs.size:=I0.fpOk (xx _) (I0.hok.fresh (xx _));have fS:zm X pins H h1.objs.size:=I0.fpOk (by rw[z1];exact Pk _) (I0.hok.fresh (by rw[z1];exact Pk _));have hSI:h1.objs.size≠s.heap.objs.size:=by rw[z1];exact Py (T9 _)
 have fp:∀b∈[h1.objs.size,s.heap.objs.size],zm X pins H b:=λb hb=>by
  rcases xn.mp hb with e|hb
  .subst e;exact fS
  .rw[xj.mp hb];exact fI
 refine ah ⟨aP Pn _,?_⟩;obtain⟨its,rv,p,_⟩:=I1.list hl;have hlen:=rv.length;have hx0:xs[0]?=a3 xs[0]:=by simp[hne]
 obtain⟨v,hv,rv1⟩:=rv.get hx0;refine aI cC ?_;rw[Xo Pn _];show aq _ X.A.in1 (bW (.ref _) >>= _) _ _ _;refine a5 (ba gS rfl ?_);show aq _ X.A.in1 (tryCatch (ck (.ref s.heap.objs.size)) _ >>= _) _ _ _;refine a5 (aN (bg (i:=0) ⟨_,gI,rfl,rfl⟩ p.isList (x:=v) (by simpa using hv) λh' it' sb=>?_));have I2:Inv X pins σ H { s with heap:=h' }:=I1.chg (ch:=[h1.objs.size,s.heap.objs.size]) fp λb o hb e=>(sb.2 b (λz=>hb (by simp[z]))).trans e;have oS':h'.get? h1.objs.size=a3 (bc "list" #[] 0):=(sb.2 _ hSI).trans gS;obtain⟨oI,eI,cI,dI⟩:=id it';have s1:=Xx h' h1.objs.size (aS λ_=>#[v,v]);obtain⟨c2,hc2⟩:∃c2,(h'.update h1.objs.size (aS λ_=>#[v,v])).get? h1.objs.size=a3 (bc "list" #[v,v] c2):=⟨_,cK oS' λ_=>#[v,v]⟩
 show aq _ X.A.in1 (fC h1.objs.size (λ_=>#[v,v]) >>= _) _ _ _;refine a5 ?_;refine bA oS' rfl ?_;rw[hname];exact ah ⟨aP Pn _,jcj bt hh hl hSI fS fI cmp (λx u s' hx ru I=>⟨x,H,I,ru,hQ x hx⟩) _ 0 _ _ v c2 rfl hne
  (I2.chg (ch:=[h1.objs.size,s.heap.objs.size]) fp λb o hb e=>(s1.2 b (λz=>hb (by simp[z]))).trans e) hc2 ⟨oI,(s1.2 _ hSI.symm).trans eI,cI,dI⟩ hx0 rv1⟩
theorem jci (hh:X.A.handled=a7) {s:af} {Q:k8n} {E:k8n} (I0:Inv X pins σ H s) (hl:SqL X.K H l []) (hQ:∀s',Inv X pins σ H s'->Q dv s'):aq (ay X.prog X.w) X.A (call (.builtin "max") [.ref l] [(aK "default",dv)]) Q E s:=by
 have hname:(toString "max" ++ toString ".loop":String) = "max.loop":=by decide
 obtain⟨its0,rv0,p0,_⟩:=I0.list hl;cases rv0;refine lZ iB il iq (Ku _ _) ?_;show aq _ X.A.in1 (aJ "max" ["key","default"] 0 ⟨[],[(aK "default",dv)]⟩ >>= _) _ _ s;refine a5 (d6 (show aJ "max" ["key","default"] 0 ⟨[],[(aK "default",dv)]⟩=pure [a7,a3 dv]from rfl) ?_);refine a5 (ah ?_);refine a5 (b8 p0.isList ?_);refine a5 (fM ?_ (Ti _));rw[hname];generalize hA:s.heap.push { cls:=.type "list_iterator",data:=.fields #[.ref l,.int 0 0] }=h1;have gI:(h1.push (bc "list" #[] 0)).get? s.heap.objs.size=a3 { cls:=.type "list_iterator",data:=.fields #[.ref l,.int 0 0] }:=by rw[<-hA];exact km _ (xu _ rfl)
 have gS:(h1.push (bc "list" #[] 0)).get? h1.objs.size=a3 (bc "list" #[] 0):=xu _ rfl;have I1:Inv X pins σ H { s with heap:=h1.push (bc "list" #[] 0) }:=I0.kept (t':=s.toks) λb o e=>km _ (by rw[<-hA];exact km _ e);have fI:zm X pins H s.heap.objs.size:=I0.fpOk (xx _) (I0.hok.fresh (xx _));have fp:∀b∈[s.heap.objs.size],zm X pins H b:=λb hb=>by rw[xj.mp hb];exact fI
 refine ah ⟨aP Pn _,?_⟩;obtain⟨its,rv,p,_⟩:=I1.list hl;cases rv;refine aI cC ?_;rw[Xo Pn _];show aq _ X.A.in1 (bW (.ref _) >>= _) _ _ _;refine a5 (ba gS rfl ?_);show aq _ X.A.in1 (tryCatch (ck (.ref s.heap.objs.size)) _ >>= _) _ _ _;refine a5 (aN (bX (i:=0) hh ⟨_,gI,rfl,rfl⟩ p.isList (by simp) λh' eb=>?_));have I2:Inv X pins σ H { s with heap:=h' }:=I1.chg (ch:=[s.heap.objs.size]) fp λb o hb e=>eb b o (λz=>hb (by simp[z])) e;show aq _ X.A.in1 (kc _ >>= λ_=>ret dv) _ _ _;refine a5 (wpAny_rule (ah ?_));exact hQ _ I2
end
section
variable{X:Cx}{ρ:Rho}{a b c:ao}{ns:List Int}{i j k:Int}{n:Nat}{p p1 pk pos:aO}
theorem DE.maxD (hcalm:X.calm=a6) (hm:X.mg "max" = a7) (hg:Gl X "max") (ha:DT X ρ a (.lst (ns.map D.int))) (hs:a9 [a] X.env=[(a4,aA a X.env)]) :
  DE X ρ (.Call (.Name "max" p) [a] [⟨a3 "default",.Constant (.int 0) n p1,pk⟩] pos) (.int (jg ns)):=λσ H Q R q pins s I=>by
 refine aF (Jq I hg hm m8 ?_ (by decide) (by decide));refine jP (by rw[hs];rfl) rfl (evalArgs_kw2 rfl ?_ hs);have h1:PA X [a] (Rv (Qf X a) Dg):=jd peS jz hs;refine thn (h1 pos pins s σ H (λvs H1=>∃v,vs=[v]/\j0 H H1/\Enc X.K H1 (.lst (ns.map D.int)) v) I (ha σ H _ R λv H1 g1 e1=>⟨v,rfl,g1,e1⟩)) λus s1 ⟨vs,H1,I1,r1,v,ev,g1,e1⟩=>?_;subst ev;have h2:PK X [⟨a3 "default",.Constant (.int 0) n p1,pk⟩] (Rv (tC (.int 0)) Dg):=V3 j5n j5f;refine thn (h2 pos pins s1 σ H1 (λvs H2=>vs=[.int 0]/\H2=H1) I1 ⟨rfl,rfl⟩) λks s2 ⟨ws,H2,I2,r2,ew,eH⟩=>?_;subst ew eH;obtain⟨b,xs,eb,sq,en⟩:=e1;subst eb;obtain⟨u,eu,ru⟩:=r1.one;subst eu;obtain⟨w,ek,rw⟩:=r2.one;subst ek;cases(show u=aB b from ru);obtain⟨tk,rfl⟩:=(show ∃t,w=bo 0 t from rw)
 have:=j0z en;subst this;show aq (ay X.prog X.w) X.A (fb (.builtin "max") [.ref b] [(aK "default",.int 0 tk)]) _ _ _;by_cases hne:ns=[]
 .subst hne;exact jci (I.ok.hd hcalm) I2 sq λs' I'=>⟨.int 0,H2,I',⟨_,rfl⟩,q _ H2 g1 rfl⟩
 .refine jg2 (λi j=>decide (ns.getD i 0>ns.getD j 0)) (I.ok.hd hcalm) I2 sq (by rw[xg];exact List.length_pos_iff.mpr hne) (λi j x y u v s3 Q2 E2 hx hy rx ry I3 hq=>?_) λx hx=>?_
  .have at':∀{i:Nat}{x:V}{u:a8},(ns.map V.int)[i]?=a3 x->RelV x u->∃t,u=bo (ns.getD i 0) t:=λ{i x u} hx rx=>by rw[X6]at hx;obtain⟨z,hz,rfl⟩:=Pb.mp hx;rw[kj,hz];exact rx
   obtain⟨t1,rfl⟩:=at' hx rx;obtain⟨t2,rfl⟩:=at' hy ry;exact(gt_int hq:aq (ay X.prog X.w) X.A.in1 (aR .Gt _ _) Q2 E2 s3)
  .rw[xg]at hx;obtain⟨h1,h2⟩:=argBest_gt (λi=>ns.getD i 0) (ns.length-1);have hp:=List.length_pos_iff.mpr hne;rw[X6,kh nofun]at hx;cases hx;have hM:jg ns=ns[aL (λi j=>decide (ns.getD i 0>ns.getD j 0)) (ns.length-1)]'nofun:=by
    refine Ds (Xm _) λc hc=>?_;obtain⟨k,hk,rfl⟩:=Xw.mp hc;have:=h2 k nofun
    simp only[kj]at this ⊢;rw[kh hk,kh (by simp only[kj]at h1;omega)]at this;exact this
   exact q _ H2 g1 (by rw[hM];rfl)
theorem DE.che(ha:DT X ρ a (.int i))(hb:DT X ρ b (.int j))(hc:DT X ρ c (.int k))(hm:kY [.LtE,.LtE] [b,c]=a4):DE X ρ (.Compare a [.LtE,.LtE] [b,c] pos) (.bl (decide (i<=j)&&decide (j<=k))):=λσ H Q R q =>
 (j88 Io Io peS peS peS hm).to (ha σ H _ R λv H1 g1 e1=>hb σ H1 _ (R.grow g1) λu H2 g2 e2=>⟨i,j,e1,e2,_,rfl,by
  by_cases h:i<=j
  .rw[decide_eq_true h,if_pos rfl]
   exact hc σ H2 _ (R.grow (g1.trans g2)) λw H3 g3 e3=>⟨j,k,e2,e3,q _ H3 ((g1.trans g2).trans g3) (by rw[decide_eq_true h,gE];rfl)⟩
  .rw[decide_eq_false h,if_neg xm]
   exact q _ H2 (g1.trans g2) (by rw[decide_eq_false h,gj];rfl)⟩)
end
end L2
end
section
namespace L2
noncomputable def Ze(t:Int):List Int:=if t=2 then[0,1] else[t]
noncomputable def step(acc:List (List Int))(f:List Int):List (List Int):=acc.flatMap λa=>f.map λx=>a++[x]
noncomputable def qp(fs:List (List Int)):List (List Int):=fs.foldl step [[]]
noncomputable def zg:List (List Int)->List (List Int)
 |[]=>[[]]
 |f::fs=>f.flatMap λx=>(zg fs).map (x :: ·)
theorem Nv:∀(fs:List (List Int)) (acc:List (List Int)),fs.foldl step acc=acc.flatMap λa=>(zg fs).map (a ++ ·)
 |[],acc=>by simp[zg]
 |f::fs,acc=>by
  rw[Pz,Nv fs,step,List.flatMap_assoc];congr 1
  funext a
  rw[zg,List.map_flatMap,List.flatMap_map];congr 1
  funext x
  rw[Xe];congr 1
  funext r
  simp
theorem Q6(fs:List (List Int)):qp fs=zg fs:=by rw[qp,Nv];simp
noncomputable def Jx:Nat->List (List Int)
 |0=>[[]]
 |m+1=>(Jx m).map (0 :: ·)++(Jx m).map (1 :: ·)
theorem Wt:∀m,(Jx m).length=2^m
 |0=>rfl
 |m+1=>by rw[Jx,Xf,xg,xg,Wt m,Tv];omega
theorem Bd{b:Int}(hb:0<b)(n c:Int):∀{i m:Nat},i<=m->j6 b i (n+b^m*c)=j6 b i n
 |0,m,_=>rfl
 |i+1,m,h=>by
  rw[j6,j6,Bd hb n c nofun];congr 1;obtain⟨k,rfl⟩:∃k,m=i+(k+1):=⟨m-i-1,by omega⟩
  have hp:b^i≠0:=ib (bY hb);rw[Int.pow_add,kI,eL _ _ hp,ia,l6 (b^k) b,kI,Int.add_mul_emod_self_left]
theorem Oi:∀m:Nat,(ax (2^m)).map (λn=>j6 2 m ((n:Nat):Int))=Jx m
 |0=>rfl
 |m+1=>by
  have e:2^(m+1)=2^m+2^m:=by rw[Tv];omega
  rw[e,gh,Pq,Jx,<-Oi m,Xe,Xe,Xe];have pc:((2^m:Nat):Int)=(2:Int)^m:=by simp
  congr 1
  .apply Pu;intro n hn;have hn':n<2^m:=X5.mp hn;show j6 2 (m+1) (n:Int)=0::j6 2 m (n:Int);rw[j6];congr 1;have h0:(n:Int)/2^m=0:=cM nofun (by rw[<-pc];omega)
   rw[h0];rfl
  .apply Pu;intro n hn;have hn':n<2^m:=X5.mp hn;show j6 2 (m+1) ((2^m+n:Nat):Int)=1::j6 2 m (n:Int);have e1:((2^m+n:Nat):Int)=(n:Int)+2^m*1:=by rw[eG,pc,lN,Int.add_comm]
   rw[e1,j6,Bd (by decide) _ _ (xx m)];congr 1;have hp:(2:Int)^m≠0:=ib (bY (by decide));have h0:(n:Int)/2^m=0:=cM nofun (by rw[<-pc];omega)
   rw[eL _ _ hp,h0];rfl
noncomputable def fits:List Int->List Int->Bool
 |t::ts,x::xs=>(t==2 || t==x)&&fits ts xs
 |_,_=>a6
theorem R9:∀{p:List Int},(∀t∈p,0<=t/\t<3)->(Jx p.length).filter (fits p)=zg (p.map Ze)
 |[],_=>rfl
 |t::ts,h=>by
  have ih:=R9 (p:=ts) λu hu=>h u (xf _ hu);rw[X3,Jx,cB,Xa,zg,<-ih];have key:∀x:Int,((Jx ts.length).map (x :: ·)).filter (fits (t::ts))=if (t==2 || t==x)=a6 then((Jx ts.length).filter (fits ts)).map (x :: ·) else[]:=λx=>by
   rw[jU];by_cases c:(t==2 || t==x)=a6
   .rw[if_pos c];congr 1;apply List.filter_congr;intro r _;show((t==2 || t==x)&&fits ts r)=fits ts r;rw[c,gE]
   .rw[if_neg c];have:(fits (t::ts) ∘ λr=>x::r)=λ_=>a4:=by
     funext r
     show((t==2 || t==x)&&fits ts r)=a4;rw[Bool.eq_false_iff.mpr c,gj]
    rw[this];simp
  rw[key 0,key 1];have ht:=h t (xq ..);have:t=0\/t=1\/t=2:=by omega
  rcases this with e|e|e<;>subst e<;>simp[Ze]
theorem Yj:∀p:List Int,(zg (p.map Ze)).length=2^(p.countP λt=>t==2)
 |[]=>rfl
 |t::ts=>by
  have ih:=Yj ts;rw[Xa,zg,Xq];by_cases c:t=2
  .subst c;simp[Ze,ih,Tv];omega
  .have e1:Ze t=[t]:=if_neg c;have e2:(t==2)=a4:=by simpa using c
   rw[e1,e2];simp[ih]
end L2
end
section
namespace L2
open PySem
inductive Sv where
 |un
 |val (d:D)
 |own (l:List D)
 |exc (x:aj)
noncomputable abbrev En:=List Sv
set_option genInjectivity true in
inductive Rk where
 |e (d:D)
 |o (l:List D)
 |w (l:List D)
 |t (d:D)
noncomputable def Rk.d:Rk->D
 |.e d=>d
 |.o l=>.lst l
 |.w l=>.lst l
 |.t d=>d
noncomputable def Rk.st:Rk->Option D
 |.e d=>a3 d
 |.o l=>a3 (.lst l)
 |.w l=>a7
 |.t d=>if Qq d=a6 then a3 d else a7
noncomputable def Rk.sq:Rk->Option (Bool×List D)
 |.e (.lst l)=>a3 (a6,l)
 |.e (.tup l)=>a3 (a4,l)
 |.o l=>a3 (a6,l)
 |.w l=>a3 (a6,l)
 |_=>a7
noncomputable def Rk.lw:Rk->Option (List D)
 |.o l=>a3 l
 |.w l=>a3 l
 |_=>a7
inductive Rc where
 |val (d:D)
 |fresh (l:List D)
 |err (x:aj)
 |lval (d:D)
 |no
noncomputable def Rc.rk:Rc->Option Rk
 |.val d=>a3 (.e d)
 |.fresh l=>a3 (.o l)
 |_=>a7
inductive Bop where
 |add|sub|mul|fdiv|mod|pow|shl|shr|band|bxor
inductive Cop where
 |lt|le|gt|ge|eq|ne|isin|notin
inductive Bf where
 |len|min|max|all|tuple|list|sum|int|any|sorted
inductive Mf where
 |count
inductive Ex where
 |lit (d:D)
 |var (i:Nat)
 |glob (x:aj)
 |bin (op:Bop) (a b:Ex)
 |neg (a:Ex)
 |cmp (op:Cop) (a b:Ex)
 |isN (a:Ex)
 |and (a b:Ex)
 |or (a b:Ex)
 |not (a:Ex)
 |ite (c a b:Ex)
 |nil
 |cons (a b:Ex)
 |tup (es:Ex)
 |lst (es:Ex)
 |ix (a b:Ex)
 |sl (a lo hi:Ex)
 |call (f:aj) (es:Ex)
 |blt (f:Bf) (es:Ex)
 |meth (m:Mf) (a es:Ex)
 |isi (a:Ex) (ts:List String)
 |comp (is:List Nat) (elt it cond:Ex)
 |seq (a:Ex)
 |range (es:Ex)
 |join (sep:aj) (a:Ex)
 |enum (a:Ex)
 |lset (a:Ex)
 |lrng (a:Ex)
 |minK (f:aj) (a:Ex)
 |dzip (a b:Ex)
 |callD (f:aj) (es:Ex)
 |chn (a b c:Ex)
 |che (a b c:Ex)
 |maxD (a:Ex)
 |callK (f:aj) (es a:Ex)
 |dix (a b:Ex)
 |dnil
 |rpr (a:Ex)
 |upr (a:Ex)
 |din (a b:Ex)
 |items (a:Ex)
 |callV (i:Nat) (es:Ex)
 |dget (a b:Ex)
 |dvals (a:Ex)
 |minT (a:Ex)
set_option genInjectivity true in
inductive W where
 |v (r:Rk)
 |a (rs:List Rk)
 |i (ds:List D)
noncomputable def jq(n:Nat):Bool:=decide (n<=ar)
noncomputable def binI:Bop->Int->Int->Option Int
 |.add,i,j=>a3 (i+j)
 |.sub,i,j=>a3 (i-j)
 |.mul,i,j=>if (-(2^64)<i/\i<2^64)\/(-(2^64)<j/\j<2^64)then a3 (i*j)else a7
 |.fdiv,i,j=>if 0<j/\j<18446744073709551616 then a3 (i/j)else a7
 |.mod,i,j=>if 0<j then a3 (i%j)else a7
 |.pow,i,j=>if 0<=j/\j<=1000000/\i.natAbs<2^64 then a3 (i^j.toNat)else a7
 |.shl,i,j=>if 0<=j/\j<=1000000/\i.natAbs<2^64 then a3 (i*2^j.toNat)else a7
 |.shr,i,j=>if 0<=j then a3 (i/2^j.toNat)else a7
 |.band,i,j=>a3 (cf i j)
 |.bxor,i,j=>a3 (iQ i j)
noncomputable def Uj(op:Bop)(a b:Rk):Option Rk :=
 match a.d,b.d with
 |.int i,.int j=>(binI op i j).map λk=>.e (.int k)
 |.str y,.str z=>match op with
  |.add=>if jq (y.length+z.length)=a6 then a3 (.e (.str (y++z)))else a7
  |_=>a7
 |.str y,.int k=>match op with
  |.mul=>if (1<=k/\k<=1000)/\y.length<=1000 then a3 (.e (.str (iO y k)))else a7
  |_=>a7
 |_,_=>match op,a.sq,b.sq,b.d with
  |.add,a3 (a6,l),a3 (a6,m),_=>if jq (l.length+m.length)=a6 then a3 (.o (l++m))else a7
  |.add,a3 (a4,l),a3 (a4,m),_=>if jq (l.length+m.length)=a6 then a3 (.e (.tup (l++m)))else a7
  |.mul,a3 (a4,l),_,.int k=>if 1<=k/\k<2^63/\l.isEmpty=a4/\jq (l.length*k.toNat)=a6 then a3 (.e (.tup (ae k.toNat l).flatten))else a7
  |.mul,_,_,.int k=>match a.lw with
   |some l=>if -(2^63)<=k/\k<2^63/\jq (l.length*k.toNat)=a6 then a3 (.o (ae k.toNat l).flatten)else a7
   |none=>a7
  |_,_,_,_=>a7
noncomputable def cmpI:Cop->Int->Int->Option Bool
 |.lt,i,j=>a3 (decide (i<j))
 |.le,i,j=>a3 (decide (i<=j))
 |.gt,i,j=>a3 (decide (j<i))
 |.ge,i,j=>a3 (decide (j<=i))
 |.eq,i,j=>a3 (decide (i=j))
 |.ne,i,j=>a3 (!decide (i=j))
 |_,_,_=>a7
noncomputable def D.sqv:D->Option (Bool×List D)
 |.lst l=>a3 (a6,l)
 |.tup l=>a3 (a4,l)
 |_=>a7
noncomputable def Zt(op:Cop)(a b:D):Option Bool :=
 match op,a,b with
 |op,.int i,.int j=>cmpI op i j
 |.eq,a,b=>if a.dep<=90/\b.dep<=90 then a3 (deq a b)else a7
 |.ne,.bl a,.bl b=>a3 (a != b)
 |.ne,.str a,.str b=>a3 (!decide (a=b))
 |.ne,.non,.non=>a3 a4
 |.ne,.lst l,.lst m=>if D.depL l<=90/\D.depL m<=90 then a3 (!v6 l m)else a7
 |.ne,.tup l,.tup m=>if D.depL l<=90/\D.depL m<=90 then a3 (!v6 l m)else a7
 |.isin,.str a,.str b=>a3 (inS a b)
 |.lt,.str a,.str b=>a3 (decide (a.cps.toList<b.cps.toList))
 |.gt,.str a,.str b=>a3 (decide (b.cps.toList<a.cps.toList))
 |.isin,a,b=>match b.sqv with
  |some (_,l)=>if D.depL l<=90/\a.dep<=90 then a3 (l.any λe=>deq e a)else a7
  |none=>a7
 |.notin,a,b=>match b.sqv with
  |some (_,l)=>if D.depL l<=90/\a.dep<=90 then a3 (!l.any λe=>deq e a)else a7
  |none=>a7
 |_,_,_=>a7
noncomputable def boolsOf:List D->Option (List Bool)
 |[]=>a3 []
 |.bl b::r=>(boolsOf r).map (b :: ·)
 |_::_=>a7
noncomputable def intsOf:List D->Option (List Int)
 |[]=>a3 []
 |.int b::r=>(intsOf r).map (b :: ·)
 |_::_=>a7
noncomputable def strsOf:List D->Option (List aj)
 |[]=>a3 []
 |.str b::r=>(strsOf r).map (b :: ·)
 |_::_=>a7
noncomputable def Z3:Bf->List Rk->Option Rk
 |.len,[a]=>match a.d with
  |.lst l=>a3 (.e (.int l.length))
  |.tup l=>a3 (.e (.int l.length))
  |.str y=>if jq y.length=a6 then a3 (.e (.int y.length))else a7
  |_=>a7
 |.min,[a,b]=>match a.d,b.d with
  |.int i,.int j=>a3 (.e (.int (if j<i then j else i)))
  |_,_=>a7
 |.max,[a,b]=>match a.d,b.d with
  |.int i,.int j=>a3 (.e (.int (if j>i then j else i)))
  |_,_=>a7
 |.max,[a]=>match a.d with
  |.lst l=>match intsOf l with
   |some ns=>if ns.isEmpty=a4 then a3 (.e (.int (jg ns)))else a7
   |none=>a7
  |_=>a7
 |.min,[a]=>match a.d with
  |.lst l=>match intsOf l with
   |some ns=>if ns.isEmpty=a4 then a3 (.e (.int (Qz ns)))else a7
   |none=>a7
  |_=>a7
 |.all,[a]=>match a.d with
  |.lst l=>(boolsOf l).map λbs=>.e (.bl (bs.all id))
  |_=>a7
 |.any,[a]=>match a.d with
  |.lst l=>(boolsOf l).map λbs=>.e (.bl (bs.any id))
  |_=>a7
 |.tuple,[a]=>match a.sq with
  |some (_,l)=>a3 (.e (.tup l))
  |none=>a7
 |.list,[a]=>match a.sq with
  |some (_,l)=>a3 (.o l)
  |none=>a7
 |.sum,[a]=>match a.d with
  |.lst l=>(intsOf l).map λns=>.e (.int ns.sum)
  |.tup l=>(intsOf l).map λns=>.e (.int ns.sum)
  |_=>a7
 |.int,[a]=>match a.d with
  |.bl k=>a3 (.e (.int (if k then 1 else 0)))
  |_=>a7
 |_,_=>a7
noncomputable def Ip:Mf->Rk->List Rk->Option Rk
 |.count,a,[b]=>match a.d with
  |.tup l=>if D.depL l<=90/\b.d.dep<=90 then a3 (.e (.int (l.countP λe=>deq e b.d)))else a7
  |.lst l=>if D.depL l<=90/\b.d.dep<=90 then a3 (.e (.int (l.countP λe=>deq e b.d)))else a7
  |_=>a7
 |_,_,_=>a7
noncomputable def qx(t c:String):Option Bool :=
 if t = "function" then a7 else
 if c = "int" then a3 (t == "int" || t == "bool") else
 if c = "bool" then a3 (t == "bool") else
 if c = "str" then a3 (t == "str") else
 if c = "list" then a3 (t == "list") else
 if c = "tuple" then a3 (t == "tuple")else a7
noncomputable def qe(d:D):List String->Option Bool
 |[]=>a3 a4
 |c::cs=>match qx d.ty c,qe d cs with
  |some a,a3 b=>a3 (a || b)
  |_,_=>a7
noncomputable def zb:List Nat->D->En->Option En
 |[i],d,ρ=>a3 (ρ.set i (.val d))
 |[i,j],d,ρ=>match d with
  |.tup [a,b]=>a3 ((ρ.set i (.val a)).set j (.val b))
  |_=>a7
 |[i,j,k],d,ρ=>match d with
  |.tup [a,.tup [b,c]]=>a3 (((ρ.set i (.val a)).set j (.val b)).set k (.val c))
  |_=>a7
 |[i,j,k,_],d,ρ=>match d with
  |.tup [a,b,c]=>a3 (((ρ.set i (.val a)).set j (.val b)).set k (.val c))
  |_=>a7
 |_,_,_=>a7
noncomputable def Iw(is:List Nat)(ρ:En):Bool:=is.all λi=>match ρ[i]? with
 |some .un=>a6
 |_=>a4
noncomputable def vz(f:D->Option (Option D)):List D->Option (List D)
 |[]=>a3 []
 |d::ds=>match f d,vz f ds with
  |some (a3 x),a3 xs=>a3 (x::xs)
  |some a7,a3 xs=>a3 xs
  |_,_=>a7
noncomputable def zp:List Rk->Option (List D)
 |[]=>a3 []
 |r::rs=>match r.st,zp rs with
  |some d,a3 ds=>a3 (d::ds)
  |_,_=>a7
noncomputable def W.one:W->Option Rk
 |.v r=>a3 r
 |_=>a7
noncomputable def W.args:W->Option (List Rk)
 |.a rs=>a3 rs
 |_=>a7
noncomputable def W.it:W->Option (List D)
 |.i ds=>a3 ds
 |_=>a7
noncomputable def Qp:Option W->Option (Option Int)
 |some (.a [])=>a3 a7
 |some (.a [r])=>match r.d with
  |.int i=>a3 (a3 i)
  |_=>a7
 |_=>a7
noncomputable def truth:Option W->Option Bool
 |some (.v r)=>match r.d with
  |.bl k=>a3 k
  |_=>a7
 |_=>a7
noncomputable def j93:Ex->Option Nat
 |.seq (.var i)=>a3 i
 |.enum (.var i)=>a3 i
 |_=>a7
noncomputable def frz(t:Ex)(ρ:En):En:=match j93 t with
 |some i=>match ρ[i]? with
  |some (.own l)=>ρ.set i (.val (.lst l))
  |_=>ρ
 |none=>ρ
noncomputable def Jd(t:Ex)(ρ:En):Bool:=match j93 t with
 |some i=>match ρ[i]? with
  |some (.own _)=>a6
  |_=>a4
 |none=>a4
noncomputable def jad:D->Option aj
 |.int i=>if -18446744073709551616<i/\i<18446744073709551616 then a3 (aK (toString i))else a7
 |.str y=>if y.length<=2000 then a3 y else a7
 |_=>a7
noncomputable def j2d:List Rk->Option (List aj)
 |[]=>a3 []
 |r::rs=>match jad r.d,j2d rs with
  |some y,a3 ys=>a3 (y::ys)
  |_,_=>a7
noncomputable def bang(x:aj):aj:=("!":aj)++x
noncomputable def qm(f:aj):aj:=("??":aj)++f
noncomputable def tupI:D->Option (List Int)
 |.tup l=>intsOf l
 |_=>a7
noncomputable def j43:Rc->Option Int
 |.val (.int k)=>a3 k
 |_=>a7
noncomputable def Vi(kf:D->Option Int):D->Int->List D->Option D
 |b,_,[]=>a3 b
 |b,kb,d::ds=>match kf d with
  |some k=>if k<kb then Vi kf d k ds else Vi kf b kb ds
  |none=>a7
noncomputable def Nf(kf:D->Option Int):List D->Option D
 |[]=>a7
 |d::ds=>match kf d with
  |some k=>Vi kf d k ds
  |none=>a7
noncomputable def Rr:List D->Option (List (List Int))
 |[]=>a3 []
 |d::ds=>match tupI d,Rr ds with
  |some k,a3 ks=>a3 (k::ks)
  |_,_=>a7
noncomputable def prI:D->Option (Int×List Int)
 |.tup [.int a,d]=>(tupI d).map λk=>(a,k)
 |_=>a7
noncomputable def j3q:List D->Option (List (Int×List Int))
 |[]=>a3 []
 |d::ds=>match prI d,j3q ds with
  |some k,a3 ks=>a3 (k::ks)
  |_,_=>a7
noncomputable def Rc.lv:Rc->Option W
 |.lval d=>a3 (.v (.e d))
 |_=>a7
noncomputable def jl3(w:Option W):Option W:=match w with
 |some (.v x)=>match x.d with
  |.str y=>if y.length<=1000 then a3 (.v (.e (.str (PySem.Txt.upper y))))else a7
  |_=>a7
 |_=>a7
noncomputable def Fv(s:Option Sv):Option W:=match s with
 |some (.val d)=>a3 (.v (.e d))
 |some (.own l)=>a3 (.v (.w l))
 |_=>a7
noncomputable def blW(i:Option Bool):Option W:=i.map λk=>.v (.e (.bl k))
noncomputable def rkW(r:Option Rk):Option W:=r.map .v
noncomputable def Z4(op:Bop)(a b:Option W):Option W:=match a,b with
 |some (.v x),a3 (.v y)=>rkW (Uj op x y)
 |_,_=>a7
noncomputable def j0g(a:Option W):Option W:=match a with
 |some (.v x)=>match x.d with
  |.int i=>a3 (.v (.e (.int (-i))))
  |_=>a7
 |_=>a7
noncomputable def Cr(op:Cop)(a b:Option W):Option W:=match a,b with
 |some (.v x),a3 (.v y)=>blW (Zt op x.d y.d)
 |_,_=>a7
noncomputable def consW(a b:Option W):Option W:=match a,b with
 |some (.v x),a3 (.a xs)=>a3 (.a (x::xs))
 |_,_=>a7
noncomputable def Ue(a:Option W):Option W:=match a with
 |some (.a rs)=>match zp rs with
  |some ds=>if jq ds.length=a6 then a3 (.v (.e (.tup ds)))else a7
  |none=>a7
 |_=>a7
noncomputable def Zc(a:Option W):Option W:=match a with
 |some (.a rs)=>match zp rs with
  |some ds=>if jq ds.length=a6 then a3 (.v (.o ds))else a7
  |none=>a7
 |_=>a7
noncomputable def ixW(a b:Option W):Option W:=match a,b with
 |some (.v x),a3 (.v y)=>match x.sq,y.d with
  |some (_,l),.int i=>(atI l i).map λd=>.v (.e d)
  |none,.int i=>match x.d with
   |.str z=>if jq z.length=a6 then(atI z.cps.toList i).map λc=>.v (.e (.str ⟨#[c]⟩))else a7
   |_=>a7
  |_,_=>a7
 |_,_=>a7
noncomputable def Mi(sep:aj)(a:Option W):Option W:=match a with
 |some (.v x)=>match x.d with
  |.lst l=>match strsOf l with
   |some ts=>if fq sep ts=a6 then a3 (.v (.e (.str (eQ sep ts))))else a7
   |none=>a7
  |_=>a7
 |_=>a7
noncomputable def M8(Γ:aj->List D->Rc)(f:aj)(a:Option W):Option W:=match a with
 |some (.v x)=>match x.d with
  |.lst l=>(Nf (λd=>j43 (Γ f [d])) l).map λd=>.v (.t d)
  |_=>a7
 |_=>a7
noncomputable def jjp(a:Option W):Option W:=match a with
 |some (.v y)=>match y.d with
  |.int n=>if 0<=n/\n<=1000000 then a3 (.v (.o ((ax n.toNat).map λ(i:Nat)=>D.int (i:Int))))else a7
  |_=>a7
 |_=>a7
noncomputable def Mg(a:Option W):Option W:=match a with
 |some (.v x)=>match x.d with
  |.lst l=>match strsOf l with
   |some ts=>if ts.length<4000 then a3 (.v (.e (.int (dd ts).length)))else a7
   |none=>a7
  |_=>a7
 |_=>a7
noncomputable def Mj(a:Option W):Option W:=match a with
 |some (.v x)=>match x.st with
  |some (.lst l)=>a3 (.i (Qg l))
  |some (.tup l)=>a3 (.i (Qg l))
  |_=>a7
 |_=>a7
noncomputable def Qu(Γ:aj->List D->Rc)(f:aj)(a:Option W):Option W:=match a with
 |some (.a rs)=>match zp rs with
  |some ds=>rkW (Γ f ds).rk
  |none=>match Γ f (rs.map Rk.d) with
   |.val d=>a3 (.v (.t d))
   |_=>a7
 |_=>a7
noncomputable def zx(f:Bf)(a:Option W):Option W:=match a with
 |some (.a rs)=>rkW (Z3 f rs)
 |_=>a7
noncomputable def U6(m:Mf)(a b:Option W):Option W:=match a,b with
 |some (.v x),a3 (.a rs)=>rkW (Ip m x rs)
 |_,_=>a7
noncomputable def Dz(a:Option W)(ts:List String):Option W:=match a with
 |some (.v x)=>blW (qe x.d ts)
 |_=>a7
noncomputable def Oe(a:Option W):Option W:=match a with
 |some (.v (.e (.lst l)))=>a3 (.i l)
 |some (.v (.e (.tup l)))=>a3 (.i l)
 |some (.v (.o l))=>a3 (.i l)
 |some (.v (.e (.str y)))=>if ascii y=a6 then a3 (.i (chs y))else a7
 |_=>a7
noncomputable def Wu(a:Option W):Option W:=match a with
 |some (.a [x])=>match x.d with
  |.int n=>if -(2^62)<=n/\n<2^62 then a3 (.i (upto 0 n.toNat))else a7
  |_=>a7
 |some (.a [x,y])=>match x.d,y.d with
  |.int m,.int n=>if -(2^62)<=m/\m<2^62/\-(2^62)<=n/\n<2^62 then a3 (.i (upto m (n-m).toNat))else a7
  |_,_=>a7
 |_=>a7
noncomputable def jly(a b:Option W):Option W:=match a,b with
 |some (.v x),a3 (.v y)=>match x.d,y.d with
  |.tup l,.dct ks _=>(intsOf l).map λk=>.v (.e (.bl (ks.contains k)))
  |_,_=>a7
 |_,_=>a7
noncomputable def jgp(a:Option W):Option W:=match a with
 |some (.v (.e (.dct ks ds)))=>a3 (.i (jgq ks ds))
 |_=>a7
noncomputable def jkd(a b:Option W):Option W:=match a,b with
 |some (.v x),a3 (.v y)=>match x.st.bind D.sqv,y.st.bind D.sqv with
  |some (_,l),a3 (_,m)=>match strsOf l,intsOf m with
   |some ks,a3 ns=>if ks.Nodup/\ks.length=ns.length/\jq ks.length=a6 then a3 (.v (.e (.sct (ks.zip ns))))else a7
   |_,_=>a7
  |_,_=>a7
 |_,_=>a7
noncomputable def j1b(a b c:Option W):Option W:=match a,b,c with
 |some (.v x),a3 (.v y),a3 (.v z)=>match x.d,y.d,z.d with
  |.int i,.int j,.int k=>a3 (.v (.e (.bl (decide (i<=j)&&decide (j<=k)))))
  |_,_,_=>a7
 |_,_,_=>a7
noncomputable def Ma(a:Option W):Option W:=match a with
 |some (.v x)=>match x.d with
  |.lst l=>match intsOf l with
   |some ns=>a3 (.v (.e (.int (jg ns))))
   |none=>a7
  |_=>a7
 |_=>a7
noncomputable def jm1(a b c:Option W):Option W:=match a,b,c with
 |some (.v x),a3 (.v y),a3 (.v z)=>match x.d,y.d,z.d with
  |.int i,.int j,.int k=>a3 (.v (.e (.bl (decide (i<j)&&decide (j<k)))))
  |_,_,_=>a7
 |_,_,_=>a7
noncomputable def Ux(Γ:aj->List D->Rc)(s:Option Sv)(a:Option W):Option W:=match s,a with
 |some (.val (.fn x cs)),a3 (.a rs)=>match zp rs with
  |some ds=>if Ja ds=a6 then(Γ (jx x) (cs++ds)).lv else a7
  |none=>a7
 |_,_=>a7
noncomputable def Ml(a b:Option W):Option W:=match a,b with
 |some (.v (.e (.dct ks ds))),a3 (.v y)=>match tupI y.d with
  |some k=>(J6 ks ds k).map λd=>.v (.e d)
  |none=>a7
 |_,_=>a7
noncomputable def Rg(a:Option W):Option W:=match a with
 |some (.v (.e (.dct _ ds)))=>a3 (.v (.e (.tup ds)))
 |_=>a7
noncomputable def M7(a:Option W):Option W:=match a with
 |some (.v x)=>match x.d with
  |.lst l=>match Rr l with
   |some ks=>(ks[aL (Jg ks) (ks.length-1)]?).map λk=>.v (.t (.tup (k.map D.int)))
   |none=>match j3q l with
    |some ps=>(ps[aL (Du ps) (ps.length-1)]?).map λk=>.v (.t (pairD k))
    |none=>a7
  |_=>a7
 |_=>a7
noncomputable def jlx(a b:Option W):Option W:=match a,b with
 |some (.v x),a3 (.v y)=>match x.d,y.d with
  |.sct kvs,.str k=>(jlw kvs k).map λn=>.v (.e (.int n))
  |_,_=>a7
 |_,_=>a7
noncomputable def ev(Γ:aj->List D->Rc)(G:aj->Option D):Ex->En->Option W
 |.lit d,_=>a3 (.v (.e d))
 |.var i,ρ=>Fv ρ[i]?
 |.glob x,_=>(G x).map λd=>.v (.e d)
 |.bin op a b,ρ=>Z4 op (ev Γ G a ρ) (ev Γ G b ρ)
 |.neg a,ρ=>j0g (ev Γ G a ρ)
 |.cmp op a b,ρ=>Cr op (ev Γ G a ρ) (ev Γ G b ρ)
 |.isN a,ρ=>match ev Γ G a ρ with
  |some (.v x)=>a3 (.v (.e (.bl x.d.isNon)))
  |_=>a7
 |.and a b,ρ=>match truth (ev Γ G a ρ) with
  |some a4=>a3 (.v (.e (.bl a4)))
  |some a6=>(truth (ev Γ G b ρ)).map λk=>.v (.e (.bl k))
  |none=>a7
 |.or a b,ρ=>match truth (ev Γ G a ρ) with
  |some a6=>a3 (.v (.e (.bl a6)))
  |some a4=>(truth (ev Γ G b ρ)).map λk=>.v (.e (.bl k))
  |none=>a7
 |.not a,ρ=>(truth (ev Γ G a ρ)).map λk=>.v (.e (.bl (!k)))
 |.ite c a b,ρ=>match truth (ev Γ G c ρ) with
  |some a6=>match ev Γ G a ρ with
   |some (.v x)=>x.st.map λd=>.v (.e d)
   |_=>a7
  |some a4=>match ev Γ G b ρ with
   |some (.v x)=>x.st.map λd=>.v (.e d)
   |_=>a7
  |none=>a7
 |.nil,_=>a3 (.a [])
 |.cons a b,ρ=>consW (ev Γ G a ρ) (ev Γ G b ρ)
 |.tup es,ρ=>Ue (ev Γ G es ρ)
 |.lst es,ρ=>Zc (ev Γ G es ρ)
 |.ix a b,ρ=>ixW (ev Γ G a ρ) (ev Γ G b ρ)
 |.sl a lo hi,ρ=>match ev Γ G a ρ,Qp (ev Γ G lo ρ),Qp (ev Γ G hi ρ) with
  |some (.v x),a3 l,a3 h=>match x.sq with
   |some (a6,ds)=>a3 (.v (.o (cutD ds l h)))
   |some (a4,ds)=>if HT.sIx ds.length 0 l=0/\HT.sIx ds.length ds.length h=ds.length then a7 else a3 (.v (.e (.tup (cutD ds l h))))
   |none=>match x.d with
    |.str z=>if jq z.length=a6 then a3 (.v (.e (.str (bS z l h))))else a7
    |_=>a7
  |_,_,_=>a7
 |.call f es,ρ=>Qu Γ f (ev Γ G es ρ)
 |.blt f es,ρ=>zx f (ev Γ G es ρ)
 |.meth m a es,ρ=>U6 m (ev Γ G a ρ) (ev Γ G es ρ)
 |.isi a ts,ρ=>Dz (ev Γ G a ρ) ts
 |.comp is elt it cond,ρ=>match ev Γ G it (frz it ρ) with
  |some (.i ds)=>if Iw is (frz it ρ)=a6/\jq ds.length=a6 then
    (vz (λd=>match zb is d (frz it ρ) with
     |none=>a7
     |some ρ2=>match ev Γ G cond ρ2 with
      |some (.a [])=>match ev Γ G elt ρ2 with
       |some (.v x)=>x.st.map a3
       |_=>a7
      |some (.a [y])=>match y.d with
       |.bl a6=>match ev Γ G elt ρ2 with
        |some (.v x)=>x.st.map a3
        |_=>a7
       |.bl a4=>a3 a7
       |_=>a7
      |_=>a7) ds).bind λl=>if (Jd it ρ && !zc l)=a6 then a7 else a3 (.v (.o l))
   else a7
  |_=>a7
 |.seq a,ρ=>Oe (ev Γ G a ρ)
 |.chn a b c,ρ=>jm1 (ev Γ G a ρ) (ev Γ G b ρ) (ev Γ G c ρ)
 |.che a b c,ρ=>j1b (ev Γ G a ρ) (ev Γ G b ρ) (ev Γ G c ρ)
 |.maxD a,ρ=>Ma (ev Γ G a ρ)
 |.range es,ρ=>Wu (ev Γ G es ρ)
 |.join sep a,ρ=>Mi sep (ev Γ G a ρ)
 |.enum a,ρ=>Mj (ev Γ G a ρ)
 |.dzip a b,ρ=>jkd (ev Γ G a ρ) (ev Γ G b ρ)
 |.callD f es,ρ=>match ev Γ G es ρ with
  |some (.a rs)=>match zp rs with
   |some ds=>match Γ f (ds++[.non]) with
    |.val d=>a3 (.v (.e d))
    |_=>a7
   |none=>a7
  |_=>a7
 |.callK f es a,ρ=>match ev Γ G es ρ,ev Γ G a ρ with
  |some (.a rs),a3 (.v x)=>match zp rs,x.st with
   |some ds,a3 d'=>match Γ f (ds++[d']) with
    |.val d=>a3 (.v (.e d))
    |_=>a7
   |_,_=>a7
  |_,_=>a7
 |.dix a b,ρ=>jlx (ev Γ G a ρ) (ev Γ G b ρ)
 |.dnil,_=>a3 (.v (.e (.sct [])))
 |.rpr a,ρ=>match ev Γ G a ρ with
  |some (.v x)=>match x.d with
   |.str y=>if (reprText y).length<=2000 then a3 (.v (.e (.str (reprText y))))else a7
   |_=>a7
  |_=>a7
 |.upr a,ρ=>jl3 (ev Γ G a ρ)
 |.minK f a,ρ=>M8 Γ f (ev Γ G a ρ)
 |.lrng a,ρ=>jjp (ev Γ G a ρ)
 |.lset a,ρ=>Mg (ev Γ G a ρ)
 |.din a b,ρ=>jly (ev Γ G a ρ) (ev Γ G b ρ)
 |.items a,ρ=>jgp (ev Γ G a ρ)
 |.callV i es,ρ=>Ux Γ ρ[i]? (ev Γ G es ρ)
 |.dget a b,ρ=>Ml (ev Γ G a ρ) (ev Γ G b ρ)
 |.dvals a,ρ=>Rg (ev Γ G a ρ)
 |.minT a,ρ=>M7 (ev Γ G a ρ)
section
variable{Γ:aj->List D->Rc}{G:aj->Option D}{ρ:En}
theorem Eb{d}:ev Γ G (.lit d) ρ=(a3 (.v (.e d))):=(rfl)
theorem jkn{i}:ev Γ G (.var i) ρ=(Fv ρ[i]?):=(rfl)
theorem jid{x}:ev Γ G (.glob x) ρ=((G x).map λd=>.v (.e d)):=(rfl)
theorem jku{op a b}:ev Γ G (.bin op a b) ρ=(Z4 op (ev Γ G a ρ) (ev Γ G b ρ)):=(rfl)
theorem jkq{a}:ev Γ G (.neg a) ρ=(j0g (ev Γ G a ρ)):=(rfl)
theorem jay{op a b}:ev Γ G (.cmp op a b) ρ=(Cr op (ev Γ G a ρ) (ev Γ G b ρ)):=(rfl)
theorem Ec{a}:ev Γ G (.isN a) ρ=(match ev Γ G a ρ with
  |some (.v x)=>a3 (.v (.e (.bl x.d.isNon)))
  |_=>a7):=(rfl)
theorem jaz{a b}:ev Γ G (.and a b) ρ=(match truth (ev Γ G a ρ) with
  |some a4=>a3 (.v (.e (.bl a4)))
  |some a6=>(truth (ev Γ G b ρ)).map λk=>.v (.e (.bl k))
  |none=>a7):=(rfl)
theorem jm4{a b}:ev Γ G (.or a b) ρ=(match truth (ev Γ G a ρ) with
  |some a6=>a3 (.v (.e (.bl a6)))
  |some a4=>(truth (ev Γ G b ρ)).map λk=>.v (.e (.bl k))
  |none=>a7):=(rfl)
theorem j4k{a}:ev Γ G (.not a) ρ=((truth (ev Γ G a ρ)).map λk=>.v (.e (.bl (!k)))):=(rfl)
theorem jks{c a b}:ev Γ G (.ite c a b) ρ=(match truth (ev Γ G c ρ) with
  |some a6=>match ev Γ G a ρ with
   |some (.v x)=>x.st.map λd=>.v (.e d)
   |_=>a7
  |some a4=>match ev Γ G b ρ with
   |some (.v x)=>x.st.map λd=>.v (.e d)
   |_=>a7
  |none=>a7):=(rfl)
theorem Mu:ev Γ G (.nil) ρ=(a3 (.a [])):=(rfl)
theorem Ft{a b}:ev Γ G (.cons a b) ρ=(consW (ev Γ G a ρ) (ev Γ G b ρ)):=(rfl)
theorem jko{es}:ev Γ G (.tup es) ρ=(Ue (ev Γ G es ρ)):=(rfl)
theorem jkr{es}:ev Γ G (.lst es) ρ=(Zc (ev Γ G es ρ)):=(rfl)
theorem jm5{a b}:ev Γ G (.ix a b) ρ=(ixW (ev Γ G a ρ) (ev Γ G b ρ)):=(rfl)
theorem jm3{a lo hi}:ev Γ G (.sl a lo hi) ρ=(match ev Γ G a ρ,Qp (ev Γ G lo ρ),Qp (ev Γ G hi ρ) with
  |some (.v x),a3 l,a3 h=>match x.sq with
   |some (a6,ds)=>a3 (.v (.o (cutD ds l h)))
   |some (a4,ds)=>if HT.sIx ds.length 0 l=0/\HT.sIx ds.length ds.length h=ds.length then a7 else a3 (.v (.e (.tup (cutD ds l h))))
   |none=>match x.d with
    |.str z=>if jq z.length=a6 then a3 (.v (.e (.str (bS z l h))))else a7
    |_=>a7
  |_,_,_=>a7):=(rfl)
theorem jih{f es}:ev Γ G (.call f es) ρ=(Qu Γ f (ev Γ G es ρ)):=(rfl)
theorem Y7{f es}:ev Γ G (.blt f es) ρ=(zx f (ev Γ G es ρ)):=(rfl)
theorem ji9{m a es}:ev Γ G (.meth m a es) ρ=(U6 m (ev Γ G a ρ) (ev Γ G es ρ)):=(rfl)
theorem jax{a ts}:ev Γ G (.isi a ts) ρ=(Dz (ev Γ G a ρ) ts):=(rfl)
theorem jig{is elt it cond}:ev Γ G (.comp is elt it cond) ρ=(match ev Γ G it (frz it ρ) with
  |some (.i ds)=>if Iw is (frz it ρ)=a6/\jq ds.length=a6 then
    (vz (λd=>match zb is d (frz it ρ) with
     |none=>a7
     |some ρ2=>match ev Γ G cond ρ2 with
      |some (.a [])=>match ev Γ G elt ρ2 with
       |some (.v x)=>x.st.map a3
       |_=>a7
      |some (.a [y])=>match y.d with
       |.bl a6=>match ev Γ G elt ρ2 with
        |some (.v x)=>x.st.map a3
        |_=>a7
       |.bl a4=>a3 a7
       |_=>a7
      |_=>a7) ds).bind λl=>if (Jd it ρ && !zc l)=a6 then a7 else a3 (.v (.o l))
   else a7
  |_=>a7):=(rfl)
theorem jkp{a}:ev Γ G (.seq a) ρ=(Oe (ev Γ G a ρ)):=(rfl)
theorem jkt{a b c}:ev Γ G (.che a b c) ρ=(j1b (ev Γ G a ρ) (ev Γ G b ρ) (ev Γ G c ρ)):=(rfl)
theorem jia{a}:ev Γ G (.maxD a) ρ=(Ma (ev Γ G a ρ)):=(rfl)
theorem jea{es}:ev Γ G (.range es) ρ=(Wu (ev Γ G es ρ)):=(rfl)
theorem jic{sep a}:ev Γ G (.join sep a) ρ=(Mi sep (ev Γ G a ρ)):=(rfl)
theorem jie{a}:ev Γ G (.enum a) ρ=(Mj (ev Γ G a ρ)):=(rfl)
theorem jed{f es}:ev Γ G (.callD f es) ρ=(match ev Γ G es ρ with
  |some (.a rs)=>match zp rs with
   |some ds=>match Γ f (ds++[.non]) with
    |.val d=>a3 (.v (.e d))
    |_=>a7
   |none=>a7
  |_=>a7):=(rfl)
theorem ji8{f a}:ev Γ G (.minK f a) ρ=(M8 Γ f (ev Γ G a ρ)):=(rfl)
theorem jib{a}:ev Γ G (.lset a) ρ=(Mg (ev Γ G a ρ)):=(rfl)
theorem jec{i es}:ev Γ G (.callV i es) ρ=(Ux Γ ρ[i]? (ev Γ G es ρ)):=(rfl)
theorem jif{a b}:ev Γ G (.dget a b) ρ=(Ml (ev Γ G a ρ) (ev Γ G b ρ)):=(rfl)
theorem jeb{a}:ev Γ G (.dvals a) ρ=(Rg (ev Γ G a ρ)):=(rfl)
theorem ji7{a}:ev Γ G (.minT a) ρ=(M7 (ev Γ G a ρ)):=(rfl)
end
noncomputable def er(Γ:aj->List D->Rc)(G:aj->Option D):Ex->En->Option aj
 |.call f es,ρ=>match er Γ G es ρ with
  |some x=>if (G (qm f)).isSome=a6 then a3 x else a7
  |none=>match ev Γ G es ρ with
   |some (.a rs)=>match Γ f (rs.map Rk.d) with
    |.err x=>if (G (bang x)).isSome=a6 then a3 x else a7
    |_=>a7
   |_=>a7
 |.cons a b,ρ=>match er Γ G a ρ with
  |some x=>a3 x
  |none=>match ev Γ G a ρ with
   |some (.v _)=>er Γ G b ρ
   |_=>a7
 |.ix a _,ρ=>er Γ G a ρ
 |.dzip a b,ρ=>match er Γ G a ρ with
  |some x=>a3 x
  |none=>match ev Γ G a ρ with
   |some (.v _)=>er Γ G b ρ
   |_=>a7
 |_,_=>a7
end L2
end
section
namespace L2
open PySem PySem.Spec PyProof.Rows
def DM(X:Cx)(ρ:Rho)(e:ao)(s:Bool)(ds:List D):Prop:=∀σ H Q,Rep X.K ρ σ H->(∀a xs H',j0 H H'->SqB X.K s H' a xs->j5 X.K (del H' (owns ρ)) ds xs->Q (.ref a) H')->Qf X e σ H Q
section
variable{X:Cx}{ρ:Rho}{e a b c:ao}{es:List ao}{d:D}{ds ds':List D}{i j:Int}{pos p p2:aO}{k:Nat}{x:aj}{s:Bool}
theorem jj4{K:k8m}{H:Hp}{a:aa}{xs:List V}(h:SqL K H a xs):SqB K a6 H a xs:=by unfold SqB;rw[if_pos rfl];exact h
theorem Up{K:k8m}{H:Hp}{a:aa}{xs:List V}(h:SqB K a6 H a xs):SqL K H a xs:=by unfold SqB at h;rw[if_pos rfl]at h;exact h
theorem Qk{K:k8m}{H:Hp}{a:aa}{xs:List V}(h:SqB K a4 H a xs):SqT K H a xs:=by unfold SqB at h;rw[if_neg xm]at h;exact h
theorem DE.toM(h:DE X ρ e (D.seq s ds)):DM X ρ e s ds:=λσ H Q R q=>h σ H Q R λv H1 g1 e1=>by obtain⟨t,xs,ev,sq,en⟩:=V9 e1;subst ev;exact q t xs H1 g1 (q9.seqB sq) en
theorem DL.toM(h:DL X ρ e ds):DM X ρ e a6 ds:=λσ H Q R q=>h σ H Q R λt xs H1 g1 m en=>q t xs H1 g1 (jj4 (.inl (.inl m))) en
theorem DO.toM(h:DO X ρ e ds):DM X ρ e a6 ds:=h.toL.toM
def Has(X:Cx)(ρ:Rho)(e:ao):Rk->Prop
 |.e d=>DE X ρ e d
 |.o l=>DO X ρ e l
 |.w l=>DL X ρ e l
 |.t d=>DT X ρ e d
theorem Has.toT:∀{r:Rk},Has X ρ e r->DT X ρ e r.d
 |.e _,h=>DE.toT h
 |.o _,h=>DL.toT (DO.toL h)
 |.w _,h=>DL.toT h
 |.t _,h=>h
theorem Has.toE:∀{r:Rk}{d:D},Has X ρ e r->r.st=a3 d->DE X ρ e d
 |.e _,_,h,q=>by cases q;exact h
 |.o _,_,h,q=>by cases q;exact DO.toE h
 |.w _,_,h,q=>by cases q
 |.t d',d,h,q=>by
  have q:(if Qq d'=a6 then a3 d' else a7)=a3 d:=q;by_cases z:Qq d'=a6
  .rw[if_pos z]at q;cases q;exact DT.toE h z
  .rw[if_neg z]at q;cases q
theorem Has.toM:∀{r:Rk}{s:Bool}{l:List D},Has X ρ e r->r.sq=a3 (s,l)->DM X ρ e s l
 |.e (.lst l),_,_,h,q=>by cases q;exact DE.toM (s:=a6) h
 |.e (.tup l),_,_,h,q=>by cases q;exact DE.toM (s:=a4) h
 |.e .non,_,_,_,q=>by cases q
 |.e (.bl _),_,_,_,q=>by cases q
 |.e (.int _),_,_,_,q=>by cases q
 |.e (.str _),_,_,_,q=>by cases q
 |.o l,_,_,h,q=>by cases q;exact DO.toM h
 |.w l,_,_,h,q=>by cases q;exact DL.toM h
 |.t _,_,_,_,q=>by cases q
theorem jcg:OpR X (bj .Add) (λx y H Q=>∃l b xs zs,x=.ref l/\y=.ref b/\SqL X.K H l xs/\SqL X.K H b zs/\xs.length+zs.length<=ar/\∀p,H p=a7->Q (.ref p) (upd H p (.lst (xs++zs)))):=by
 intro pins s σ H x y v u Q I rx ry h;obtain⟨l,b,xs,zs,e1,e2,hH,hB,hz,q⟩:=h;subst e1 e2;cases rx;cases ry;obtain⟨us,ru,⟨⟨c1,d1,f1,g1⟩,n1,h1,k1,w1,m1⟩,_⟩:=I.list hH;obtain⟨vs,rv,⟨⟨c2,d2,f2,g2⟩,n2,h2,k2,w2,m2⟩,_⟩:=I.list hB;have k1:c1=.type "list":=k1;have m1:f1=.seq us.toArray n1:=m1;have k2:c2=.type "list":=k2;have m2:f2=.seq vs.toArray n2:=m2;subst k1 m1 k2 m2;have l1:=ru.length;have l2:=rv.length;have ea:us.toArray++vs.toArray=(us++vs).toArray:=by simp
 refine g9 ⟨_,h1,rfl⟩ ⟨_,h2,rfl⟩ noFill_list_add seq_list_add PySem.F.slot_list_add PySem.F.entry_list_add (PySem.F.args_list_add_2 _ _)
  (list_addW l b us.toArray vs.toArray n1 n2 d1 d2 g1 g2 (by rw[X7,X7,<-l1,<-l2];exact hz)) ⟨h1,h2,?_⟩
 rw[ea];exact⟨.ref _,_,I.lnew (t':=s.toks) (ru.append rv) (by rw[Xf];exact hz),rfl,q _ I.fresh⟩
theorem DO.catM(ha:DM X ρ a a6 ds)(hb:DM X ρ b a6 ds')(hl:ds.length+ds'.length<=ar):DO X ρ (.BinOp a .Add b pos) (ds++ds'):=λσ H Q R q =>
 (U5 jcg peS peS).to (ha σ H _ R λl xs H1 g1 s1 e1=>hb σ H1 _ (R.grow g1) λl' ys H2 g2 s2 e2 =>
  ⟨l,l',xs,ys,rfl,rfl,g2.seq (Up s1),Up s2,by rw[e1.length,e2.length];exact hl,λp hp=>q p _ _ ((g1.trans g2).trans (j8 hp)) ((g1.trans g2).free hp) jc (Wc hp ((e1.mono (je g2)).append e2))⟩)
theorem DE.catTM(ha:DM X ρ a a4 ds)(hb:DM X ρ b a4 ds')(hl:ds.length+ds'.length<=ar):DE X ρ (.BinOp a .Add b pos) (.tup (ds++ds')):=λσ H Q R q =>
 (U5 j8b peS peS).to (ha σ H _ R λt xs H1 g1 sq l=>hb σ H1 _ (R.grow g1) λt' ys H2 g2 sq' l'=>by
  have l2:=l.mono (je g2)
  have enT:∀{t:aa}{xs:List V}{ds:List D},SqT X.K H2 t xs->j5 X.K (del H2 (owns ρ)) ds xs->Enc X.K (del H2 (owns ρ)) (.tup ds) (.ref t):=λ{t xs ds} sq l=>by
   refine⟨t,xs,rfl,?_,l⟩
   have ow:=(R.grow (g1.trans g2)).owned
   have out:∀{o:HO},H2 t=a3 o->(∀zs,o≠.lst zs)->del H2 (owns ρ) t=a3 o:=λ{o} h z=>by
    rw[j7];exact h
    intro y;obtain⟨zs,e'⟩:=ow t y;rw[h]at e';cases e';exact z zs rfl
   rcases sq with (h|⟨o,h⟩)|h
   .exact .inl (.inl (out h λ_ z=>by cases z))
   .exact .inl (.inr ⟨o,out h λ_ z=>by cases z⟩)
   .exact .inr h
  refine⟨t,t',xs,ys,rfl,rfl,g2.seqT (Qk sq),Qk sq',by rw[l.length,l'.length];exact hl,λh=>?_,λh h'=>?_,λh h' p hp=>?_⟩
  .subst h
   cases ds with
   |nil=>exact q _ H2 (g1.trans g2) (enT (Qk sq') l')
   |cons _ _=>have:=l.length;cases this
  .subst h'
   cases ds' with
   |nil=>exact q _ H2 (g1.trans g2) (by rw[Xu];exact enT (g2.seqT (Qk sq)) l2)
   |cons _ _=>have:=l'.length;cases this
  .have np:p∉owns ρ:=(R.grow (g1.trans g2)).fresh hp
   exact q _ _ ((g1.trans g2).trans (j8 hp)) ⟨p,xs++ys,rfl,.inl (.inl (by rw[j7 np];exact jc)),(l2.append l').mono (je (j8 hp))⟩)
theorem DE.ixM(ha:DM X ρ a s ds)(hb:DT X ρ b (.int i))(h:L2.atI ds i=a3 d)(hs:Yg b):DE X ρ (.Subscript a b pos) d:=by
 cases s with
 |true=>exact λσ H Q R q=>(N8 jcy peS peS hs).to (ha σ H _ R λl xs H1 g1 sq en=>hb σ H1 _ (R.grow g1) λu H2 g2 e2=>by
   obtain⟨y,hy,ey⟩:=en.atI h
   exact⟨l,xs,i,y,rfl,e2,g2.seq (Up sq),hy,q y H2 (g1.trans g2) (ey.mono (je g2))⟩)
 |false=>exact λσ H Q R q=>(N8 j6c peS peS hs).to (ha σ H _ R λl xs H1 g1 sq en=>hb σ H1 _ (R.grow g1) λu H2 g2 e2=>by
   obtain⟨y,hy,ey⟩:=en.atI h
   exact⟨l,xs,i,y,rfl,e2,g2.seqT (Qk sq),hy,q y H2 (g1.trans g2) (ey.mono (je g2))⟩)
variable{lo hi:Option ao}{l u:Option Int}
theorem DO.sliceM(ha:DM X ρ a a6 ds)(hl:DP X ρ lo l)(hu:DP X ρ hi u):DO X ρ (.Subscript a (.Slice lo hi a7 p2) pos) (cutD ds l u):=λσ H Q R q =>
 (Oo jbe peS poS poS).to (ha σ H _ R λt xs H1 g1 sq en=>hl σ H1 _ (R.grow g1) λH2 g2=>hu σ H2 _ (R.grow (g1.trans g2)) λH3 g3=>⟨t,xs,rfl,(g2.trans g3).seq (Up sq),λp hp =>
  q p _ _ ((g1.trans (g2.trans g3)).trans (j8 hp)) ((g1.trans (g2.trans g3)).free hp) jc (Wc hp ((en.mono (je (g2.trans g3))).cut l u))⟩)
theorem DE.sliceM(ha:DM X ρ a a4 ds)(hl:DP X ρ lo l)(hu:DP X ρ hi u)(hw:¬(HT.sIx ds.length 0 l=0/\HT.sIx ds.length ds.length u=ds.length)):DE X ρ (.Subscript a (.Slice lo hi a7 p2) pos) (.tup (cutD ds l u)):=λσ H Q R q =>
 (Oo jes peS poS poS).to (ha σ H _ R λt xs H1 g1 sq en=>hl σ H1 _ (R.grow g1) λH2 g2=>hu σ H2 _ (R.grow (g1.trans g2)) λH3 g3=>⟨t,xs,rfl,(g2.trans g3).seqT (Qk sq),by rw[en.length];exact hw,λp hp =>
  q _ _ ((g1.trans (g2.trans g3)).trans (j8 hp)) ⟨p,_,rfl,.inl (.inl (by rw[j7 ((R.grow (g1.trans (g2.trans g3))).fresh hp)];exact jc)),((en.mono (je (g2.trans g3))).cut l u).mono (je (j8 hp))⟩⟩)
theorem DE.tupM (ha:DM X ρ a s ds) (hm:X.mg "tuple" = a7) (hg:Gl X "tuple") (hs:a9 [a] X.env=[(a4,aA a X.env)]):DE X ρ (.Call (.Name "tuple" p) [a] [] pos) (.tup ds):=λσ H Q R q =>
 (Wx Ii hg hm boot_tuple (jd peS jz hs) (by decide) (by decide) hs).to (ha σ H _ R λl xs H1 g1 sq en=>by
  cases s with
  |true =>
   refine⟨l,xs,rfl,.inl ⟨Up sq,λt ht=>?_⟩⟩
   have nt:t∉owns ρ:=(R.grow g1).fresh ht
   exact q _ _ (g1.trans (j8 ht)) ⟨t,xs,rfl,.inl (.inl (by rw[j7 nt];exact jc)),en.mono (je (j8 ht))⟩
  |false =>
   refine⟨l,xs,rfl,.inr ⟨Qk sq,?_⟩⟩
   refine q _ _ g1 ⟨l,xs,rfl,?_,en⟩
   have ow:=(R.grow g1).owned
   have out:∀{o:HO},H1 l=a3 o->(∀zs,o≠.lst zs)->del H1 (owns ρ) l=a3 o:=λ{o} h z=>by
    rw[j7];exact h
    intro y;obtain⟨zs,e'⟩:=ow l y;rw[h]at e';cases e';exact z zs rfl
   rcases Qk sq with (h|⟨o,h⟩)|h
   .exact .inl (.inl (out h λ_ z=>by cases z))
   .exact .inl (.inr ⟨o,out h λ_ z=>by cases z⟩)
   .exact .inr h)
theorem DO.listM (ha:DM X ρ a s ds) (hm:X.mg "list" = a7) (hg:Gl X "list") (hs:a9 [a] X.env=[(a4,aA a X.env)]):DO X ρ (.Call (.Name "list" p) [a] [] pos) ds:=λσ H Q R q =>
 (Wx j1d hg hm boot_list (jd peS jz hs) (by decide) (by decide) hs).to (ha σ H _ R λl xs H1 g1 sq en =>
  ⟨l,xs,rfl,(by cases s with|true=>exact .inl (Up sq)|false=>exact .inr (Qk sq)),λp hp=>q p _ _ (g1.trans (j8 hp)) (g1.free hp) jc (Wc hp en)⟩)
end
theorem Do:fillsNumberSlot (.type "tuple") "mul" = pure a4 :=
 PySem.fillsNumberSlot_seq (id:="tuple.__mul__") (r:=a3 (.builtin "tuple.__rmul__")) PySem.F.slot_tuple_mul.lookup (by decide +kernel) PySem.F.slot_tuple_rmul.lookup (by decide +kernel)
theorem jc2:seqRepeat? (.type "tuple")=pure (a3 (.builtin "tuple.__mul__")):=by
 unfold seqRepeat?;rw[iS (T:="tuple") (name:="__mul__") (id:="tuple.__mul__") PySem.F.slot_tuple_mul.lookup (by decide +kernel),
  iS (T:="tuple") (name:="__rmul__") (id:="tuple.__rmul__") PySem.F.slot_tuple_rmul.lookup (by decide +kernel)]
 rfl
section
variable(a:Int)(t:gO)(l:aa)(its:Array a8)(n:Nat)(d1:Option aa)(sl:Array (Option a8))
theorem j0q:kD (dU.«int.__rmul__» ⟨[.int a t,.ref l],[]⟩) (λ_ R s=>s.heap.get? l=a3 ⟨.type "tuple",d1,.seq its n,sl⟩/\R (.ok (.ret gY)) s) :=
 .of_wp λ_ _ _ _ s h=>by
  obtain⟨_,_,_,_,_⟩:=s;obtain⟨hl,h⟩:=h
  wp_walk
  exact⟨_,rfl,h⟩
theorem j7o:kD (dU.«tuple.__mul__» ⟨[.ref l,.int 1 t],[]⟩) (λ_ R s=>s.heap.get? l=a3 ⟨.type "tuple",d1,.seq its n,sl⟩/\R (.ok (.ret (.ref l))) s) :=
 .of_wp λ_ _ _ _ s h=>by
  obtain⟨_,_,_,_,_⟩:=s;obtain⟨hl,h⟩:=h
  wp_walk
  exact⟨_,rfl,h⟩
theorem j7n(h0:its.isEmpty=a4)(h1:1<a)(h2:a<2^63)(hz:its.size*a.toNat<=ar) :
  kD (dU.«tuple.__mul__» ⟨[.ref l,.int a t],[]⟩) (λ_ R s=>s.heap.get? l=a3 ⟨.type "tuple",d1,.seq its n,sl⟩ /\
   R (.ok (.ret (.ref s.heap.objs.size))) { s with heap:=s.heap.push { cls:=.type "tuple",data:=.seq (di (λx y=>x++y) #[] (ae a.toNat its)) } }) :=
 .of_wp λ_ _ _ _ s h=>by
  obtain⟨_,_,_,_,_⟩:=s;obtain⟨hl,h⟩:=h;have c1:(decide (a < -2^63) || decide (a>=2^63))=a4:=by rw[decide_eq_false nofun,decide_eq_false nofun];rfl
  have c2:(its.isEmpty || a==1)=a4:=by rw[h0,beq_eq_false_iff_ne.mpr nofun];rfl
  have c3:(decide (a<=0) || its.isEmpty)=a4:=by rw[h0,decide_eq_false nofun];rfl
  have ea:((its.size*a.toNat:Nat):Int)=(its.size:Int)*a:=by rw[Int.natCast_mul,fc nofun]
  have hz':(its.size:Int)*a<=(ar:Int):=by rw[<-ea];exact Int.ofNat_le.mpr hz
  have c4:¬(its.size:Int)*a>(2^63-1)/8:=by
   have:(ar:Int)<=(2^63-1)/8:=by decide
   omega
  have c5:f6 ((its.size:Int)*a)=a4:=by unfold f6;exact decide_eq_false nofun
  have c6:(di (λx y=>x++y) #[] (ae a.toNat its)).size<=ar:=by rw[AutoListH.size_joined,Array.size_empty,t8,eA];exact hz
  wp_walk
  rw[c1]
  wp_walk
  rw[c2]
  wp_walk
  rw[c3]
  wp_walk
  rw[if_neg c4]
  wp_walk
  exact⟨_,rfl,h⟩
end
theorem jce{X:Cx}:OpR X (bj .Mult) (λx y H Q=>∃a k xs,x=.ref a/\y=.int k/\SqT X.K H a xs/\xs≠[]/\1<=k/\k<2^63/\xs.length*k.toNat<=ar /\
  (k=1->Q (.ref a) H)/\(1<k->∀p,H p=a7->Q (.ref p) (upd H p (.tup (ae k.toNat xs).flatten)))):=by
 intro pins s σ H x y v u Q I rx ry h;obtain⟨a,k,xs,e1,e2,sq,hne,h1,h2,hz,q1,q2⟩:=h;subst e1 e2;cases rx;obtain⟨t,e⟩:=ry;subst e;obtain⟨us,ru,⟨⟨c1,d1,f1,g1⟩,p1,k1,n1,m1⟩,_⟩:=I.tuple sq;have k1:c1=.type "tuple":=k1;have m1:f1=.seq us.toArray n1:=m1;subst k1 m1;have lu:=ru.length;have hne':us.toArray.isEmpty=a4:=by
  cases us with
  |nil=>cases ru;exact absurd rfl hne
  |cons _ _=>simp
 refine ir (T:="tuple") (U:="int") (by decide) ⟨_,p1,rfl⟩ (λs'=>fQ s' k t) Do kv eN jc2 F.slot_int_index.lookup
  (cq eN (fQ s k t) k8 (k5 _ _) (j0q k t a us.toArray n1 d1 g1) ⟨p1,rfl,⟨_,p1,rfl⟩,?_⟩)
 by_cases hk:k=1
 .subst hk;exact cq k7 ⟨_,p1,rfl⟩ jZ (jI _ _) (j7o t a us.toArray n1 d1 g1) ⟨p1,⟨.ref a,H,I,rfl,q1 rfl⟩⟩
 .have hz':us.toArray.size*k.toNat<=ar:=by rw[X7,<-lu];exact hz
  refine cq k7 ⟨_,p1,rfl⟩ jZ (jI _ _) (j7n k t a us.toArray n1 d1 g1 hne' nofun h2 hz') ⟨p1,?_⟩;have hnew:di (λx1 x2=>x1++x2) #[] (ae k.toNat us.toArray)=(ae k.toNat us).flatten.toArray:=by have:=foldl_rep us k.toNat [];rw[cV]at this;exact this
  rw[hnew];refine⟨.ref _,_,I.laid (t':=s.toks) (λb o e=>km _ e) (xx _) ?_,rfl,q2 nofun _ I.fresh⟩;exact⟨by rw[len_rep,eA];exact hz,_,ru.rep k.toNat,IsTup.new _ _,Zx.new _ _⟩
theorem DE.repT{X:Cx}{ρ:Rho}{a b:ao}{ds:List D}{k:Int}{pos:aO}(ha:DM X ρ a a4 ds)(hb:DT X ρ b (.int k))(hne:ds≠[])(h1:1<=k)(h2:k<2^63)(hl:ds.length*k.toNat<=ar) :
  DE X ρ (.BinOp a .Mult b pos) (.tup (ae k.toNat ds).flatten):=λσ H Q R q =>
 (U5 jce peS peS).to (ha σ H _ R λt xs H1 g1 sq l=>hb σ H1 _ (R.grow g1) λu H2 g2 e2=>by
  have l2:=l.mono (je g2)
  refine⟨t,k,xs,rfl,e2,g2.seqT (Qk sq),?_,h1,h2,by rw[l.length];exact hl,λh=>?_,λh p hp=>?_⟩
  .intro z;subst z
   cases ds with
   |nil=>exact hne rfl
   |cons _ _=>have:=l.length;cases this
  .subst h
   have e:(ae (1:Int).toNat ds).flatten=ds:=by simp
   rw[e]at q
   refine q _ H2 (g1.trans g2) ⟨t,xs,rfl,?_,l2⟩
   have ow:=(R.grow (g1.trans g2)).owned
   have out:∀{o:HO},H2 t=a3 o->(∀zs,o≠.lst zs)->del H2 (owns ρ) t=a3 o:=λ{o} h z=>by
    rw[j7];exact h
    intro y;obtain⟨zs,e'⟩:=ow t y;rw[h]at e';cases e';exact z zs rfl
   rcases g2.seqT (Qk sq)with (h|⟨o,h⟩)|h
   .exact .inl (.inl (out h λ_ z=>by cases z))
   .exact .inl (.inr ⟨o,out h λ_ z=>by cases z⟩)
   .exact .inr h
  .have np:p∉owns ρ:=(R.grow (g1.trans g2)).fresh hp
   exact q _ _ ((g1.trans g2).trans (j8 hp)) ⟨p,_,rfl,.inl (.inl (by rw[j7 np];exact jc)),(l2.rep k.toNat).mono (je (j8 hp))⟩)
section
variable{X:Cx}{ρ:Rho}{a:ao}{m k:Bool}{d:D}{n:Nat}{pos p2:aO}
theorem DE.isNotN(ha:DT X ρ a d):DE X ρ (.Compare a [.IsNot] [.Constant .none n p2] pos) (.bl (!d.isNon)):=λσ H Q R q =>(Jm j2n peS j08 (za _)).to (ha σ H _ R λx H1 g1 e1=>⟨rfl,q _ H1 g1 (by rw[U9 e1];rfl)⟩)
theorem DB.isNotN(ha:DT X ρ a d):DB X ρ (.Compare a [.IsNot] [.Constant .none n p2] pos) (!d.isNon):=λσ H Q R q =>(Jl j2n peS j08 (za _)).to (ha σ H _ R λx H1 g1 e1=>⟨rfl,_,rfl,by rw[U9 e1];exact q H1 g1⟩)
end
end L2
end
section
namespace PySem
open Sem (wp)
namespace F
end F
section
variable{prog:av}{w:az}{A:aC}{E:k8n}{s:af}{I:aa}{fp wr:List aa}{G:Array fA->Array fA->Prop}{n:Nat}{P:Nat->a8->Prop}{St:Nat->af->Prop}
end
end PySem
namespace L2
open PySem PySem.Spec PyProof.Rows
section
variable{X:Cx}{ρ:Rho}{a:ao}{ds:List D}{p p1 p2 p3 pos:aO}
end
noncomputable def Sl.abs:Sl->Sv
 |.un=>.un
 |.val d=>.val d
 |.own _ l=>.own l
 |.raw _ _ x=>.exc x
noncomputable def j9(ρ:Rho):En:=ρ.map Sl.abs
theorem Bj{ρ:Rho}{i:Nat}:(j9 ρ)[i]?=(ρ[i]?).map Sl.abs:=X6 ..
theorem Yw{ρ:Rho}{i:Nat}{d:D}(h:(j9 ρ)[i]?=a3 (.val d)):ρ[i]?=a3 (.val d):=by
 rw[Bj]at h;cases e:ρ[i]? with
 |none=>rw[e]at h;cases h
 |some s=>rw[e]at h;cases s<;>cases h;rfl
theorem je9{ρ:Rho}{i:Nat}(h:(j9 ρ)[i]?=a3 .un):ρ[i]?=a3 .un:=by
 rw[Bj]at h;cases e:ρ[i]? with
 |none=>rw[e]at h;cases h
 |some s=>rw[e]at h;cases s<;>cases h;rfl
theorem Qa{ρ:Rho}{i:Nat}{l:List D}(h:(j9 ρ)[i]?=a3 (.own l)):∃a,ρ[i]?=a3 (.own a l):=by
 rw[Bj]at h;cases e:ρ[i]? with
 |none=>rw[e]at h;cases h
 |some s=>rw[e]at h;cases s<;>cases h;exact⟨_,rfl⟩
theorem jl{ρ:Rho}{i:Nat}{s:Sl}:j9 (ρ.set i s)=(j9 ρ).set i s.abs:=List.map_set ..
noncomputable def Bop.op:Bop->jO
 |.add=>.Add
 |.sub=>.Sub
 |.mul=>.Mult
 |.fdiv=>.FloorDiv
 |.mod=>.Mod
 |.pow=>.Pow
 |.shl=>.LShift
 |.shr=>.RShift
 |.band=>.BitAnd
 |.bxor=>.BitXor
noncomputable def Cop.op:Cop->gc
 |.lt=>.Lt
 |.le=>.LtE
 |.gt=>.Gt
 |.ge=>.GtE
 |.eq=>.Eq
 |.ne=>.NotEq
 |.isin=>.In
 |.notin=>.NotIn
noncomputable def Bf.name:Bf->aj
 |.len=>"len"
 |.min=>"min"
 |.max=>"max"
 |.all=>"all"
 |.tuple=>"tuple"
 |.list=>"list"
 |.sum=>"sum"
 |.int=>"int"
 |.any=>"any"
 |.sorted=>"sorted"
noncomputable def Vq:List aj:=["len","min","max","all","tuple","list","sum","int","any","sorted","isinstance","bool","str","range","zip","enumerate","reversed","ValueError","set","dict"]
noncomputable def Vp(x:aj):Bool:=x.cps.toList.head?==a3 33 || x.cps.toList.head?==a3 63
inductive Nd where
 |e (x:ao)
 |b (x:ao)
 |w (x:ao)
 |a (xs:List ao)
 |i (tg it:ao)
 |o (x:Option ao)
 |c (xs:List ao)
 |p (xs:List ao)
structure Cok(X:Cx)(G:aj->Option D):Prop where
 un':X.A.units+100<aX
 un:X.calm=a6->X.A.units+150<aX
 dp:X.calm=a6->X.A.depth+4<fg
 bt:∀x∈Vq,X.mg x=a7
 gl:∀x d,Vp x=a4->G x=a3 d->∃u v,X.mg x=a3 u/\RelV v u/\∀H,Enc X.K H d v
 nd:X.N.Nodup
 po:gw (ay X.prog X.w) X.A X.env X.xe
 ea:Iz X.K=a6
 ec:∀x d,G (bang x)=a3 d->x∈Jr/\∃o,W.nsIn X.K au x=a3 (a3 o)
 el:G "?" = a3 (.bl a6)->∀c∈Jr,∃v,W.nsIn X.K au c=a3 (a3 v)
 kin:X.K.In X.base
 ns:X.base.Ns au X.mg
 kd:∀x l,G (bang x)=a3 (.lst l)->Kinds X "_law_kinds" x l
 fn:∀f d,G (qm f)=a3 d->∃fa,X.mg f=a3 (.ref fa)/\W.keepIn X.K (.ref fa)=a6
 pl:∀d,G (qm "_law_plan")=a3 d->Cal X "_law_plan" (jer X.K jae)
 lm:∀x∈Zn,X.env.qual=x ++ ".<locals>."->∃c P,X.env.code=.ref c/\W.codeHdIn X.K c P=a6/\W.tabIn X.K x=a3 (c,P)
def Gok(X:Cx)(Γ:aj->List D->Rc):Prop:=∀f ds,match Γ f ds with
 |.val d=>Cal X f (spP X.K λds' d'=>ds'=ds/\d'=d)
 |.fresh l=>Cal X f (spF X.K λds' l'=>ds'=ds/\l'=l)
 |.err x=>CalX X f (spX X.K X.mg λds' y=>ds'=ds/\y=x)
 |.lval d=>∀x,f=jx x->∃k,Room k X.A/\Ed X.prog X.w X.K X.mg X.base k x λds' d'=>ds'=ds/\d'=d
 |.no=>True
theorem Cok.comp{X:Cx}{G:aj->Option D}{scope:br}{C:aa}{s:af}{H:Hp}{fp:List aa}{pn:k8o}(h:Cok X G):Cok (cCx X scope C s H fp pn) G:=⟨h.un',h.un,h.dp,h.bt,h.gl,h.nd,bZ,h.ea,h.ec,h.el,h.kin,h.ns,h.kd,h.fn,λd e=>Cal.comp (h.pl d e),h.lm⟩
theorem Gok.comp{X:Cx}{Γ:aj->List D->Rc}{scope:br}{C:aa}{s:af}{H:Hp}{fp:List aa}{pn:k8o}(h:Gok X Γ):Gok (cCx X scope C s H fp pn) Γ:=λf ds=>by
 have q:=h f ds;cases e:Γ f ds with
 |val d=>rw[e]at q;exact Cal.comp q
 |fresh l=>rw[e]at q;exact Cal.comp q
 |err x=>rw[e]at q;exact⟨q.ex⟩
 |lval d=>rw[e]at q;exact q
 |no=>trivial
inductive HasA(X:Cx)(ρ:Rho):List ao->List Rk->Prop where
 |nil:HasA X ρ [] []
 |cons {a:ao} {es:List ao} {r:Rk} {rs:List Rk} (hs:a9 (a::es) X.env=(a4,aA a X.env)::a9 es X.env):Has X ρ a r->HasA X ρ es rs->HasA X ρ (a::es) (r::rs)
section
variable{X:Cx}{ρ:Rho}{es:List ao}{rs:List Rk}
theorem HasA.toA:∀{es:List ao}{rs:List Rk}{ds:List D},HasA X ρ es rs->zp rs=a3 ds->DA X ρ es ds
 |_,_,_,.nil,q=>by cases q;exact DA.nil
 |_,_,ds,.cons (r:=r) (rs:=rs) hs h t,q=>by
  unfold zp at q;cases e1:r.st with
  |none=>rw[e1]at q;cases q
  |some d =>
   cases e2:zp rs with
   |none=>rw[e1,e2]at q;cases q
   |some ds'=>rw[e1,e2]at q;cases q;exact DA.cons (h.toE e1) (t.toA e2) hs
theorem HasA.toT:∀{es:List ao}{rs:List Rk},HasA X ρ es rs->DTA X ρ es (rs.map Rk.d)
 |_,_,.nil=>DTA.nil
 |_,_,.cons hs h t=>DTA.cons h.toT t.toT hs
theorem HasA.one{e:ao}(h:HasA X ρ [e] rs):∃r,rs=[r]/\Has X ρ e r/\a9 [e] X.env=[(a4,aA e X.env)]:=by cases h with|cons hs h t=>cases t;exact⟨_,rfl,h,hs⟩
theorem DO.unfrz{e:ao}{i:Nat}{a:aa}{l ds:List D}(hk:ρ[i]?=a3 (.own a l))(h:DO X (ρ.set i (.val (.lst l))) e ds)(hn:zc ds=a6):DO X ρ e ds:=λσ H Q R q =>
 h σ H Q (R.freeze hk) λb xs H' g n m en=>q b xs H' g n m ((en.mono q9).hide (λc hc=>by
  rcases xn.mp hc with z|z
  .rw[z];exact .inl ⟨xs,m⟩
  .exact .inl ((R.grow g).owned c z)) hn)
end
theorem Fd{f:D->Option (Option D)}:∀{ds l:List D},vz f ds=a3 l ->
  l=(ds.filter (λd=>(f d).join.isSome)).map (λd=>(f d).join.getD .non)/\∀d∈ds,∃o,f d=a3 o
 |[],l,h=>by cases h;exact⟨rfl,λd hd=>nomatch hd⟩
 |d::ds,l,h=>by
  unfold vz at h;cases e1:f d with
  |none=>rw[e1]at h;cases h
  |some o =>
   cases e2:vz f ds with
   |none=>rw[e1,e2]at h;cases o<;>cases h
   |some xs =>
    rw[e1,e2]at h;obtain⟨q1,q2⟩:=Fd e2;have mem:∀d'∈d::ds,∃o,f d'=a3 o:=λd' hd=>by
     rcases xn.mp hd with z|z
     .subst z;exact⟨o,e1⟩
     .exact q2 d' z
    cases o with
    |none=>cases h;exact⟨by rw[dP (by rw[e1];simp)];exact q1,mem⟩
    |some x=>cases h;exact⟨by rw[cF (by rw[e1];rfl),Xa,<-q1,e1];rfl,mem⟩
section
variable{X:Cx}{ρ:Rho}{a b:ao}{d da db:D}{ds ds':List D}{pos:aO}{k:Bool}
theorem j6f {t c:String} (h:qx t c=a3 k):t ≠ "function":=λz=>by unfold qx at h;rw[if_pos z]at h;cases h
theorem j2s{K:k8m}{c:String}(h:qx d.ty c=a3 k):W.kitOne K (.type d.ty) (.type c)=a3 k:=by
 have nf:d.ty ≠ "function":=j6f h;unfold qx at h;rw[if_neg nf]at h;by_cases h1:c = "int"
 .subst h1;cases d<;>first|exact absurd rfl nf|(simp[D.ty]at h;subst h;kernel_rfl)
 rw[if_neg h1]at h;by_cases h2:c = "bool"
 .subst h2;cases d<;>first|exact absurd rfl nf|(simp[D.ty]at h;subst h;kernel_rfl)
 rw[if_neg h2]at h;by_cases h3:c = "str"
 .subst h3;cases d<;>first|exact absurd rfl nf|(simp[D.ty]at h;subst h;kernel_rfl)
 rw[if_neg h3]at h;by_cases h4:c = "list"
 .subst h4;cases d<;>first|exact absurd rfl nf|(simp[D.ty]at h;subst h;kernel_rfl)
 rw[if_neg h4]at h;by_cases h5:c = "tuple"
 .subst h5;cases d<;>first|exact absurd rfl nf|(simp[D.ty]at h;subst h;kernel_rfl)
 rw[if_neg h5]at h;cases h
theorem j2w {c:String} {cs:List String} (h:qe d (c::cs)=a3 k):d.ty ≠ "function":=by
 unfold qe at h;split at h
 .rename_i e _;exact j6f e
 .cases h
theorem j0m{K:k8m}:∀{cs:List String}{k:Bool},qe d cs=a3 k->W.kitAny K (.type d.ty) (cs.map bV)=a3 k
 |[],k,h=>by cases h;rfl
 |c::cs,k,h=>by
  unfold qe at h;cases e1:qx d.ty c with
  |none=>rw[e1]at h;cases h
  |some x =>
   cases e2:qe d cs with
   |none=>rw[e1,e2]at h;cases h
   |some y =>
    rw[e1,e2]at h;cases h;rw[Xa,W.kitAny,j2s e1];cases x with
    |true=>simp
    |false=>simp;exact j0m e2
theorem DE.neD(s:Bool)(hu:X.A.units+100<aX)(ha:DT X ρ a (D.seq s ds))(hb:DT X ρ b (D.seq s ds'))(hd:D.depL ds<=98)(nd:D.depL ds'<10000):DE X ρ (.Compare a [.NotEq] [b] pos) (.bl (!v6 ds ds')):=λσ H Q R q =>(Jm (j5p hu) peS peS (za _)).to (ha σ H _ R λv H1 g1 e1=>hb σ H1 _ (R.grow g1) λu H2 g2 e2=>⟨ds,ds',s,e1.mono g2,e2,hd,nd,q _ H2 (g1.trans g2) rfl⟩)
theorem DE.notIn(s:Bool)(hu:X.A.units+100<aX)(ha:DT X ρ a d)(hb:DT X ρ b (D.seq s ds))(hd:D.depL ds<=98)(nd:d.dep<10000)(hm:aG .NotIn b=a4):DE X ρ (.Compare a [.NotIn] [b] pos) (.bl (!ds.any λe=>deq e d)):=λσ H Q R q =>(Jm (Lz hu) peS peS hm).to (ha σ H _ R λv H1 g1 e1=>hb σ H1 _ (R.grow g1) λu H2 g2 e2=>⟨d,ds,s,e1.mono g2,e2,hd,nd,q _ H2 (g1.trans g2) rfl⟩)
theorem DE.in(s:Bool)(hu:X.A.units+100<aX)(ha:DT X ρ a d)(hb:DT X ρ b (D.seq s ds))(hd:D.depL ds<=98)(nd:d.dep<10000)(hm:aG .In b=a4):DE X ρ (.Compare a [.In] [b] pos) (.bl (ds.any λe=>deq e d)):=λσ H Q R q =>(Jm (j5q hu) peS peS hm).to (ha σ H _ R λv H1 g1 e1=>hb σ H1 _ (R.grow g1) λu H2 g2 e2=>⟨d,ds,s,e1.mono g2,e2,hd,nd,q _ H2 (g1.trans g2) rfl⟩)
theorem jbd:∀{b:D}{s:Bool}{l:List D},b.sqv=a3 (s,l)->b=D.seq s l
 |.lst _,_,_,h=>by cases h;rfl
 |.dct _ _,_,_,h=>by cases h
 |.sct _,_,_,h=>by cases h
 |.fn _ _,_,_,h=>by cases h
 |.tup _,_,_,h=>by cases h;rfl
 |.non,_,_,h=>by cases h
 |.bl _,_,_,h=>by cases h
 |.int _,_,_,h=>by cases h
 |.str _,_,_,h=>by cases h
theorem j4d{op:Cop}{i j:Int}(h:cmpI op i j=a3 k)(ha:DT X ρ a (.int i))(hb:DT X ρ b (.int j)):DE X ρ (.Compare a [op.op] [b] pos) (.bl k)/\DB X ρ (.Compare a [op.op] [b] pos) k:=by
 cases op<;>(first|(cases h;done)|skip)
 .cases h;exact⟨DE.lt ha hb,DB.lt ha hb⟩
 .cases h;exact⟨DE.le ha hb,DB.le ha hb⟩
 .cases h;exact⟨DE.gt ha hb,DB.gt ha hb⟩
 .cases h;exact⟨DE.ge ha hb,DB.ge ha hb⟩
 .cases h;exact⟨DE.eqI ha hb,DB.eqI ha hb⟩
 .cases h;exact⟨DE.neI ha hb,DB.neI ha hb⟩
theorem Kl{op:Cop}(hu:X.A.units+100<aX)(h:Zt op da db=a3 k)(ha:DT X ρ a da)(hb:DT X ρ b db)(hm:aG op.op b=a4) :
  DE X ρ (.Compare a [op.op] [b] pos) (.bl k)/\DB X ρ (.Compare a [op.op] [b] pos) k:=by
 have inn:∀{r:Bool->Bool},(match db.sqv with|some (_,l)=>if D.depL l<=90/\da.dep<=90 then a3 (r (l.any λe=>deq e da))else a7|none=>a7)=a3 k->∃s l,DT X ρ b (D.seq s l)/\D.depL l<=98/\da.dep<10000/\k=r (l.any λe=>deq e da):=λ{r} h=>by
  cases e:db.sqv with
  |none=>rw[e]at h;cases h
  |some p =>
   obtain⟨s,l⟩:=p;rw[e]at h;have h:(if D.depL l<=90/\da.dep<=90 then a3 (r (l.any λe=>deq e da))else a7)=a3 k:=h;by_cases z:D.depL l<=90/\da.dep<=90
   .rw[if_pos z]at h;cases h;exact⟨s,l,jbd e▸hb,by omega,by omega,rfl⟩
   .rw[if_neg z]at h;cases h
 unfold Zt at h;split at h
 .exact j4d h ha hb
 .by_cases z:da.dep<=90/\db.dep<=90
  .rw[if_pos z]at h;cases h;exact⟨DE.eqD hu ha hb nofun nofun,DB.eqD hu ha hb nofun nofun⟩
  .rw[if_neg z]at h;cases h
 .cases h;exact⟨DE.neB ha hb,DB.neB ha hb⟩
 .cases h;exact⟨(DE.neS ha hb).eq (by rw[j15]),(DB.neS ha hb).eq (by rw[j15])⟩
 .cases h;exact⟨(DE.neS ha hb).eq (by simp),(DB.neS ha hb).eq (by simp)⟩
 .rename_i l m;by_cases z:D.depL l<=90/\D.depL m<=90
  .rw[if_pos z]at h;cases h;exact⟨DE.neD a6 hu ha hb nofun nofun,DB.neD a6 hu ha hb nofun nofun⟩
  .rw[if_neg z]at h;cases h
 .rename_i l m;by_cases z:D.depL l<=90/\D.depL m<=90
  .rw[if_pos z]at h;cases h;exact⟨DE.neD a4 hu ha hb nofun nofun,DB.neD a4 hu ha hb nofun nofun⟩
  .rw[if_neg z]at h;cases h
 .cases h;exact⟨DE.inS ha hb hm,DB.inS ha hb hm⟩
 .cases h;exact⟨DE.ltS ha hb,DB.ltS ha hb⟩
 .cases h;exact⟨DE.gtS ha hb,DB.gtS ha hb⟩
 .obtain⟨s,l,hb,hd,nd,e⟩:=inn (r:=id) h;subst e;exact⟨DE.in s hu ha hb hd nd hm,DB.in s hu ha hb hd nd hm⟩
 .obtain⟨s,l,hb,hd,nd,e⟩:=inn (r:=(!·)) h;subst e;exact⟨DE.notIn s hu ha hb hd nd hm,DB.notIn s hu ha hb hd nd hm⟩
 .cases h
theorem DE.shr{i j:Int}(ha:DT X ρ a (.int i))(hb:DT X ρ b (.int j))(h:0<=j):DE X ρ (.BinOp a .RShift b pos) (.int (i/2^j.toNat)):=DE.arI (g:=λi j=>i/2^j.toNat) jfr ha hb h
theorem q8{α:Type}{c:Prop}[Decidable c]{x y:α}(h:(if c then a3 x else a7)=a3 y):c/\x=y:=by
 by_cases z:c
 .rw[if_pos z]at h;exact⟨z,aw h⟩
 .rw[if_neg z]at h;cases h
theorem j4f{op:Bop}{i j n:Int}(h:binI op i j=a3 n)(ha:DT X ρ a (.int i))(hb:DT X ρ b (.int j)):DE X ρ (.BinOp a op.op b pos) (.int n):=by
 cases op
 .cases h;exact DE.add ha hb
 .cases h;exact DE.sub ha hb
 .obtain⟨z,e⟩:=q8 h;subst e;exact DE.mul ha hb z
 .obtain⟨z,e⟩:=q8 h;subst e;exact DE.fdivB ha hb z
 .obtain⟨z,e⟩:=q8 h;subst e;exact DE.mod ha hb z
 .obtain⟨z,e⟩:=q8 h;subst e;exact DE.pow ha hb z
 .obtain⟨z,e⟩:=q8 h;subst e;exact DE.shl ha hb z
 .obtain⟨z,e⟩:=q8 h;subst e;exact DE.shr ha hb z
 .cases h;exact DE.arI0 jfx ha hb
 .cases h;exact DE.arI0 jfp ha hb
theorem zj{n:Nat}(h:jq n=a6):n<=ar:=of_decide_eq_true h
end
section
variable{X:Cx}{ρ:Rho}{a b e:ao}{es:List ao}{d:D}{pos p:aO}
theorem Has.lw:∀{r:Rk}{l:List D},Has X ρ a r->r.lw=a3 l->DL X ρ a l
 |.o l,_,h,q=>by cases q;exact DO.toL h
 |.w l,_,h,q=>by cases q;exact h
 |.e _,_,_,q=>by cases q
 |.t _,_,_,q=>by cases q
theorem j7e{op:Bop}{x y r:Rk}(h:Uj op x y=a3 r)(ha:Has X ρ a x)(hb:Has X ρ b y):Has X ρ (.BinOp a op.op b pos) r:=by
 unfold Uj at h;split at h
 .rename_i i j e1 e2;cases z:binI op i j with
  |none=>rw[z]at h;cases h
  |some n=>rw[z]at h;cases h;exact j4f z (e1▸ha.toT) (e2▸hb.toT)
 .rename_i y z e1 e2;split at h
  .obtain⟨q,e⟩:=q8 h;subst e;exact DE.catS (e1▸ha.toT) (e2▸hb.toT) (zj q)
  .cases h
 .rename_i y k e1 e2;split at h
  .obtain⟨q,e⟩:=q8 h;subst e;exact DE.mulS (e1▸ha.toT) (e2▸hb.toT) q.1 q.2
  .cases h
 .split at h
  .rename_i l m _ e1 e2;obtain⟨z,q⟩:=q8 h;subst q;exact DO.catM (ha.toM e1) (hb.toM e2) (zj z)
  .rename_i l m _ e1 e2;obtain⟨z,q⟩:=q8 h;subst q;exact DE.catTM (ha.toM e1) (hb.toM e2) (zj z)
  .rename_i l k _ _ e1 e3;obtain⟨z,q⟩:=q8 h;subst q;exact DE.repT (ha.toM e1) (e3▸hb.toT) (λe=>by subst e;exact absurd z.2.2.1 (by simp)) z.1 z.2.1 (zj z.2.2.2)
  .rename_i k _ _ _ e3 _;cases e:x.lw with
   |none=>rw[e]at h;cases h
   |some l =>rw[e]at h;obtain⟨z,q⟩:=q8 h;subst q;exact DO.rep (ha.lw e) (e3▸hb.toT) z.1 z.2.1 (zj z.2.2)
  .cases h
theorem Wi:∀{l:List D}{bs:List Bool},boolsOf l=a3 bs->l=bs.map D.bl
 |[],_,h=>by cases h;rfl
 |.bl b::r,bs,h=>by
  unfold boolsOf at h;cases e:boolsOf r with
  |none=>rw[e]at h;cases h
  |some q=>rw[e]at h;cases h;rw[Wi e];rfl
 |.non::_,_,h=>by cases h
 |.int _::_,_,h=>by cases h
 |.str _::_,_,h=>by cases h
 |.tup _::_,_,h=>by cases h
 |.lst _::_,_,h=>by cases h
 |.dct _ _::_,_,h=>by cases h
 |.sct _::_,_,h=>by cases h
 |.fn _ _::_,_,h=>by cases h
theorem Ju:∀{l:List D}{bs:List Int},intsOf l=a3 bs->l=bs.map D.int
 |[],_,h=>by cases h;rfl
 |.int b::r,bs,h=>by
  unfold intsOf at h;cases e:intsOf r with
  |none=>rw[e]at h;cases h
  |some q=>rw[e]at h;cases h;rw[Ju e];rfl
 |.non::_,_,h=>by cases h
 |.bl _::_,_,h=>by cases h
 |.str _::_,_,h=>by cases h
 |.tup _::_,_,h=>by cases h
 |.lst _::_,_,h=>by cases h
 |.dct _ _::_,_,h=>by cases h
 |.sct _::_,_,h=>by cases h
 |.fn _ _::_,_,h=>by cases h
theorem Wq:∀{l:List D}{bs:List aj},strsOf l=a3 bs->l=bs.map D.str
 |[],_,h=>by cases h;rfl
 |.str b::r,bs,h=>by
  unfold strsOf at h;cases e:strsOf r with
  |none=>rw[e]at h;cases h
  |some q=>rw[e]at h;cases h;rw[Wq e];rfl
 |.non::_,_,h=>by cases h
 |.bl _::_,_,h=>by cases h
 |.int _::_,_,h=>by cases h
 |.tup _::_,_,h=>by cases h
 |.lst _::_,_,h=>by cases h
 |.dct _ _::_,_,h=>by cases h
 |.sct _::_,_,h=>by cases h
 |.fn _ _::_,_,h=>by cases h
theorem vh{w:Option W}{k:Bool}(h:truth w=a3 k):∃r,w=a3 (.v r)/\r.d=.bl k:=by
 unfold truth at h;split at h
 .rename_i r;split at h
  .rename_i q e;cases h;exact⟨r,rfl,e⟩
  .cases h
 .cases h
def jir(X:Cx)(ρ:Rho):List ao->List Rk->Prop
 |[],[]=>True
 |e::es,r::rs=>(∀y,jad r.d=a3 y->DE X ρ e (.str y))/\jir X ρ es rs
 |_,_=>False
def jip(Γ:aj->List D->Rc)(G:aj->Option D)(X:Cx)(t:Ex):Nd->Prop
 |.e e=>∀ρ r,ev Γ G t (j9 ρ)=a3 (.v r)->Has X ρ e r
 |.b e=>∀ρ k,truth (ev Γ G t (j9 ρ))=a3 k->DB X ρ e k
 |.w e=>∀ρ k,truth (ev Γ G t (j9 ρ))=a3 k->DW X ρ e k
 |.a es=>∀ρ rs,ev Γ G t (j9 ρ)=a3 (.a rs)->HasA X ρ es rs
 |.i tg it=>∀ρ ds,ev Γ G t (j9 ρ)=a3 (.i ds)->DI X ρ tg it ds
 |.o e=>∀ρ o,Qp (ev Γ G t (j9 ρ))=a3 o->DP X ρ e o
 |.p es=>∀ρ rs,ev Γ G t (j9 ρ)=a3 (.a rs)->jir X ρ es rs
 |.c ifs=>∀ρ,(ev Γ G t (j9 ρ)=a3 (.a [])->DTs X ρ ifs a6)/\∀y k,ev Γ G t (j9 ρ)=a3 (.a [y])->y.d=.bl k->DTs X ρ ifs k
end
section
variable{Γ:aj->List D->Rc}{G:aj->Option D}{X:Cx}
theorem O7{is:List Nat}{elt' it' c':Ex}{elt it tg:ao}{ifs:List ao}{scope:br}{ρ:Rho}{r:Rk}
  (hit:∀ρ ds,ev Γ G it' (j9 ρ)=a3 (.i ds)->DI X ρ tg it ds)
  (hb:∀ρ d ρ2,zb is d (j9 ρ)=a3 ρ2->(∀j∈is,ρ[j]?=a3 .un)->∃ρ',j9 ρ'=ρ2/\Wk ρ' ρ/\owns ρ'=owns ρ/\∀C s H fp pn,DG (cCx X scope C s H fp pn) ρ tg d ρ')
  (he:∀C s H fp pn ρ r,ev Γ G elt' (j9 ρ)=a3 (.v r)->Has (cCx X scope C s H fp pn) ρ elt r)
  (hc:∀C s H fp pn ρ,(ev Γ G c' (j9 ρ)=a3 (.a [])->DTs (cCx X scope C s H fp pn) ρ ifs a6)/\∀y k,ev Γ G c' (j9 ρ)=a3 (.a [y])->y.d=.bl k->DTs (cCx X scope C s H fp pn) ρ ifs k)
  (h:ev Γ G (.comp is elt' it' c') (j9 ρ)=a3 (.v r)):∃(l:List D)(ρf:Rho)(ds:List D)(pr:D->Bool)(g:D->D),r=.o l/\l=(ds.filter pr).map g /\
   (ρf=ρ\/(zc l=a6/\∃(i:Nat)(a:aa)(l':List D),ρ[i]?=a3 (.own a l')/\ρf=ρ.set i (.val (.lst l'))))/\DI X ρf tg it ds/\(∀j∈is,ρf[j]?=a3 .un)/\ds.length<=ar /\
   (∀C s H fp pn,∀d∈ds,∃ρ2,DG (cCx X scope C s H fp pn) ρf tg d ρ2/\Wk ρ2 ρf/\owns ρ2=owns ρf/\DTs (cCx X scope C s H fp pn) ρ2 ifs (pr d)/\(pr d=a6->DE (cCx X scope C s H fp pn) ρ2 elt (g d))):=by
 have fr:∃ρf,j9 ρf=frz it' (j9 ρ)/\((Jd it' (j9 ρ)=a4/\ρf=ρ)\/(Jd it' (j9 ρ)=a6/\∃i a l,ρ[i]?=a3 (.own a l)/\ρf=ρ.set i (.val (.lst l)))):=by
  by_cases z:Jd it' (j9 ρ)=a6
  .unfold Jd at z;split at z
   .rename_i i ei;split at z
    .rename_i l e;obtain⟨a,q⟩:=Qa e;refine⟨ρ.set i (.val (.lst l)),?_,.inr ⟨?_,i,a,l,q,rfl⟩⟩
     .rw[jl];simp only[frz,ei,e,Sl.abs]
     .simp only[Jd,ei,e]
    .cases z
   .cases z
  .have z':Jd it' (j9 ρ)=a4:=by simpa using z
   refine⟨ρ,?_,.inl ⟨z',rfl⟩⟩;unfold frz;split
   .rename_i i ei;split
    .rename_i l e;simp only[Jd,ei,e]at z';cases z'
    .rfl
   .rfl
 obtain⟨ρf,ef,fr⟩:=fr;rw[jig]at h;rw[<-ef]at h;split at h
 .rename_i ds hds;split at h
  .rename_i hz;obtain⟨hfree,hlen⟩:=hz;generalize hf:(λd=>_:D->Option (Option D))=f at h;cases hl:vz f ds with
   |none=>rw[hl]at h;cases h
   |some l =>
    rw[hl]at h;have h:(if (Jd it' (j9 ρ) && !zc l)=a6 then a7 else a3 (W.v (.o l)))=a3 (.v r):=h;by_cases zz:(Jd it' (j9 ρ) && !zc l)=a6
    .rw[if_pos zz]at h;cases h
    .rw[if_neg zz]at h;cases h;obtain⟨el,hmem⟩:=Fd hl;have hun:∀j∈is,ρf[j]?=a3 .un:=λj hj=>by
      have:=T7.mp hfree j hj;split at this
      .rename_i e;exact je9 e
      .cases this
     refine⟨l,ρf,ds,_,_,rfl,el,?_,hit ρf ds hds,hun,zj hlen,λC s H fp pn d hd=>?_⟩
     .rcases fr with ⟨_,e⟩|⟨e1,i,a,l',hk,e⟩
      .exact .inl e
      .exact .inr ⟨by rw[e1]at zz;simpa using zz,i,a,l',hk,e⟩
     ·
      obtain⟨o,ho⟩:=hmem d hd;rw[<-hf]at ho ⊢;dsimp only at ho ⊢;cases hb2:zb is d (j9 ρf) with
      |none=>rw[hb2]at ho;cases ho
      |some ρ2 =>
       obtain⟨ρ',e',wk,ow,dg⟩:=hb ρf d ρ2 hb2 hun;subst e';refine⟨ρ',dg C s H fp pn,wk,ow,?_⟩;rw[hb2]at ho;dsimp only at ho ⊢;cases hcv:ev Γ G c' (j9 ρ') with
       |none=>rw[hcv]at ho;cases ho
       |some w =>
        rw[hcv]at ho;split at ho
        .rename_i hw;cases hw;cases hev:ev Γ G elt' (j9 ρ') with
         |none=>rw[hev]at ho;cases ho
         |some w =>
          rw[hev]at ho;cases w with
          |i _=>cases ho
          |a _=>cases ho
          |v x =>
           dsimp only at ho ⊢;cases hst:x.st with
           |none=>rw[hst]at ho;cases ho
           |some y =>simp only[hst,iX,iJ,eV,dE];exact⟨((hc C s H fp pn ρ').1 hcv),λ_=>(he C s H fp pn ρ' x hev).toE hst⟩
        .rename_i y hw;cases hw;split at ho
         .rename_i e1;cases hev:ev Γ G elt' (j9 ρ') with
          |none=>rw[hev]at ho;cases ho
          |some w =>
           rw[hev]at ho;cases w with
           |i _=>cases ho
           |a _=>cases ho
           |v x =>
            dsimp only at ho ⊢;cases hst:x.st with
            |none=>rw[hst]at ho;cases ho
            |some z =>simp only[e1,hst,iX,iJ,eV,dE];exact⟨(hc C s H fp pn ρ').2 y a6 hcv e1,λ_=>(he C s H fp pn ρ' x hev).toE hst⟩
         .rename_i e1;simp only[e1,Option.join,kn];exact⟨(hc C s H fp pn ρ').2 y a4 hcv e1,λz=>by cases z⟩
         .cases ho
        .cases ho
  .cases h
 .cases h
theorem Fb{is:List Nat}{elt' it' c':Ex}{elt it tg:ao}{ifs:List ao}{scope:br}{p:aO}{ρ:Rho}{r:Rk}(hq:X.calm=a6)(hX:Cok X G)
  (hit:∀ρ ds,ev Γ G it' (j9 ρ)=a3 (.i ds)->DI X ρ tg it ds) (hkind:scope.kind=.function) (hok:Js scope X.env X.N is=a6) (hs:∀x,aH it X.env x=pure x)
  (hb:∀ρ d ρ2,zb is d (j9 ρ)=a3 ρ2->(∀j∈is,ρ[j]?=a3 .un)->∃ρ',j9 ρ'=ρ2/\Wk ρ' ρ/\owns ρ'=owns ρ/\∀C s H fp pn,DG (cCx X scope C s H fp pn) ρ tg d ρ')
  (he:∀C s H fp pn ρ r,ev Γ G elt' (j9 ρ)=a3 (.v r)->Has (cCx X scope C s H fp pn) ρ elt r)
  (hc:∀C s H fp pn ρ,(ev Γ G c' (j9 ρ)=a3 (.a [])->DTs (cCx X scope C s H fp pn) ρ ifs a6)/\∀y k,ev Γ G c' (j9 ρ)=a3 (.a [y])->y.d=.bl k->DTs (cCx X scope C s H fp pn) ρ ifs k)
  (h:ev Γ G (.comp is elt' it' c') (j9 ρ)=a3 (.v r)):∃l,r=.o l/\DO X ρ (.ListComp elt [⟨tg,it,ifs,0⟩] scope p) l:=by
 obtain⟨l,ρf,ds,pr,g,er,el,hf,hi,hun,hz,hb'⟩:=O7 hit hb he hc h;refine⟨l,er,?_⟩;have main:DO X ρf (.ListComp elt [⟨tg,it,ifs,0⟩] scope p) ((ds.filter pr).map g):=DO.comp is _ _ hi hb' hun hz hq hkind hok hs;rw[<-el]at main;rcases hf with e|⟨hn,i,a,l',hk,e⟩
 .subst e;exact main
 .subst e;exact DO.unfrz hk main hn
end
section
variable{X:Cx}{ρ:Rho}{a b e:ao}{es:List ao}{d:D}{pos p:aO}
theorem Has.map(h:∀σ H Q,Qf X a σ H Q->Qf X e σ H Q):∀{r:Rk},Has X ρ a r->Has X ρ e r
 |.e _,q=>λσ H Q R z=>h σ H Q (q σ H Q R z)
 |.o _,q=>λσ H Q R z=>h σ H Q (q σ H Q R z)
 |.w _,q=>λσ H Q R z=>h σ H Q (q σ H Q R z)
 |.t _,q=>λσ H Q R z=>h σ H Q (q σ H Q R z)
theorem Has.bl{r:Rk}{k:Bool}(h:Has X ρ a r)(e:r.d=.bl k):DE X ρ a (.bl k):=DT.toE (e▸h.toT)
theorem Jf{f:Bf}{rs:List Rk}{r:Rk}{p2:aO}{G:aj->Option D}(c:Cok X G)(hq:f=.min\/f=.all\/f=.sum\/f=.any\/f=.max->X.calm=a6)(hg:Gl X f.name)(h:Z3 f rs=a3 r)(ha:HasA X ρ es rs):Has X ρ (.Call (.Name f.name p) es [] p2) r:=by
 have one:∀{x:Rk},HasA X ρ es [x]->∃e,es=[e]/\Has X ρ e x/\a9 [e] X.env=[(a4,aA e X.env)]:=λ{x} h=>by cases h with|cons hs h t=>cases t;exact⟨_,rfl,h,hs⟩
 have two:∀{x y:Rk},HasA X ρ es [x,y]->∃e f,es=[e,f]/\Has X ρ e x/\Has X ρ f y/\a9 [e,f] X.env=(a4,aA e X.env)::a9 [f] X.env/\a9 [f] X.env=[(a4,aA f X.env)]:=λ{x y} h=>by cases h with|cons hs h t=>cases t with|cons hs2 h2 t2=>cases t2;exact⟨_,_,rfl,h,h2,hs,hs2⟩
 unfold Z3 at h;split at h
 .rename_i x;obtain⟨e,ee,hx,hs⟩:=one ha;subst ee;split at h
  .rename_i l el;cases h;exact DE.lenL (el▸hx.toT) (c.bt _ (by decide)) hg hs
  .rename_i l el;cases h;exact DE.lenT (el▸hx.toT) (c.bt _ (by decide)) hg hs
  .rename_i y el;obtain⟨z,q⟩:=q8 h;subst q;exact DE.lenS (el▸hx.toT) (zj z) (c.bt _ (by decide)) hg hs
  .cases h
 .rename_i x y;obtain⟨e,f,ee,hx,hy,hs,hs2⟩:=two ha;subst ee;split at h
  .rename_i i j ei ej;cases h;exact DE.min (ei▸hx.toT) (ej▸hy.toT) (c.bt _ (by decide)) (hq (.inl rfl)) hg hs hs2 (by rw[hs2];rfl)
  .cases h
 .rename_i x y;obtain⟨e,f,ee,hx,hy,hs,hs2⟩:=two ha;subst ee;split at h
  .rename_i i j ei ej;cases h;exact DE.max2 (ei▸hx.toT) (ej▸hy.toT) (c.bt _ (by decide)) (hq (.inr (.inr (.inr (.inr rfl))))) hg hs hs2 (by rw[hs2];rfl)
  .cases h
 .rename_i x;obtain⟨e,ee,hx,hs⟩:=one ha;subst ee;split at h
  .rename_i l el;split at h
   .rename_i ns en;obtain⟨z,q⟩:=q8 h;cases q;have:=Ju en;subst this;exact DE.maxL (el▸hx.toT) (λz'=>by subst z';simp at z) (c.bt _ (by decide)) (hq (.inr (.inr (.inr (.inr rfl))))) hg hs
   .cases h
  .cases h
 .rename_i x;obtain⟨e,ee,hx,hs⟩:=one ha;subst ee;split at h
  .rename_i l el;split at h
   .rename_i ns en;obtain⟨z,q⟩:=q8 h;cases q;have:=Ju en;subst this;exact DE.minL (el▸hx.toT) (λz'=>by subst z';simp at z) (c.bt _ (by decide)) (hq (.inl rfl)) hg hs
   .cases h
  .cases h
 .rename_i x;obtain⟨e,ee,hx,hs⟩:=one ha;subst ee;split at h
  .rename_i l el;cases q:boolsOf l with
   |none=>rw[q]at h;cases h
   |some bs =>rw[q]at h;cases h;have:=Wi q;subst this;exact DE.all (el▸hx.toT) (c.bt _ (by decide)) (hq (.inr (.inl rfl))) hg hs
  .cases h
 .rename_i x;obtain⟨e,ee,hx,hs⟩:=one ha;subst ee;split at h
  .rename_i l el;cases q:boolsOf l with
   |none=>rw[q]at h;cases h
   |some bs =>rw[q]at h;cases h;have:=Wi q;subst this;exact DE.any (el▸hx.toT) (c.bt _ (by decide)) (hq (.inr (.inr (.inr (.inl rfl))))) hg hs
  .cases h
 .rename_i x;obtain⟨e,ee,hx,hs⟩:=one ha;subst ee;split at h
  .rename_i s l el;cases h;exact DE.tupM (hx.toM el) (c.bt _ (by decide)) hg hs
  .cases h
 .rename_i x;obtain⟨e,ee,hx,hs⟩:=one ha;subst ee;split at h
  .rename_i s l el;cases h;exact DO.listM (hx.toM el) (c.bt _ (by decide)) hg hs
  .cases h
 .rename_i x;obtain⟨e,ee,hx,hs⟩:=one ha;subst ee;split at h
  .rename_i l el;cases q:intsOf l with
   |none=>rw[q]at h;cases h
   |some ns =>rw[q]at h;cases h;have:=Ju q;subst this;exact DE.sum a6 (show DT X ρ e (.lst (ns.map D.int))from el▸hx.toT) (c.bt _ (by decide)) (hq (.inr (.inr (.inl rfl)))) hg hs
  .rename_i l el;cases q:intsOf l with
   |none=>rw[q]at h;cases h
   |some ns =>rw[q]at h;cases h;have:=Ju q;subst this;exact DE.sum a4 (show DT X ρ e (.tup (ns.map D.int))from el▸hx.toT) (c.bt _ (by decide)) (hq (.inr (.inr (.inl rfl)))) hg hs
  .cases h
 .rename_i x;obtain⟨e,ee,hx,hs⟩:=one ha;subst ee;split at h
  .rename_i k el;cases h;exact DE.int1 (el▸hx.toT) (c.bt _ (by decide)) hg hs
  .cases h
 .cases h
end
section
variable{Γ:aj->List D->Rc}{G:aj->Option D}{X:Cx}
theorem Fx{d:D}{ns:List Int}(h:tupI d=a3 ns):d=.tup (ns.map D.int):=by
 unfold tupI at h;split at h
 .rw[Ju h]
 .cases h
theorem jcw{r:Rc}{k:Int}(h:j43 r=a3 k):r=.val (.int k):=by
 unfold j43 at h;split at h
 .cases h;rfl
 .cases h
theorem j8d{kf:D->Option Int}{l:List D}{d:D}{g:Nat->Int}(hg:∀j e k,l[j]?=a3 e->kf e=a3 k->g j=k):∀(ds:List D)(n:Nat),l.drop n=ds->∀(b:D)(i:Nat),i<n->l[i]?=a3 b->kf b=a3 (g i)->J2 g n i->Vi kf b (g i) ds=a3 d ->
  (∀j,n<=j->∀e,l[j]?=a3 e->kf e=a3 (g j))/\∃i',l[i']?=a3 d/\J2 g l.length i':=by
 intro ds;induction ds with
 |nil =>intro n hn b i hi hb hk hl h;have hle:l.length<=n:=List.drop_eq_nil_iff.mp hn;unfold Vi at h;cases h;exact⟨λj hj e he=>by have:=(X8.mp he).1;omega,i,hb,λj hj=>hl j nofun⟩
 |cons x ds ih =>
  intro n hn b i hi hb hk hl h;have hx:l[n]?=a3 x:=by have:=congrArg List.head? hn;rw[List.head?_drop]at this;exact this
  have hd:l.drop (n+1)=ds:=by have:=congrArg List.tail hn;rw[List.tail_drop]at this;exact this
  unfold Vi at h;split at h
  .rename_i k ek;have gk:=hg n x k hx ek;subst gk;have put:∀{P:Prop},((∀j,n+1<=j->∀e,l[j]?=a3 e->kf e=a3 (g j))/\P)->(∀j,n<=j->∀e,l[j]?=a3 e->kf e=a3 (g j))/\P:=λ{P} ⟨a,b⟩=>⟨λj hj e he=>by
    by_cases z:j=n
    .subst z;rw[hx]at he;cases he;exact ek
    .exact a j nofun e he,b⟩
   split at h
   .rename_i lt;exact put (ih (n+1) hd x n (T9 _) hx ek (λj hj=>by
     by_cases z:j=n
     .subst z;exact⟨t6 _,λz=>absurd z (Xz _)⟩
     .have:=(hl j nofun).1
      exact⟨by omega,λ_=>by omega⟩) h)
   .rename_i ge;exact put (ih (n+1) hd b i nofun hb hk (λj hj=>by
     by_cases z:j=n
     .subst z;exact⟨by omega,λz=>by omega⟩
     .exact hl j nofun) h)
  .cases h
theorem Eg:∀{l:List D}{ks:List (List Int)},Rr l=a3 ks->l=ks.map λk=>D.tup (k.map D.int)
 |[],ks,h=>by cases h;rfl
 |d::l,ks,h=>by
  unfold Rr at h;split at h
  .rename_i k ks' e1 e2;cases h;rw[Fx e1,Eg e2];rfl
  .cases h
theorem jfi:∀{d:D}{k:Int×List Int},prI d=a3 k->d=pairD k:=λ{d k} h=>by
 unfold prI at h;split at h
 .obtain⟨x,e,z⟩:=Pb.mp h;subst z;rw[Fx e];rfl
 .cases h
theorem j2i:∀{l:List D}{ks:List (Int×List Int)},j3q l=a3 ks->l=ks.map pairD
 |[],ks,h=>by cases h;rfl
 |d::l,ks,h=>by
  unfold j3q at h;split at h
  .rename_i k ks' e1 e2;cases h;rw[jfi e1,j2i e2];rfl
  .cases h
theorem j0i{kf:D->Option Int}{l:List D}{d:D}(h:Nf kf l=a3 d):∃(g:Nat->Int)(i:Nat),(∀j e,l[j]?=a3 e->kf e=a3 (g j))/\l[i]?=a3 d/\J2 g l.length i:=by
 have hg:∀(j:Nat)(e:D)(k:Int),l[j]?=a3 e->kf e=a3 k->(((l[j]?).bind kf).getD 0)=k:=λj e k he hk=>by rw[he];show(kf e).getD 0=k;rw[hk];rfl
 cases l with
 |nil=>cases h
 |cons x ds =>
  have h:(match kf x with|some k=>Vi kf x k ds|none=>a7)=a3 d:=h;cases ek:kf x with
  |none=>rw[ek]at h;cases h
  |some k =>
   rw[ek]at h;have g0:=hg 0 x k rfl ek;obtain⟨a,i,b,c⟩:=j8d (g:=λj=>(((x::ds)[j]?).bind kf).getD 0) hg ds 1 rfl x 0 nofun rfl (by rw[g0];exact ek) (λj hj=>by
    have:j=0:=by omega
    subst this
    exact⟨t6 _,λz=>absurd z (Xz _)⟩) (by rw[g0];exact h)
   refine⟨_,i,λj e he=>?_,b,c⟩;by_cases z:j=0
   .subst z;cases he;show kf x=a3 _;rw[g0];exact ek
   .exact a j nofun e he
theorem j4e {ρ:Rho} {f:aj} {e:ao} {es:List ao} {rs:List Rk} {r:Rk} {p p2:aO} (g:Gok X Γ) (hg:Gl X f) (hdb:(f==k8q)=a4) (he:a9 (e::es) X.env=(a4,aA e X.env)::a9 es X.env)
  (hpl:(aY p2 (a9 es X.env)).any (·.1)=a4) (ha:HasA X ρ (e::es) rs)
  (h:(match zp rs with|some ds=>(Γ f ds).rk.map W.v|none=>match Γ f (rs.map Rk.d)with|.val d=>a3 (.v (.t d))|_=>a7)=a3 (.v r)):Has X ρ (.Call (.Name f p) (e::es) [] p2) r:=by
 split at h
 .rename_i ds hds;have q:=g f ds;cases z:Γ f ds with
  |val d=>rw[z]at h q;cases h;exact DE.call q (ha.toA hds) ⟨rfl,rfl⟩ hg hdb he hpl
  |fresh l=>rw[z]at h q;cases h;exact DO.call q (ha.toA hds) ⟨rfl,rfl⟩ hg hdb he hpl
  |err x=>rw[z]at h;cases h
  |lval d=>rw[z]at h;cases h
  |no=>rw[z]at h;cases h
 .have q:=g f (rs.map Rk.d);split at h
  .rename_i d z;rw[z]at q;cases h;exact DT.call q ha.toT ⟨rfl,rfl⟩ hg hdb he hpl
  .cases h
end
def XM(X:Cx)(ρ:Rho)(y:aj):Nd->Prop
 |.e e=>DX X ρ e y
 |.a es=>DXA X ρ es y
 |_=>True
structure Tr(X:Cx)(t:Ex)(nd:Nd):Prop where
 m:∀(Γ:aj->List D->Rc)(G:aj->Option D),Cok X G->Gok X Γ->jip Γ G X t nd
 x:∀(Γ:aj->List D->Rc)(G:aj->Option D),Cok X G->Gok X Γ->∀ρ y,er Γ G t (j9 ρ)=a3 y->XM X ρ y nd
theorem Tr.int:∀{X:Cx}{i:Int}{n:Nat}{p:aO},Tr X (.lit (.int i)) (.e (.Constant (.int i) n p)):=by intro _ _ _ _;refine⟨λΓ G=>?_,λ_ _ _ _ _ _ h=>nomatch h⟩;intro _ _ ρ r h;simp only[Eb]at h;cases h;exact DE.int
theorem Tr.bl:∀{X:Cx}{b:Bool}{n:Nat}{p:aO},Tr X (.lit (.bl b)) (.e (.Constant (.bool b) n p)):=by intro _ _ _ _;refine⟨λΓ G=>?_,λ_ _ _ _ _ _ h=>nomatch h⟩;intro _ _ ρ r h;simp only[Eb]at h;cases h;exact DE.bl
theorem Tr.non:∀{X:Cx}{n:Nat}{p:aO},Tr X (.lit .non) (.e (.Constant .none n p)):=by intro _ _ _;refine⟨λΓ G=>?_,λ_ _ _ _ _ _ h=>nomatch h⟩;intro _ _ ρ r h;simp only[Eb]at h;cases h;exact DE.non
theorem Tr.str:∀{X:Cx}{y:aj}{n:Nat}{p:aO},Tr X (.lit (.str y)) (.e (.Constant (.str y) n p)):=by intro _ _ _ _;refine⟨λΓ G=>?_,λ_ _ _ _ _ _ h=>nomatch h⟩;intro _ _ ρ r h;simp only[Eb]at h;cases h;exact DE.str
theorem Tr.var:∀{X:Cx}{k:Nat}{x:aj}{p:aO}(hN:X.N[k]?=a3 x) (hv:Vis X.env.scope x) (hd:(x==k8q)=a4) (hcd:(x==k8r)=a4),Tr X (.var k) (.e (.Name x p)):=by
 intro _ _ _ _ hN hv hd hcd;refine⟨λΓ G=>?_,λ_ _ _ _ _ _ h=>nomatch h⟩;intro _ _ ρ r h;simp only[jkn,Fv]at h;split at h
 .rename_i e;cases h;exact DE.var _ (Yw e) hN hv hd hcd
 .rename_i e;cases h;obtain⟨a,q⟩:=Qa e;exact DL.var _ q hN hv hd hcd
 .cases h
theorem Tr.glob:∀{X:Cx}{x:aj}{p:aO}(hg:Gl X x)(hd:(x==k8q)=a4) (hb:Vp x=a4),Tr X (.glob x) (.e (.Name x p)):=by
 intro _ _ _ hg hd hb;refine⟨λΓ G=>?_,λ_ _ _ _ _ _ h=>nomatch h⟩;rename_i X x p;intro c _ ρ r h;simp only[jid]at h;cases e:G x with
 |none=>rw[e]at h;cases h
 |some d=>rw[e]at h;cases h;obtain⟨u,v,hm,r,q⟩:=c.gl x d hb e;exact DE.glob hg hm r q hd
theorem Tr.bin:∀{X:Cx}{op:Bop}{a' b':Ex}{a b:ao}{p:aO},Tr X a' (.e a)->Tr X b' (.e b)->Tr X (.bin op a' b') (.e (.BinOp a op.op b p)):=by
 intro _ _ _ _ _ _ _ q0 q1;refine⟨λΓ G=>?_,λ_ _ _ _ _ _ h=>nomatch h⟩;have iha:=q0.m Γ G;have ihb:=q1.m Γ G;intro c g ρ r h;simp only[jku,Z4]at h;split at h
 .rename_i x y ex ey;cases e:Uj _ x y with
  |none=>rw[e]at h;cases h
  |some z=>rw[e]at h;cases h;exact j7e e (iha c g ρ x ex) (ihb c g ρ y ey)
 .cases h
theorem Tr.neg:∀{X:Cx}{a':Ex}{a:ao}{p:aO},Tr X a' (.e a)->Tr X (.neg a') (.e (.UnaryOp .USub a p)):=by
 intro _ _ _ _ q0;refine⟨λΓ G=>?_,λ_ _ _ _ _ _ h=>nomatch h⟩;have iha:=q0.m Γ G;intro c g ρ r h;simp only[jkq,j0g]at h;split at h
 .rename_i x ex;split at h
  .rename_i i e;cases h;exact DE.neg (e▸(iha c g ρ x ex).toT)
  .cases h
 .cases h
theorem Tr.cmp:∀{X:Cx}{op:Cop}{a' b':Ex}{a b:ao}{p:aO}(hm:aG op.op b=a4),Tr X a' (.e a)->Tr X b' (.e b)->Tr X (.cmp op a' b') (.e (.Compare a [op.op] [b] p)):=by
 intro _ _ _ _ _ _ _ hm q0 q1;refine⟨λΓ G=>?_,λ_ _ _ _ _ _ h=>nomatch h⟩;have iha:=q0.m Γ G;have ihb:=q1.m Γ G;intro c g ρ r h;simp only[jay,Cr]at h;split at h
 .rename_i x y ex ey;cases e:Zt _ x.d y.d with
  |none=>rw[e]at h;cases h
  |some z=>rw[e]at h;cases h;exact(Kl c.un' e (iha c g ρ x ex).toT (ihb c g ρ y ey).toT hm).1
 .cases h
theorem Tr.bcmp:∀{X:Cx}{op:Cop}{a' b':Ex}{a b:ao}{p:aO}(hm:aG op.op b=a4),Tr X a' (.e a)->Tr X b' (.e b)->Tr X (.cmp op a' b') (.b (.Compare a [op.op] [b] p)):=by
 intro _ _ _ _ _ _ _ hm q0 q1;refine⟨λΓ G=>?_,λ_ _ _ _ _ _ _=>trivial⟩;have iha:=q0.m Γ G;have ihb:=q1.m Γ G;intro c g ρ k h;obtain⟨r,h,hk⟩:=vh h;simp only[jay,Cr]at h;split at h
 .rename_i x y ex ey;cases e:Zt _ x.d y.d with
  |none=>rw[e]at h;cases h
  |some z=>rw[e]at h;cases h;cases hk;exact(Kl c.un' e (iha c g ρ x ex).toT (ihb c g ρ y ey).toT hm).2
 .cases h
theorem Tr.isN:∀{X:Cx}{a':Ex}{a:ao}{n:Nat}{p p2:aO},Tr X a' (.e a)->Tr X (.isN a') (.e (.Compare a [.Is] [.Constant .none n p2] p)):=by
 intro _ _ _ _ _ _ q0;refine⟨λΓ G=>?_,λ_ _ _ _ _ _ h=>nomatch h⟩;have iha:=q0.m Γ G;intro c g ρ r h;simp only[Ec]at h;split at h
 .rename_i x ex;cases h;exact DE.isN (iha c g ρ x ex).toT
 .cases h
theorem Tr.bisN:∀{X:Cx}{a':Ex}{a:ao}{n:Nat}{p p2:aO},Tr X a' (.e a)->Tr X (.isN a') (.b (.Compare a [.Is] [.Constant .none n p2] p)):=by
 intro _ _ _ _ _ _ q0;refine⟨λΓ G=>?_,λ_ _ _ _ _ _ _=>trivial⟩;have iha:=q0.m Γ G;intro c g ρ k h;obtain⟨r,h,hk⟩:=vh h;simp only[Ec]at h;split at h
 .rename_i x ex;cases h;cases hk;exact DB.isN (iha c g ρ x ex).toT
 .cases h
theorem Tr.isNN:∀{X:Cx}{a':Ex}{a:ao}{n:Nat}{p p2:aO},Tr X a' (.e a)->Tr X (.not (.isN a')) (.e (.Compare a [.IsNot] [.Constant .none n p2] p)):=by
 intro _ _ _ _ _ _ q0;refine⟨λΓ G=>?_,λ_ _ _ _ _ _ h=>nomatch h⟩;have iha:=q0.m Γ G;intro c g ρ r h;simp only[j4k,Ec]at h;cases e:truth _ with
 |none=>rw[e]at h;cases h
 |some k =>
  rw[e]at h;cases h;obtain⟨x,ex,ed⟩:=vh e;split at ex
  .rename_i y ey;cases ex;cases ed;exact DE.isNotN (iha c g ρ y ey).toT
  .cases ex
theorem Tr.bisNN:∀{X:Cx}{a':Ex}{a:ao}{n:Nat}{p p2:aO},Tr X a' (.e a)->Tr X (.not (.isN a')) (.b (.Compare a [.IsNot] [.Constant .none n p2] p)):=by
 intro _ _ _ _ _ _ q0;refine⟨λΓ G=>?_,λ_ _ _ _ _ _ _=>trivial⟩;have iha:=q0.m Γ G;intro c g ρ k h;obtain⟨r,h,hk⟩:=vh h;simp only[j4k,Ec]at h;cases e:truth _ with
 |none=>rw[e]at h;cases h
 |some k =>
  rw[e]at h;cases h;cases hk;obtain⟨x,ex,ed⟩:=vh e;split at ex
  .rename_i y ey;cases ex;cases ed;exact DB.isNotN (iha c g ρ y ey).toT
  .cases ex
theorem Tr.one:∀{X:Cx}{a':Ex}{a:ao}{op:BoolOp}{p:aO},Tr X a' (.e a)->Tr X a' (.e (.BoolOp op [a] p)):=by intro _ _ _ _ _ q0;refine⟨λΓ G=>?_,λΓ G c g ρ y h σ H Q R k=>(j5l peS).to (q0.x Γ G c g ρ y h σ H Q R k)⟩;have iha:=q0.m Γ G;intro c g ρ r h;exact Has.map (λσ H Q q=>(j5l peS).to q) (iha c g ρ r h)
theorem Tr.and:∀{X:Cx}{a' t':Ex}{a b:ao}{rest:List ao}{p:aO},Tr X a' (.e a)->Tr X t' (.e (.BoolOp .And (b::rest) p))->Tr X (.and a' t') (.e (.BoolOp .And (a::b::rest) p)):=by
 intro _ _ _ _ _ _ _ q0 q1;refine⟨λΓ G=>?_,λ_ _ _ _ _ _ h=>nomatch h⟩;have iha:=q0.m Γ G;have ihb:=q1.m Γ G;intro c g ρ r h;simp only[jaz]at h;split at h
 .rename_i e;cases h;obtain⟨x,ex,ed⟩:=vh e;exact(DE.and (m:=a4) ((iha c g ρ x ex).bl ed).toT λz=>by cases z)
 .rename_i e;obtain⟨x,ex,ed⟩:=vh e;cases e2:truth (ev Γ G _ (j9 ρ)) with
  |none=>rw[e2]at h;cases h
  |some k =>rw[e2]at h;cases h;obtain⟨y,ey,fd⟩:=vh e2;exact(DE.and ((iha c g ρ x ex).bl ed).toT λ_=>(ihb c g ρ y ey).bl fd).eq (by simp)
 .cases h
theorem Tr.wand1:∀{X:Cx}{a':Ex}{a:ao}{p:aO},Tr X a' (.b a)->Tr X a' (.w (.BoolOp .And [a] p)):=by intro _ _ _ _ q0;refine⟨λΓ G=>?_,λ_ _ _ _ _ _ _=>trivial⟩;have iha:=q0.m Γ G;intro c g ρ k h;exact DW.and1 (iha c g ρ k h)
theorem Tr.wor1:∀{X:Cx}{a':Ex}{a:ao}{p:aO},Tr X a' (.b a)->Tr X a' (.w (.BoolOp .Or [a] p)):=by intro _ _ _ _ q0;refine⟨λΓ G=>?_,λ_ _ _ _ _ _ _=>trivial⟩;have iha:=q0.m Γ G;intro c g ρ k h;exact DW.or1 (iha c g ρ k h)
theorem Tr.wand:∀{X:Cx}{a' t':Ex}{a b:ao}{rest:List ao}{p:aO},Tr X a' (.b a)->Tr X t' (.w (.BoolOp .And (b::rest) p))->Tr X (.and a' t') (.w (.BoolOp .And (a::b::rest) p)):=by
 intro _ _ _ _ _ _ _ q0 q1;refine⟨λΓ G=>?_,λ_ _ _ _ _ _ _=>trivial⟩;have iha:=q0.m Γ G;have ihb:=q1.m Γ G;intro c g ρ k h;obtain⟨r,h,hk⟩:=vh h;simp only[jaz]at h;split at h
 .rename_i e;cases h;cases hk;exact DW.and (m:=a4) (iha c g ρ a4 e) λz=>by cases z
 .rename_i e;cases e2:truth (ev Γ G _ (j9 ρ)) with
  |none=>rw[e2]at h;cases h
  |some m =>rw[e2]at h;cases h;cases hk;have q:=DW.and (iha c g ρ a6 e) λ_=>ihb c g ρ _ e2;rw[gE]at q;exact q
 .cases h
theorem Tr.wor:∀{X:Cx}{a' t':Ex}{a b:ao}{rest:List ao}{p:aO},Tr X a' (.b a)->Tr X t' (.w (.BoolOp .Or (b::rest) p))->Tr X (.or a' t') (.w (.BoolOp .Or (a::b::rest) p)):=by
 intro _ _ _ _ _ _ _ q0 q1;refine⟨λΓ G=>?_,λ_ _ _ _ _ _ _=>trivial⟩;have iha:=q0.m Γ G;have ihb:=q1.m Γ G;intro c g ρ k h;obtain⟨r,h,hk⟩:=vh h;simp only[jm4]at h;split at h
 .rename_i e;cases h;cases hk;exact DW.or (m:=a4) (iha c g ρ a6 e) λz=>by cases z
 .rename_i e;cases e2:truth (ev Γ G _ (j9 ρ)) with
  |none=>rw[e2]at h;cases h
  |some m =>rw[e2]at h;cases h;cases hk;have q:=DW.or (iha c g ρ a4 e) λ_=>ihb c g ρ _ e2;rw[gH]at q;exact q
 .cases h
theorem Tr.bw:∀{X:Cx}{a':Ex}{op:BoolOp}{es:List ao}{p:aO},Tr X a' (.w (.BoolOp op es p))->Tr X a' (.b (.BoolOp op es p)):=by intro _ _ _ _ _ q0;refine⟨λΓ G=>?_,λ_ _ _ _ _ _ _=>trivial⟩;have iha:=q0.m Γ G;intro c g ρ k h;exact DW.toB (iha c g ρ k h)
theorem Tr.bnot:∀{X:Cx}{a':Ex}{a:ao}{p:aO},Tr X a' (.b a)->Tr X (.not a') (.b (.UnaryOp .Not a p)):=by
 intro _ _ _ _ q0;refine⟨λΓ G=>?_,λ_ _ _ _ _ _ _=>trivial⟩;have iha:=q0.m Γ G;intro c g ρ k h;obtain⟨r,h,hk⟩:=vh h;simp only[j4k]at h;cases e:truth (ev Γ G _ (j9 ρ)) with
 |none=>rw[e]at h;cases h
 |some m=>rw[e]at h;cases h;cases hk;exact DB.not (iha c g ρ m e)
theorem Tr.bval:∀{X:Cx}{a':Ex}{a:ao}(he:∀whole,fR a X.env whole=(do let v <-whole;g6 a.pos;bL [v] (truthy v))),Tr X a' (.e a)->Tr X a' (.b a):=by intro _ _ _ he q0;refine⟨λΓ G=>?_,λ_ _ _ _ _ _ _=>trivial⟩;have iha:=q0.m Γ G;intro c g ρ k h;obtain⟨r,h,hk⟩:=vh h;exact DB.val ((iha c g ρ r h).bl hk).toT he
theorem Tr.ite:∀{X:Cx}{c' a' b':Ex}{c a b:ao}{p:aO},Tr X c' (.b c)->Tr X a' (.e a)->Tr X b' (.e b)->Tr X (.ite c' a' b') (.e (.IfExp c a b p)):=by
 intro _ _ _ _ _ _ _ _ q0 q1 q2;refine⟨λΓ G=>?_,λ_ _ _ _ _ _ h=>nomatch h⟩;have ihc:=q0.m Γ G;have iha:=q1.m Γ G;have ihb:=q2.m Γ G;intro c g ρ r h;simp only[jks]at h;split at h
 .rename_i e;split at h
  .rename_i x ex;cases es:x.st with
   |none=>rw[es]at h;cases h
   |some d=>rw[es]at h;cases h;exact(DE.ite (d':=d) (ihc c g ρ a6 e) (λ_=>(iha c g ρ x ex).toE es) λz=>by cases z).eq (by simp)
  .cases h
 .rename_i e;split at h
  .rename_i x ex;cases es:x.st with
   |none=>rw[es]at h;cases h
   |some d=>rw[es]at h;cases h;exact(DE.ite (d:=d) (ihc c g ρ a4 e) (λz=>by cases z) λ_=>(ihb c g ρ x ex).toE es).eq (by simp)
  .cases h
 .cases h
theorem Tr.nil:∀{X:Cx},Tr X .nil (.a []):=by intro _;refine⟨λΓ G=>?_,λ_ _ _ _ _ _ h=>nomatch h⟩;intro c g ρ rs h;simp only[Mu]at h;cases h;exact .nil
theorem Tr.cons:∀{X:Cx}{a' b':Ex}{a:ao}{es:List ao}(hs:a9 (a::es) X.env=(a4,aA a X.env)::a9 es X.env),Tr X a' (.e a)->Tr X b' (.a es)->Tr X (.cons a' b') (.a (a::es)):=by
 intro _ _ _ _ _ hs q0 q1;refine⟨λΓ G=>?_,λΓ G=>?_⟩
 .have iha:=q0.m Γ G;have ihb:=q1.m Γ G;intro c g ρ rs h;simp only[Ft,consW]at h;split at h
  .rename_i x xs ex exs;cases h;exact .cons hs (iha c g ρ x ex) (ihb c g ρ xs exs)
  .cases h
 .skip
  intro c g ρ y h;rw[er]at h;split at h
  .rename_i x ex;cases h;exact DXA.head (q0.x Γ G c g ρ _ ex) hs
  split at h
  .rename_i r ez;exact DXA.tail (q0.m Γ G c g ρ r ez).toT (q1.x Γ G c g ρ y h) hs
  .cases h
theorem Tr.tup:∀{X:Cx}{es':Ex}{es:List ao}{n:Nat}{p:aO},Tr X es' (.a es)->Tr X (.tup es') (.e (.Tuple es n p)):=by
 intro _ _ _ _ _ q0;refine⟨λΓ G=>?_,λ_ _ _ _ _ _ h=>nomatch h⟩;have iha:=q0.m Γ G;intro c g ρ r h;simp only[jko,Ue]at h;split at h
 .rename_i rs ers;split at h
  .rename_i ds hds;obtain⟨z,q⟩:=q8 h;cases q;exact DE.tup (n:=0) ((iha c g ρ rs ers).toA hds) (zj z)
  .cases h
 .cases h
theorem Tr.lst:∀{X:Cx}{es':Ex}{es:List ao}{p:aO},Tr X es' (.a es)->Tr X (.lst es') (.e (.List es p)):=by
 intro _ _ _ _ q0;refine⟨λΓ G=>?_,λ_ _ _ _ _ _ h=>nomatch h⟩;have iha:=q0.m Γ G;intro c g ρ r h;simp only[jkr,Zc]at h;split at h
 .rename_i rs ers;split at h
  .rename_i ds hds;obtain⟨z,q⟩:=q8 h;cases q;exact DO.lst ((iha c g ρ rs ers).toA hds) (zj z)
  .cases h
 .cases h
theorem Tr.ix:∀{X:Cx}{a' b':Ex}{a b:ao}{p:aO}(hs:Yg b),Tr X a' (.e a)->Tr X b' (.e b)->Tr X (.ix a' b') (.e (.Subscript a b p)):=by
 intro _ _ _ _ _ _ hs q0 q1;refine⟨λΓ G=>?_,λΓ G c g ρ y h σ H Q R k=>(N8 j6c peS peS hs).to (q0.x Γ G c g ρ y (by rw[er]at h;exact h) σ H _ R k)⟩;have iha:=q0.m Γ G;have ihb:=q1.m Γ G;intro c g ρ r h;simp only[jm5,ixW]at h;split at h
 .rename_i x y ex ey;split at h
  .rename_i s l i hx hy;cases z:atI l i with
   |none=>rw[z]at h;cases h
   |some d=>rw[z]at h;cases h;exact DE.ixM ((iha c g ρ x ex).toM hx) (hy▸(ihb c g ρ y ey).toT) z hs
  .rename_i i hx hy;split at h
   .rename_i y' ed;split at h
    .rename_i hl;cases z:atI y'.cps.toList i with
     |none=>rw[z]at h;cases h
     |some d=>rw[z]at h;cases h;exact DE.ixC (ed▸(iha c g ρ x ex).toT) (hy▸(ihb c g ρ y ey).toT) (zj hl) z hs
    .cases h
   .cases h
  .cases h
 .cases h
theorem Tr.oN:∀{X:Cx},Tr X .nil (.o a7):=by intro _;refine⟨λΓ G=>?_,λ_ _ _ _ _ _ _=>trivial⟩;intro c g ρ o h;simp only[Mu,Qp]at h;cases h;exact DP.none
theorem Tr.oS:∀{X:Cx}{a':Ex}{a:ao},Tr X a' (.e a)->Tr X (.cons a' .nil) (.o (a3 a)):=by
 intro _ _ _ q0;refine⟨λΓ G=>?_,λ_ _ _ _ _ _ _=>trivial⟩;have iha:=q0.m Γ G;intro c g ρ o h;simp only[Ft,Mu,consW]at h;split at h
 .rename_i x xs ex exs;cases exs;simp only[Qp]at h;split at h
  .rename_i i ei;cases h;exact DP.some (ei▸(iha c g ρ x ex).toT)
  .cases h
 .cases h
theorem Tr.sl:∀{X:Cx}{a' l' h':Ex}{a:ao}{lo hi:Option ao}{p p2:aO},Tr X a' (.e a)->Tr X l' (.o lo)->Tr X h' (.o hi)->Tr X (.sl a' l' h') (.e (.Subscript a (.Slice lo hi a7 p2) p)):=by
 intro _ _ _ _ _ _ _ _ _ q0 q1 q2;refine⟨λΓ G=>?_,λ_ _ _ _ _ _ h=>nomatch h⟩;have iha:=q0.m Γ G;have ihl:=q1.m Γ G;have ihh:=q2.m Γ G;intro c g ρ r h;simp only[jm3]at h;split at h
 .rename_i x l hh ex el eh;split at h
  .rename_i ds e;cases h;exact DO.sliceM ((iha c g ρ x ex).toM e) (ihl c g ρ l el) (ihh c g ρ hh eh)
  .rename_i ds e;split at h
   .cases h
   .rename_i z;cases h;exact DE.sliceM ((iha c g ρ x ex).toM e) (ihl c g ρ l el) (ihh c g ρ hh eh) z
  .split at h
   .rename_i y' ed;obtain⟨z,q⟩:=q8 h;cases q;exact DE.sliceS (ed▸(iha c g ρ x ex).toT) (ihl c g ρ l el) (ihh c g ρ hh eh) (zj z)
   .cases h
 .cases h
theorem Tr.call:∀{X:Cx}{f:aj}{es':Ex}{e:ao}{es:List ao}{p p2:aO}(hg:Gl X f) (hdb:(f==k8q)=a4) (he:a9 (e::es) X.env=(a4,aA e X.env)::a9 es X.env) (hpl:(aY p2 (a9 es X.env)).any (·.1)=a4),Tr X es' (.a (e::es))->Tr X (.call f es') (.e (.Call (.Name f p) (e::es) [] p2)):=by
 intro _ f _ _ _ _ _ hg hdb he hpl q0;refine⟨λΓ G=>?_,λΓ G=>?_⟩
 .have iha:=q0.m Γ G;intro c g ρ r h;simp only[jih,Qu]at h;split at h
  .rename_i rs ers;exact j4e g hg hdb he hpl (iha c g ρ rs ers) h
  .cases h
 .skip
  intro c g ρ y h;rw[er]at h;split at h
  .rename_i x ex;split at h
   .rename_i hz;cases h;obtain⟨d,hd⟩:=Pg.mp hz;obtain⟨fa,hfa,hk⟩:=c.fn _ d hd;exact DX.args (q0.x Γ G c g ρ _ ex) hg hdb hfa hk he hpl
   .cases h
  split at h
  .rename_i rs ers;split at h
   .rename_i z ez;split at h
    .rename_i hz;cases h;have q:=g f (rs.map Rk.d);rw[ez]at q;obtain⟨d,hd⟩:=Pg.mp hz;obtain⟨_,o,ho⟩:=c.ec _ d hd;exact DX.call q (q0.m Γ G c g ρ rs ers).toT ⟨rfl,rfl⟩ (W.mg_of c.kin c.ns ho) hg hdb he hpl
    .cases h
   .cases h
  .cases h
theorem Tr.che:∀{X:Cx}{a' b' c':Ex}{a b c:ao}{p:aO}(hm:kY [.LtE,.LtE] [b,c]=a4),Tr X a' (.e a)->Tr X b' (.e b)->Tr X c' (.e c)->Tr X (.che a' b' c') (.e (.Compare a [.LtE,.LtE] [b,c] p)):=by
 intro _ _ _ _ _ _ _ _ hm q0 q1 q2;refine⟨λΓ G=>?_,λ_ _ _ _ _ _ h=>nomatch h⟩;have iha:=q0.m Γ G;have ihb:=q1.m Γ G;have ihc:=q2.m Γ G;intro c g ρ r h;simp only[jkt,j1b]at h;split at h
 .rename_i x y z ex ey ez;split at h
  .rename_i i j k ei ej ek;cases h;exact DE.che (ei▸(iha c g ρ x ex).toT) (ej▸(ihb c g ρ y ey).toT) (ek▸(ihc c g ρ z ez).toT) hm
  .cases h
 .cases h
theorem Tr.maxD:∀{X:Cx}{a':Ex}{a:ao}{n:Nat}{p p1 pk pos:aO}(hq:X.calm=a6)(hg:Gl X "max") (hs:a9 [a] X.env=[(a4,aA a X.env)]),Tr X a' (.e a)->Tr X (.maxD a') (.e (.Call (.Name "max" p) [a] [⟨a3 "default",.Constant (.int 0) n p1,pk⟩] pos)):=by
 intro _ _ _ _ _ _ _ _ hq hg hs q0;refine⟨λΓ G=>?_,λ_ _ _ _ _ _ h=>nomatch h⟩;have iha:=q0.m Γ G;intro c g ρ r h;simp only[jia,Ma]at h;split at h
 .rename_i x ex;split at h
  .rename_i l el;split at h
   .rename_i ns en;cases h;exact DE.maxD hq (c.bt _ (by decide)) hg (by have z:=(iha c g ρ x ex).toT;rw[el,Ju en]at z;exact z) hs
   .cases h
  .cases h
 .cases h
theorem Tr.callD:∀{X:Cx}{f:aj}{es':Ex}{e:ao}{es:List ao}{p p2:aO}(hf:f∈j4a) (hg:Gl X f) (hdb:(f==k8q)=a4) (he:a9 (e::es) X.env=(a4,aA e X.env)::a9 es X.env) (hpl:(aY p2 (a9 es X.env)).any (·.1)=a4),Tr X es' (.a (e::es))->Tr X (.callD f es') (.e (.Call (.Name f p) (e::es) [] p2)):=by
 intro _ f _ _ _ _ _ hf hg hdb he hpl q0;refine⟨λΓ G=>?_,λ_ _ _ _ _ _ h=>nomatch h⟩;have iha:=q0.m Γ G;intro c g ρ r h;simp only[jed]at h;split at h
 .rename_i rs ers;split at h
  .rename_i ds eds;split at h
   .rename_i d ed;cases h;have q:=g f (ds++[.non]);rw[ed]at q;exact DE.callD q hf ((iha c g ρ rs ers).toA eds) ⟨rfl,rfl⟩ hg hdb he hpl
   .cases h
  .cases h
 .cases h
theorem Tr.max1:∀{X:Cx}{es':Ex}{e:ao}{p p2:aO}(hq:X.calm=a6)(hg:Gl X "max"),Tr X es' (.a [e])->Tr X (.blt .max es') (.e (.Call (.Name "max" p) [e] [] p2)):=by
 intro _ _ _ _ _ hq hg q0;refine⟨λΓ G=>?_,λ_ _ _ _ _ _ h=>nomatch h⟩;have iha:=q0.m Γ G;intro c g ρ r h;simp only[Y7,zx]at h;split at h
 .rename_i rs ers;cases e:Z3 _ rs with
  |none=>rw[e]at h;cases h
  |some x=>rw[e]at h;cases h;exact Jf (f:=.max) c (λ_=>hq) hg e (iha c g ρ rs ers)
 .cases h
theorem Tr.max:∀{X:Cx}{es':Ex}{e f:ao}{p p2:aO}(hq:X.calm=a6)(hg:Gl X "max"),Tr X es' (.a [e,f])->Tr X (.blt .max es') (.e (.Call (.Name "max" p) [e,f] [] p2)):=by
 intro _ _ _ _ _ _ hq hg q0;refine⟨λΓ G=>?_,λ_ _ _ _ _ _ h=>nomatch h⟩;have iha:=q0.m Γ G;intro c g ρ r h;simp only[Y7,zx]at h;split at h
 .rename_i rs ers;cases e:Z3 _ rs with
  |none=>rw[e]at h;cases h
  |some x=>rw[e]at h;cases h;exact Jf (f:=.max) c (λ_=>hq) hg e (iha c g ρ rs ers)
 .cases h
theorem Tr.len:∀{X:Cx}{es':Ex}{e:ao}{p p2:aO}(hg:Gl X "len"),Tr X es' (.a [e])->Tr X (.blt .len es') (.e (.Call (.Name "len" p) [e] [] p2)):=by
 intro _ _ _ _ _ hg q0;refine⟨λΓ G=>?_,λ_ _ _ _ _ _ h=>nomatch h⟩;have iha:=q0.m Γ G;intro c g ρ r h;simp only[Y7,zx]at h;split at h
 .rename_i rs ers;cases e:Z3 _ rs with
  |none=>rw[e]at h;cases h
  |some x=>rw[e]at h;cases h;exact Jf (f:=.len) c (λz=>by rcases z with z|z|z|z|z<;>cases z) hg e (iha c g ρ rs ers)
 .cases h
theorem Tr.all:∀{X:Cx}{es':Ex}{e:ao}{p p2:aO}(hq:X.calm=a6)(hg:Gl X "all"),Tr X es' (.a [e])->Tr X (.blt .all es') (.e (.Call (.Name "all" p) [e] [] p2)):=by
 intro _ _ _ _ _ hq hg q0;refine⟨λΓ G=>?_,λ_ _ _ _ _ _ h=>nomatch h⟩;have iha:=q0.m Γ G;intro c g ρ r h;simp only[Y7,zx]at h;split at h
 .rename_i rs ers;cases e:Z3 _ rs with
  |none=>rw[e]at h;cases h
  |some x=>rw[e]at h;cases h;exact Jf (f:=.all) c (λ_=>hq) hg e (iha c g ρ rs ers)
 .cases h
theorem Tr.tuple:∀{X:Cx}{es':Ex}{e:ao}{p p2:aO}(hg:Gl X "tuple"),Tr X es' (.a [e])->Tr X (.blt .tuple es') (.e (.Call (.Name "tuple" p) [e] [] p2)):=by
 intro _ _ _ _ _ hg q0;refine⟨λΓ G=>?_,λ_ _ _ _ _ _ h=>nomatch h⟩;have iha:=q0.m Γ G;intro c g ρ r h;simp only[Y7,zx]at h;split at h
 .rename_i rs ers;cases e:Z3 _ rs with
  |none=>rw[e]at h;cases h
  |some x=>rw[e]at h;cases h;exact Jf (f:=.tuple) c (λz=>by rcases z with z|z|z|z|z<;>cases z) hg e (iha c g ρ rs ers)
 .cases h
theorem Tr.list:∀{X:Cx}{es':Ex}{e:ao}{p p2:aO}(hg:Gl X "list"),Tr X es' (.a [e])->Tr X (.blt .list es') (.e (.Call (.Name "list" p) [e] [] p2)):=by
 intro _ _ _ _ _ hg q0;refine⟨λΓ G=>?_,λ_ _ _ _ _ _ h=>nomatch h⟩;have iha:=q0.m Γ G;intro c g ρ r h;simp only[Y7,zx]at h;split at h
 .rename_i rs ers;cases e:Z3 _ rs with
  |none=>rw[e]at h;cases h
  |some x=>rw[e]at h;cases h;exact Jf (f:=.list) c (λz=>by rcases z with z|z|z|z|z<;>cases z) hg e (iha c g ρ rs ers)
 .cases h
theorem Tr.min:∀{X:Cx}{es':Ex}{e f:ao}{p p2:aO}(hq:X.calm=a6)(hg:Gl X "min"),Tr X es' (.a [e,f])->Tr X (.blt .min es') (.e (.Call (.Name "min" p) [e,f] [] p2)):=by
 intro _ _ _ _ _ _ hq hg q0;refine⟨λΓ G=>?_,λ_ _ _ _ _ _ h=>nomatch h⟩;have iha:=q0.m Γ G;intro c g ρ r h;simp only[Y7,zx]at h;split at h
 .rename_i rs ers;cases e:Z3 _ rs with
  |none=>rw[e]at h;cases h
  |some x=>rw[e]at h;cases h;exact Jf (f:=.min) c (λ_=>hq) hg e (iha c g ρ rs ers)
 .cases h
theorem Tr.sum:∀{X:Cx}{es':Ex}{e:ao}{p p2:aO}(hq:X.calm=a6)(hg:Gl X "sum"),Tr X es' (.a [e])->Tr X (.blt .sum es') (.e (.Call (.Name "sum" p) [e] [] p2)):=by
 intro _ _ _ _ _ hq hg q0;refine⟨λΓ G=>?_,λ_ _ _ _ _ _ h=>nomatch h⟩;have iha:=q0.m Γ G;intro c g ρ r h;simp only[Y7,zx]at h;split at h
 .rename_i rs ers;cases e:Z3 _ rs with
  |none=>rw[e]at h;cases h
  |some x=>rw[e]at h;cases h;exact Jf (f:=.sum) c (λ_=>hq) hg e (iha c g ρ rs ers)
 .cases h
theorem Tr.intc:∀{X:Cx}{es':Ex}{e:ao}{p p2:aO}(hg:Gl X "int"),Tr X es' (.a [e])->Tr X (.blt .int es') (.e (.Call (.Name "int" p) [e] [] p2)):=by
 intro _ _ _ _ _ hg q0;refine⟨λΓ G=>?_,λ_ _ _ _ _ _ h=>nomatch h⟩;have iha:=q0.m Γ G;intro c g ρ r h;simp only[Y7,zx]at h;split at h
 .rename_i rs ers;cases e:Z3 _ rs with
  |none=>rw[e]at h;cases h
  |some x=>rw[e]at h;cases h;exact Jf (f:=.int) c (λz=>by rcases z with z|z|z|z|z<;>cases z) hg e (iha c g ρ rs ers)
 .cases h
theorem Tr.join:∀{X:Cx}{a':Ex}{a:ao}{sep:aj}{n:Nat}{p0 p1 p2:aO}(hbase:bf (.Constant (.str sep) n p0) "join" X.env (aA (.Constant (.str sep) n p0) X.env)=aA (.Constant (.str sep) n p0) X.env) (hfew:((aY p2 (a9 [a] X.env)).all (λx=>!x.1)&&(cH p2 (bD [] X.env)).all (λx=>x.1.isSome)&&decide (([a]:List ao).length+([]:List bx).length+(if ([]:List bx).isEmpty then 0 else 1)<30))=a6) (hline:(p1.endLine==p2.line)=a6) (hs:a9 [a] X.env=(a4,aA a X.env)::a9 [] X.env),Tr X a' (.e a)->Tr X (.join sep a') (.e (.Call (.Attribute (.Constant (.str sep) n p0) "join" p1) [a] [] p2)):=by
 intro _ _ _ _ _ _ _ _ hbase hfew hline hs q0;refine⟨λΓ G=>?_,λ_ _ _ _ _ _ h=>nomatch h⟩;have iha:=q0.m Γ G;intro c g ρ r h;simp only[jic,Mi]at h;split at h
 .rename_i x ex;split at h
  .rename_i l el;split at h
   .rename_i ts et;obtain⟨z,q⟩:=q8 h;cases q;have:=Wq et;subst this;exact DE.join (el▸(iha c g ρ x ex).toT) z hfew hbase hline hs
   .cases h
  .cases h
 .cases h
theorem Tr.lset:∀{X:Cx}{a':Ex}{a:ao}{p p1 p2 pos:aO}(hq:X.calm=a6)(hg:Gl X "len") (hg2:Gl X "set") (hs:a9 [a] X.env=[(a4,aA a X.env)]) (hs2:a9 [.Call (.Name "set" p1) [a] [] p2] X.env=[(a4,aA (.Call (.Name "set" p1) [a] [] p2) X.env)]),Tr X a' (.e a)->Tr X (.lset a') (.e (.Call (.Name "len" p) [.Call (.Name "set" p1) [a] [] p2] [] pos)):=by
 intro _ _ _ _ _ _ _ hq hg hg2 hs hs2 q0;refine⟨λΓ G=>?_,λ_ _ _ _ _ _ h=>nomatch h⟩;have iha:=q0.m Γ G;intro c g ρ r h;simp only[jib,Mg]at h;split at h
 .rename_i x ex;split at h
  .rename_i l el;split at h
   .rename_i ts et;obtain⟨z,q⟩:=q8 h;cases q;have:=Wq et;subst this;exact DE.lenSet (el▸(iha c g ρ x ex).toT) hq nofun (c.bt _ (by decide)) (c.bt _ (by decide)) hg hg2 hs hs2
   .cases h
  .cases h
 .cases h
theorem Tr.minK:∀{X:Cx}{f:aj}{a':Ex}{a:ao}{p p1 pk pos:aO}(hq:X.calm=a6)(hg:Gl X "min") (hgf:Gl X f) (hdf:(f==k8q)=a4) (hs:a9 [a] X.env=[(a4,aA a X.env)]),Tr X a' (.e a)->Tr X (.minK f a') (.e (.Call (.Name "min" p) [a] [⟨a3 "key",.Name f p1,pk⟩] pos)):=by
 intro _ f _ _ _ _ _ _ hq hg hgf hdf hs q0;refine⟨λΓ G=>?_,λ_ _ _ _ _ _ h=>nomatch h⟩;have iha:=q0.m Γ G;intro c g ρ r h;simp only[ji8,M8]at h;split at h
 .rename_i x ex;split at h
  .rename_i l el;cases e:Nf (λd=>j43 (Γ f [d])) l with
   |none=>rw[e]at h;cases h
   |some d =>
    rw[e]at h;cases h;obtain⟨kf,i,hk,hi,hl⟩:=j0i e;have hc:∀j e,l[j]?=a3 e->Cal _ f (spP _ λds' d'=>ds'=[e]/\d'=.int (kf j)):=λj e he=>by have q:=g f [e];rw[jcw (hk j e he)]at q;exact q
    obtain⟨_,fa,_,_,_,_,hm,_,_⟩:=(hc i _ hi).ex;exact DT.minK i hq (c.bt _ (by decide)) hg hm hgf hdf (el▸(iha c g ρ x ex).toT) hc hi hl hs
  .cases h
 .cases h
theorem Tr.enum:∀{X:Cx}{a':Ex}{a:ao}{es:List ao}{n:Nat}{p p2 pt:aO}(hg:Gl X "enumerate") (hs:a9 [a] X.env=[(a4,aA a X.env)]),Tr X a' (.e a)->Tr X (.enum a') (.i (.Tuple es n pt) (.Call (.Name "enumerate" p) [a] [] p2)):=by
 intro _ _ _ _ _ _ _ _ hg hs q0;refine⟨λΓ G=>?_,λ_ _ _ _ _ _ _=>trivial⟩;have iha:=q0.m Γ G;intro c g ρ ds h;simp only[jie,Mj]at h;split at h
 .rename_i x ex;have ha:=iha c g ρ x ex;split at h
  .rename_i l e1;cases h;exact DI.enum a6 (ha.toE e1) (c.bt _ (by decide)) hg hs
  .rename_i l e1;cases h;exact DI.enum a4 (ha.toE e1) (c.bt _ (by decide)) hg hs
  .cases h
 .cases h
theorem Tr.count:∀{X:Cx}{a' es':Ex}{a e:ao}{p1 p2:aO}(hbase:bf a "count" X.env (aA a X.env)=aA a X.env) (hfew:((aY p2 (a9 [e] X.env)).all (λx=>!x.1)&&(cH p2 (bD [] X.env)).all (λx=>x.1.isSome)&&decide (([e]:List ao).length+([]:List bx).length+(if ([]:List bx).isEmpty then 0 else 1)<30))=a6) (hline:(p1.endLine==p2.line)=a6),Tr X a' (.e a)->Tr X es' (.a [e])->Tr X (.meth .count a' es') (.e (.Call (.Attribute a "count" p1) [e] [] p2)):=by
 intro _ _ _ _ _ _ _ hbase hfew hline q0 q1;refine⟨λΓ G=>?_,λ_ _ _ _ _ _ h=>nomatch h⟩;have iha:=q0.m Γ G;have ihb:=q1.m Γ G;intro c g ρ r h;simp only[ji9,U6]at h;split at h
 .rename_i x rs ex ers;obtain⟨y,e,hy,hs⟩:=(ihb c g ρ rs ers).one;subst e;simp only[Ip]at h;split at h
  .rename_i l el;split at h
   .rename_i z;cases h;exact DE.countT c.un' (el▸(iha c g ρ x ex).toT) hy.toT nofun nofun hbase hfew hline hs
   .cases h
  .rename_i l el;split at h
   .rename_i z;cases h;exact DE.countL c.un' (el▸(iha c g ρ x ex).toT) hy.toT nofun nofun hbase hfew hline hs
   .cases h
  .cases h
 .cases h
theorem Tr.isi1:∀{X:Cx}{a':Ex}{a:ao}{T:aj}{c:String}{p p1 p2:aO}(hT:T∈Vq) (hv:bh T=a3 (.type c)) (hg:Gl X "isinstance") (hg2:Gl X T) (hn:T ≠ "__name__") (hd:(T==k8q)=a4) (hs:a9 [a,.Name T p1] X.env=(a4,aA a X.env)::a9 [.Name T p1] X.env),Tr X a' (.e a)->Tr X (.isi a' [c]) (.e (.Call (.Name "isinstance" p) [a,.Name T p1] [] p2)):=by
 intro _ _ _ _ _ _ _ _ hT hv hg hg2 hn hd hs q0;refine⟨λΓ G=>?_,λ_ _ _ _ _ _ h=>nomatch h⟩;have iha:=q0.m Γ G;intro c g ρ r h;simp only[jax,Dz]at h;split at h
 .rename_i x ex;cases e:qe x.d _ with
  |none=>rw[e]at h;cases h
  |some k =>
   rw[e]at h;cases h;refine DE.isi1 (iha c g ρ x ex).toT (j2w e) (c.bt _ (by decide)) (c.bt _ hT) hv ?_ hg hg2 hn hd hs rfl rfl;simp only[qe]at e;split at e
   .rename_i k1 k2 e1 e2;cases e2;cases e;rw[gG];exact j2s e1
   .cases e
 .cases h
theorem Tr.isi2:∀{X:Cx}{a':Ex}{a:ao}{T U:aj}{c d:String}{n:Nat}{p p1 p2 p3 p4:aO} (hT:T∈Vq) (hU:U∈Vq) (hv:bh T=a3 (.type c)) (hw:bh U=a3 (.type d)) (hg:Gl X "isinstance") (hg1:Gl X T) (hg2:Gl X U) (hn:T ≠ "__name__") (hd:(T==k8q)=a4) (hn2:U ≠ "__name__") (hd2:(U==k8q)=a4) (hs:a9 [a,.Tuple [.Name T p1,.Name U p3] n p4] X.env=(a4,aA a X.env)::a9 [.Tuple [.Name T p1,.Name U p3] n p4] X.env),Tr X a' (.e a)->Tr X (.isi a' [c,d]) (.e (.Call (.Name "isinstance" p) [a,.Tuple [.Name T p1,.Name U p3] n p4] [] p2)):=by
 intro _ _ _ _ _ _ _ _ _ _ _ _ _ hT hU hv hw hg hg1 hg2 hn hd hn2 hd2 hs q0;refine⟨λΓ G=>?_,λ_ _ _ _ _ _ h=>nomatch h⟩;have iha:=q0.m Γ G;intro c g ρ r h;simp only[jax,Dz]at h;split at h
 .rename_i x ex;cases e:qe x.d _ with
  |none=>rw[e]at h;cases h
  |some k =>rw[e]at h;cases h;exact DE.isi2 (iha c g ρ x ex).toT (j2w e) (c.bt _ (by decide)) (c.bt _ hT) (c.bt _ hU) hv hw (j0m e) hg hg1 hg2 hn hd hn2 hd2 hs rfl rfl rfl rfl
 .cases h
theorem Tr.callV:∀{X:Cx}{i:Nat}{y:aj}{es':Ex}{e:ao}{es:List ao}{p p2:aO} (hN:X.N[i]?=a3 y) (hv:Vis X.env.scope y) (hd:(y==k8q)=a4) (hcd:(y==k8r)=a4) (he:a9 (e::es) X.env=(a4,aA e X.env)::a9 es X.env) (hpl:(aY p2 (a9 es X.env)).any (·.1)=a4),Tr X es' (.a (e::es))->Tr X (.callV i es') (.e (.Call (.Name y p) (e::es) [] p2)):=by
 intro _ i y es' e es p p2 hN hv hd hcd he hpl q0;refine⟨λΓ G=>?_,λ_ _ _ _ _ _ h=>nomatch h⟩;have iha:=q0.m Γ G;intro c g ρ r h;simp only[jec,Ux]at h;split at h
 .rename_i x cs rs ei ers;split at h
  .rename_i ds eds;split at h
   .rename_i nf;have q:=g (jx x) (cs++ds);cases z:Γ (jx x) (cs++ds) with
    |lval d =>rw[z]at h q;cases h;obtain⟨k,hr,lk⟩:=q x rfl;exact DE.callV lk hr (Yw ei) ((iha c g ρ rs ers).toA eds) nf ⟨rfl,rfl⟩ hN hv hd hcd he hpl
    |val d=>rw[z]at h;cases h
    |fresh l=>rw[z]at h;cases h
    |err x=>rw[z]at h;cases h
    |no=>rw[z]at h;cases h
   .cases h
  .cases h
 .cases h
theorem Tr.dget:∀{X:Cx}{a' b':Ex}{a b:ao}{p:aO}(hs:Yg b),Tr X a' (.e a)->Tr X b' (.e b)->Tr X (.dget a' b') (.e (.Subscript a b p)):=by
 intro _ _ _ _ _ _ hs q0 q1;refine⟨λΓ G=>?_,λ_ _ _ _ _ _ h=>nomatch h⟩;have iha:=q0.m Γ G;have ihb:=q1.m Γ G;intro c g ρ r h;simp only[jif,Ml]at h;split at h
 .rename_i ks ds y ex ey;split at h
  .rename_i k ek;cases e:J6 ks ds k with
   |none=>rw[e]at h;cases h
   |some d=>rw[e]at h;cases h;exact DE.dget c.un' ((iha c g ρ (.e (.dct ks ds)) ex).toE rfl) (Fx ek▸(ihb c g ρ y ey).toT) e hs
  .cases h
 .cases h
theorem Tr.dvals:∀{X:Cx}{a':Ex}{a:ao}{p p1 p2 pos:aO}(hq:X.calm=a6)(hg:Gl X "tuple") (hbase:bf a "values" X.env (aA a X.env)=aA a X.env) (hline:(p1.endLine==p2.line)=a6) (hs2:a9 [.Call (.Attribute a "values" p1) [] [] p2] X.env=[(a4,aA (.Call (.Attribute a "values" p1) [] [] p2) X.env)]),Tr X a' (.e a)->Tr X (.dvals a') (.e (.Call (.Name "tuple" p) [.Call (.Attribute a "values" p1) [] [] p2] [] pos)):=by
 intro _ _ _ _ _ _ _ hq hg hbase hline hs2 q0;refine⟨λΓ G=>?_,λ_ _ _ _ _ _ h=>nomatch h⟩;have iha:=q0.m Γ G;intro c g ρ r h;simp only[jeb,Rg]at h;split at h
 .rename_i ks ds ex;cases h;exact DE.tupVals ((iha c g ρ (.e (.dct ks ds)) ex).toE rfl) hq (c.bt _ (by decide)) hg hbase hline hs2
 .cases h
theorem Tr.minT:∀{X:Cx}{a':Ex}{a:ao}{p pos:aO}(hq:X.calm=a6)(hg:Gl X "min") (hs:a9 [a] X.env=[(a4,aA a X.env)]),Tr X a' (.e a)->Tr X (.minT a') (.e (.Call (.Name "min" p) [a] [] pos)):=by
 intro _ _ _ _ _ hq hg hs q0;refine⟨λΓ G=>?_,λ_ _ _ _ _ _ h=>nomatch h⟩;have iha:=q0.m Γ G;intro c g ρ r h;simp only[ji7,M7]at h;split at h
 .rename_i x ex;split at h
  .rename_i l el;split at h
   .rename_i ks ek;cases e:ks[aL (Jg ks) (ks.length-1)]? with
    |none=>rw[e]at h;cases h
    |some k =>rw[e]at h;cases h;exact DT.minT c.un' hq (c.bt _ (by decide)) hg (by have z:=(iha c g ρ x ex).toT;rw[el,Eg ek]at z;exact z) e hs
   .split at h
    .rename_i ks ek;cases e:ks[aL (Du ks) (ks.length-1)]? with
     |none=>rw[e]at h;cases h
     |some k =>rw[e]at h;cases h;exact DT.minP c.un' hq (c.bt _ (by decide)) hg (by have z:=(iha c g ρ x ex).toT;rw[el,j2i ek]at z;exact z) e hs
    .cases h
  .cases h
 .cases h
theorem Tr.c0:∀{X:Cx},Tr X .nil (.c []):=by intro _;refine⟨λΓ G=>?_,λ_ _ _ _ _ _ _=>trivial⟩;intro c g ρ;exact⟨λ_=>DTs.nil,λy k h=>by simp only[Mu]at h;cases h⟩
theorem Tr.c1:∀{X:Cx}{c':Ex}{c:ao},Tr X c' (.b c)->Tr X (.cons c' .nil) (.c [c]):=by
 intro _ _ _ q0;refine⟨λΓ G=>?_,λ_ _ _ _ _ _ _=>trivial⟩;have iha:=q0.m Γ G;intro c g ρ;refine⟨λh=>?_,λy k h hk=>DTs.one ?_⟩
 .simp only[Ft,Mu,consW]at h;split at h<;>cases h
 .simp only[Ft,Mu,consW]at h;split at h
  .rename_i x xs ex exs;cases exs;cases h;exact iha c g ρ k (by rw[ex];simp only[truth,hk])
  .cases h
theorem Tr.comp1:∀{X:Cx}{i:Nat}{y:aj}{py p:aO}{elt' it' c':Ex}{elt it:ao}{ifs:List ao} {scope:br} (hq:X.calm=a6) (hi:X.N[i]?=a3 y) (hl:Yx scope y=a6) (hkind:scope.kind=.function) (hok:Js scope X.env X.N [i]=a6) (hs:∀x,aH it X.env x=pure x),Tr X it' (.i (.Name y py) it)->(∀C s H fp pn,Tr (cCx X scope C s H fp pn) elt' (.e elt))->(∀C s H fp pn,Tr (cCx X scope C s H fp pn) c' (.c ifs))->Tr X (.comp [i] elt' it' c') (.e (.ListComp elt [⟨.Name y py,it,ifs,0⟩] scope p)):=by
 intro _ _ _ _ _ _ _ _ _ _ _ _ hq hi hl hkind hok hs q0 q1 q2;refine⟨λΓ G=>?_,λ_ _ _ _ _ _ h=>nomatch h⟩;have ihi:=q0.m Γ G;have ihe:=λC s H fp pn=>(q1 C s H fp pn).m Γ G;have ihc:=λC s H fp pn=>(q2 C s H fp pn).m Γ G;intro c g ρ r h;obtain⟨l,e,q⟩:=Fb hq c (λρ ds z=>ihi c g ρ ds z) hkind hok hs (λρ d ρ2 hb hun=>by
  simp only[zb]at hb
  cases hb
  have hu:=hun _ (xj.mpr rfl)
  exact⟨_,jl,Wk.set hu,Vf hu,λC s H fp pn=>DG.name _ c.nd hi (Ru hl) (Bq hl)⟩)
  (λC s H fp pn ρ r z=>ihe C s H fp pn c.comp g.comp ρ r z) (λC s H fp pn ρ=>ihc C s H fp pn c.comp g.comp ρ) h
 subst e;exact q
theorem Tr.comp2:∀{X:Cx}{i j:Nat}{x y:aj}{px py pt p:aO}{n:Nat}{elt' it' c':Ex}{elt it:ao} {ifs:List ao} {scope:br} (hq:X.calm=a6) (hij:i≠j) (hi:X.N[i]?=a3 x) (hj:X.N[j]?=a3 y) (hl:Yx scope x=a6) (hl':Yx scope y=a6) (hkind:scope.kind=.function) (hok:Js scope X.env X.N [i,j]=a6) (hs:∀x,aH it X.env x=pure x),Tr X it' (.i (.Tuple [.Name x px,.Name y py] n pt) it)->(∀C s H fp pn,Tr (cCx X scope C s H fp pn) elt' (.e elt))->(∀C s H fp pn,Tr (cCx X scope C s H fp pn) c' (.c ifs))->Tr X (.comp [i,j] elt' it' c') (.e (.ListComp elt [⟨.Tuple [.Name x px,.Name y py] n pt,it,ifs,0⟩] scope p)):=by
 intro _ i j _ _ _ _ _ _ _ _ _ _ _ _ _ _ hq hij hi hj hl hl' hkind hok hs q0 q1 q2;refine⟨λΓ G=>?_,λ_ _ _ _ _ _ h=>nomatch h⟩;have ihi:=q0.m Γ G;have ihe:=λC s H fp pn=>(q1 C s H fp pn).m Γ G;have ihc:=λC s H fp pn=>(q2 C s H fp pn).m Γ G;intro c g ρ r h;obtain⟨l,e,q⟩:=Fb hq c (λρ ds z=>ihi c g ρ ds z) hkind hok hs (λρ d ρ2 hb hun=>by
  simp only[zb]at hb
  split at hb
  .rename_i a b
   cases hb
   have hu:=hun _ (xq ..)
   have hu':=hun _ (xf _ (xj.mpr rfl))
   have h1:(ρ.set i (.val a))[j]?=a3 Sl.un:=by rw[zq hij];exact hu'
   exact⟨(ρ.set i (.val a)).set j (.val b),by rw[jl,jl];rfl,λK σ H R=>Wk.set hu K σ H (Wk.set h1 K σ H R),by rw[Vf h1,Vf hu],
    λC s H fp pn=>DG.pair _ _ hij c.nd hi hj (Ru hl) (Ru hl') (Bq hl) (Bq hl') hq⟩
  .cases hb)
  (λC s H fp pn ρ r z=>ihe C s H fp pn c.comp g.comp ρ r z) (λC s H fp pn ρ=>ihc C s H fp pn c.comp g.comp ρ) h
 subst e;exact q
theorem Tr.seq:∀{X:Cx}{a':Ex}{tg a:ao},Tr X a' (.e a)->Tr X (.seq a') (.i tg a):=by
 intro _ _ _ _ q0;refine⟨λΓ G=>?_,λ_ _ _ _ _ _ _=>trivial⟩;have iha:=q0.m Γ G;intro c g ρ ds h;simp only[jkp,Oe]at h;split at h
 .rename_i l e;cases h;exact DI.lst (iha c g ρ _ e)
 .rename_i l e;cases h;exact DI.tup (iha c g ρ _ e)
 .rename_i l e;cases h;exact DI.lst (DO.toE (iha c g ρ _ e))
 .rename_i y e;obtain⟨z,q⟩:=q8 h;cases q;exact DI.str (iha c g ρ _ e).toT z
 .cases h
theorem Tr.range:∀{X:Cx}{es':Ex}{tg:ao}{es:List ao}{p p2:aO}(hg:Gl X "range"),Tr X es' (.a es)->Tr X (.range es') (.i tg (.Call (.Name "range" p) es [] p2)):=by
 intro _ _ _ _ _ _ hg q0;refine⟨λΓ G=>?_,λ_ _ _ _ _ _ _=>trivial⟩;have iha:=q0.m Γ G;intro c g ρ ds h;simp only[jea,Wu]at h;split at h
 .rename_i x ex;have q:=iha c g ρ _ ex;cases q with|cons hs hx t =>
  cases t;split at h
  .rename_i n en;obtain⟨z,q⟩:=q8 h;cases q;exact DI.range1 (en▸hx.toT) (c.bt _ (by decide)) z.1 z.2 hg hs
  .cases h
 .rename_i x y ex;have q:=iha c g ρ _ ex;cases q with|cons hs hx t =>
  cases t with|cons hs2 hy t2 =>
  cases t2;split at h
  .rename_i m n em en;obtain⟨z,q⟩:=q8 h;cases q;exact DI.range2 (em▸hx.toT) (en▸hy.toT) (c.bt _ (by decide)) z.1 z.2.1 z.2.2.1 z.2.2.2 hg (by rw[hs,hs2];rfl) hs2 hs
  .cases h
 .cases h
section
variable{Γ:aj->List D->Rc}{G:aj->Option D}{X:Cx}
theorem sound{t:Ex}{nd:Nd}(h:Tr X t nd):Cok X G->Gok X Γ->jip Γ G X t nd:=h.m Γ G
theorem Es{t:Ex}{nd:Nd}(h:Tr X t nd):Cok X G->Gok X Γ->∀ρ y,er Γ G t (j9 ρ)=a3 y->XM X ρ y nd:=h.x Γ G
end
inductive Sx where
 |nop
 |seq (a b:Sx)
 |set (i:Nat) (e:Ex)
 |mov (i j:Nat)
 |expr (e:Ex)
 |ret (e:Ex)
 |retV (i:Nat)
 |ife (c:Ex) (a b:Sx)
 |loop (is:List Nat) (it:Ex) (body:Sx)
 |app (i:Nat) (e:Ex)
 |ext (i:Nat) (e:Ex)
 |put (i:Nat) (k e:Ex)
 |fgt (i:Nat)
 |keep (i:Nat)
 |dcp (i j:Nat) (k e:Ex)
 |taken (h q:Nat) (a b c t:Ex)
 |unp (i j:Nat) (e:Ex)
 |dmake (x t y:Nat) (it e:Ex)
 |ioN (es e:Ex)
 |retL (x:aj) (is:List Nat)
 |retC (f x:aj) (a b:Ex) (is:List Nat)
 |nmake (x t y:Nat) (it e1 e2:Ex)
 |pop3 (i j k w:Nat)
 |apop (i w:Nat) (e:Ex)
 |wmake (x t:Nat) (it e:Ex)
 |fail
inductive So where
 |next (ρ:En)
 |ret (r:Rc)
 |brk (ρ:En)
 |cnt (ρ:En)
 |err (x:aj) (ρ:En)
 |no
noncomputable def orE(o:So)(x:Option aj)(ρ:En):So:=match o with
 |.no=>match x with
  |some y=>.err y ρ
  |none=>.no
 |o=>o
noncomputable def vp(f:D->En->So):List D->En->So
 |[],ρ=>.next ρ
 |d::ds,ρ=>match f d ρ with
  |.next ρ'=>vp f ds ρ'
  |.cnt ρ'=>vp f ds ρ'
  |.brk ρ'=>.next ρ'
  |.ret r=>.ret r
  |.err x ρ'=>.err x ρ'
  |.no=>.no
noncomputable def j4p(c:En->Option Bool)(f:En->So):Nat->En->So
 |0,_=>.no
 |n+1,ρ=>match c ρ with
  |some a4=>.next ρ
  |some a6=>match f ρ with
   |.next ρ'=>j4p c f n ρ'
   |.cnt ρ'=>j4p c f n ρ'
   |.brk ρ'=>.next ρ'
   |.ret r=>.ret r
   |.err x ρ'=>.err x ρ'
   |.no=>.no
  |none=>.no
noncomputable def stOf:Option W->Option D
 |some (.v x)=>x.st
 |_=>a7
noncomputable def j48(f:En->Option D)(t y:Nat):List D->En->List (List Int)->List D->Option (List (List Int)×List D)
 |[],_,ks,vs=>a3 (ks,vs)
 |d::ds,ρ,ks,vs=>match d with
  |.tup l=>match intsOf l,f (ρ.set t (.val d)) with
   |some k,a3 d'=>if d'.isNon=a6 then j48 f t y ds ((ρ.set t (.val d)).set y (.val d')) ks vs
    else if ks.contains k=a4/\ks.length<ar then j48 f t y ds ((ρ.set t (.val d)).set y (.val d')) (ks++[k]) (vs++[d'])else a7
   |_,_=>a7
  |_=>a7
noncomputable def Vh(f1 f2:En->Option D)(x t y:Nat):List D->En->List (List Int)->List Int->Option (List (List Int)×List Int)
 |[],_,ks,ns=>a3 (ks,ns)
 |d::ds,ρ,ks,ns=>match d with
  |.tup l=>match intsOf l,f1 (ρ.set t (.val d)) with
   |some k,a3 d1=>match f2 (((ρ.set t (.val d)).set y (.val d1)).set x (.val (.dct ks (ns.map D.int)))) with
    |some (.int n)=>if ks.contains k=a4/\ks.length<ar then Vh f1 f2 x t y ds ((ρ.set t (.val d)).set y (.val d1)) (ks++[k]) (ns++[n])else a7
    |_=>a7
   |_,_=>a7
  |_=>a7
noncomputable def jaa(f2:En->Option D)(x t:Nat):List D->En->List (List Int)->List Int->Option (List (List Int)×List Int)
 |[],_,ks,ns=>a3 (ks,ns)
 |d::ds,ρ,ks,ns=>match d with
  |.tup l=>match intsOf l,f2 ((ρ.set t (.val d)).set x (.val (.dct ks (ns.map D.int)))) with
   |some k,a3 (.int n)=>if ks.contains k=a4/\ks.length<ar then jaa f2 x t ds (ρ.set t (.val d)) (ks++[k]) (ns++[n])else a7
   |_,_=>a7
  |_=>a7
noncomputable def Qc(ρ:En):List Nat->Option (List D)
 |[]=>a3 []
 |i::is=>match ρ[i]?,Qc ρ is with
  |some (.val d),a3 ds=>a3 (d::ds)
  |_,_=>a7
noncomputable def Od(i:Nat)(w:Option W)(ρ:En):So:=match w with
 |some (.v (.o l))=>.next (ρ.set i (.own l))
 |some (.v x)=>match x.st with
  |some d=>.next (ρ.set i (.val d))
  |none=>.no
 |_=>.no
noncomputable def retS(w:Option W):So:=match w with
 |some (.v (.o l))=>.ret (.fresh l)
 |some (.v x)=>.ret (.val x.d)
 |_=>.no
noncomputable def Ry(s:Option Sv):So:=match s with
 |some (.own l)=>.ret (.fresh l)
 |some (.val d)=>.ret (.val d)
 |_=>.no
noncomputable def Dp(i j:Nat)(s:Option Sv)(ρ:En):So:=match s with
 |some (.own l)=>if i=j then .no else .next ((ρ.set j .un).set i (.own l))
 |some (.val d)=>.next (ρ.set i (.val d))
 |_=>.no
noncomputable def j0w(w:Option W)(ρ:En):So:=match w with
 |some (.v _)=>.next ρ
 |_=>.no
noncomputable def Cz(i:Nat)(s:Option Sv)(w:Option W)(ρ:En):So:=match s,w with
 |some (.own l),a3 (.v x)=>match x.st with
  |some d=>if l.length<ar then .next (ρ.set i (.own (l++[d])))else .no
  |none=>.no
 |_,_=>.no
noncomputable def Cm(i:Nat)(s:Option Sv)(w:Option W)(ρ:En):So:=match s,w with
 |some (.own l),a3 (.v (.o m))=>if jq (l.length+m.length)=a6 then .next (ρ.set i (.own (l++m)))else .no
 |_,_=>.no
noncomputable def Dl(i:Nat)(s:Option Sv)(k w:Option W)(ρ:En):So:=match s,k,w with
 |some (.own l),a3 (.v y),a3 (.v x)=>match y.d,x.st with
  |.int j,a3 d=>match ixN l.length j with
   |some n=>.next (ρ.set i (.own (l.set n d)))
   |none=>.no
  |_,_=>.no
 |_,_,_=>.no
noncomputable def Fw(i j:Nat)(d:Option D)(ρ:En):So:=match d with
 |some (.tup [d,d'])=>if i=j then .no else .next ((ρ.set i (.val d)).set j (.val d'))
 |_=>.no
noncomputable def Nj(i:Nat)(v:Option Sv)(ρ:En):So:=match v with
 |some (.own l)=>.next (ρ.set i (.val (.lst l)))
 |some (.val _)=>.next ρ
 |_=>.no
noncomputable def jm0(i j:Nat)(v:Option Sv)(k e:Option W)(ρ:En):So:=if i≠j/\i<ρ.length then match v with
  |some (.val (.sct kvs))=>match k,e with
   |some (.v y),a3 (.v x)=>match y.d,x.d with
    |.str z,.int n=>if kvs.length<ar then .next (ρ.set i (.val (.sct (dput kvs z n))))else .no
    |_,_=>.no
   |_,_=>.no
  |_=>.no
 else .no
noncomputable def N5(x:aj)(v:Option (List D)):So:=match v with
 |some ds=>.ret (.val (.fn x ds))
 |none=>.no
noncomputable def Il(r:Rc):So:=match r with
 |.val d=>if noFn d=a6 then .ret (.val d)else .no
 |_=>.no
noncomputable def N6(Γ:aj->List D->Rc)(f x:aj)(v:Option (List D))(a b:Option W):So:=match v,a,b with
 |some ds,a3 (.v u),a3 (.v v)=>Il (Γ f [u.d,v.d,.fn x ds])
 |_,_,_=>.no
noncomputable def popS(i j k w:Nat)(s:Option Sv)(ρ:En):So:=match s with
 |some (.own l)=>match l.getLast? with
  |some (.tup [a,b,c])=>.next ((((ρ.set w (.own l.dropLast)).set i (.val a)).set j (.val b)).set k (.val c))
  |_=>.no
 |_=>.no
noncomputable def jkj(i w:Nat)(s t:Option Sv)(x:Option W)(ρ:En):So:=match s,t,x with
 |some (.own l),a3 (.own m),a3 (.v y)=>match y.st with
  |some (.int z)=>match ixN m.length z with
   |some k=>match m[k]? with
    |some d=>if i≠w/\l.length<ar/\m.length<=1000000 then .next ((ρ.set w (.own (m.eraseIdx k))).set i (.own (l++[d])))else .no
    |none=>.no
   |none=>.no
  |_=>.no
 |_,_,_=>.no
noncomputable def run(fu:Nat)(Γ:aj->List D->Rc)(G:aj->Option D):Sx->En->So
 |.nop,ρ=>.next ρ
 |.seq a b,ρ=>match run fu Γ G a ρ with
  |.next ρ'=>run fu Γ G b ρ'
  |o=>o
 |.set i e,ρ=>orE (Od i (ev Γ G e ρ) ρ) (er Γ G e ρ) ρ
 |.mov i j,ρ=>Dp i j ρ[j]? ρ
 |.expr e,ρ=>orE (j0w (ev Γ G e ρ) ρ) (er Γ G e ρ) ρ
 |.ret e,ρ=>orE (retS (ev Γ G e ρ)) (er Γ G e ρ) ρ
 |.retV i,ρ=>Ry ρ[i]?
 |.ife c a b,ρ=>match truth (ev Γ G c ρ) with
  |some a6=>run fu Γ G a ρ
  |some a4=>run fu Γ G b ρ
  |none=>.no
 |.loop is it body,ρ=>match ev Γ G it (frz it ρ) with
  |some (.i ds)=>vp (λd ρ=>match zb is d ρ with
   |some ρ2=>run fu Γ G body ρ2
   |none=>.no) ds (frz it ρ)
  |_=>.no
 |.app i e,ρ=>Cz i ρ[i]? (ev Γ G e ρ) ρ
 |.ext i e,ρ=>Cm i ρ[i]? (ev Γ G e ρ) ρ
 |.put i k e,ρ=>Dl i ρ[i]? (ev Γ G k ρ) (ev Γ G e ρ) ρ
 |.fgt i,ρ=>.next (ρ.set i .un)
 |.keep i,ρ=>Nj i ρ[i]? ρ
 |.dcp i j k e,ρ=>jm0 i j ρ[j]? (ev Γ G k (ρ.set i .un)) (ev Γ G e (ρ.set i .un)) ρ
 |.taken h q a b e t,ρ=>if h≠q/\h<ρ.length then match ev Γ G a ρ,ev Γ G b ρ with
   |some (.v (.o la)),a3 (.v (.o lb))=>match ev Γ G e (ρ.set h (.val (.lst [.lst la,.lst lb]))) with
    |some (.v x)=>match x.st with
     |some d=>if Qq d=a6/\truth (ev Γ G t ((ρ.set h (.val (.lst [.lst la,.lst lb]))).set q (.val d)))=a3 a4 then .next ((ρ.set h (.val (.lst [.lst la.reverse,.lst []]))).set q (.val d))else .no
     |none=>.no
    |_=>.no
   |_,_=>.no
  else .no
 |.unp i j e,ρ=>Fw i j (stOf (ev Γ G e ρ)) ρ
 |.dmake x t y it e,ρ=>if x<ρ.length/\t<ρ.length/\y<ρ.length/\x≠t/\x≠y/\t≠y then match ev Γ G it (ρ.set x .un) with
   |some (.i ds)=>match j48 (λρ=>stOf (ev Γ G e ρ)) t y ds (ρ.set x .un) [] [] with
    |some r=>.ret (.val (.dct r.1 r.2))
    |none=>.no
   |_=>.no
  else .no
 |.ioN es e,ρ=>match G (qm "_law_plan"),ev Γ G es ρ,ev Γ G e ρ with
  |some _,a3 (.a [x,y,z]),a3 (.v (.o [.int n]))=>match x.d,y.d,z.d with
   |.lst ls,.int eJ,.int k=>match strsOf ls with
    |some ws=>if 0<=k/\k<=5/\ws.length<=60 then .ret (.val (U4 k.toNat ws eJ n).1)else .no
    |none=>.no
   |_,_,_=>.no
  |_,_,_=>.no
 |.retL x is,ρ=>N5 x (Qc ρ is)
 |.retC f x a b is,ρ=>N6 Γ f x (Qc ρ is) (ev Γ G a ρ) (ev Γ G b ρ)
 |.nmake x t y it e1 e2,ρ=>if x<ρ.length/\t<ρ.length/\y<ρ.length/\x≠t/\x≠y/\t≠y then match ev Γ G it (ρ.set x .un) with
   |some (.i ds)=>match Vh (λρ=>stOf (ev Γ G e1 ρ)) (λρ=>stOf (ev Γ G e2 ρ)) x t y ds (ρ.set x .un) [] [] with
    |some r=>.ret (.val (.dct r.1 (r.2.map D.int)))
    |none=>.no
   |_=>.no
  else .no
 |.wmake x t it e,ρ=>if x<ρ.length/\t<ρ.length/\x≠t then match ev Γ G it (ρ.set x .un) with
   |some (.i ds)=>match jaa (λρ=>stOf (ev Γ G e ρ)) x t ds (ρ.set x .un) [] [] with
    |some r=>.ret (.val (.dct r.1 (r.2.map D.int)))
    |none=>.no
   |_=>.no
  else .no
 |.apop i w e,ρ=>jkj i w ρ[i]? ρ[w]? (ev Γ G e ρ) ρ
 |.pop3 i j k w,ρ=>popS i j k w ρ[w]? ρ
 |.fail,_=>.no
section
variable{Γ:aj->List D->Rc}{G:aj->Option D}{ρ:En}{fu:Nat}
theorem j4l{a b}:run fu Γ G (.seq a b) ρ=(match run fu Γ G a ρ with
  |.next ρ'=>run fu Γ G b ρ'
  |o=>o):=(rfl)
theorem jb0{i e}:run fu Γ G (.set i e) ρ=(orE (Od i (ev Γ G e ρ) ρ) (er Γ G e ρ) ρ):=(rfl)
theorem jkx{i j}:run fu Γ G (.mov i j) ρ=(Dp i j ρ[j]? ρ):=(rfl)
theorem jin{e}:run fu Γ G (.expr e) ρ=(orE (j0w (ev Γ G e ρ) ρ) (er Γ G e ρ) ρ):=(rfl)
theorem jb1{e}:run fu Γ G (.ret e) ρ=(orE (retS (ev Γ G e ρ)) (er Γ G e ρ) ρ):=(rfl)
theorem jii{i}:run fu Γ G (.retV i) ρ=(Ry ρ[i]?):=(rfl)
theorem jky{c a b}:run fu Γ G (.ife c a b) ρ=(match truth (ev Γ G c ρ) with
  |some a6=>run fu Γ G a ρ
  |some a4=>run fu Γ G b ρ
  |none=>.no):=(rfl)
theorem jil{is it body}:run fu Γ G (.loop is it body) ρ=(match ev Γ G it (frz it ρ) with
  |some (.i ds)=>vp (λd ρ=>match zb is d ρ with
   |some ρ2=>run fu Γ G body ρ2
   |none=>.no) ds (frz it ρ)
  |_=>.no):=(rfl)
theorem jl1{i e}:run fu Γ G (.app i e) ρ=(Cz i ρ[i]? (ev Γ G e ρ) ρ):=(rfl)
theorem jl0{i e}:run fu Γ G (.ext i e) ρ=(Cm i ρ[i]? (ev Γ G e ρ) ρ):=(rfl)
theorem jkw{i k e}:run fu Γ G (.put i k e) ρ=(Dl i ρ[i]? (ev Γ G k ρ) (ev Γ G e ρ) ρ):=(rfl)
theorem jkz{i}:run fu Γ G (.fgt i) ρ=(.next (ρ.set i .un)):=(rfl)
theorem jim{i}:run fu Γ G (.keep i) ρ=(Nj i ρ[i]? ρ):=(rfl)
theorem jkv{i j e}:run fu Γ G (.unp i j e) ρ=(Fw i j (stOf (ev Γ G e ρ)) ρ):=(rfl)
theorem jij{x is}:run fu Γ G (.retL x is) ρ=(N5 x (Qc ρ is)):=(rfl)
theorem jik{f x a b is}:run fu Γ G (.retC f x a b is) ρ=(N6 Γ f x (Qc ρ is) (ev Γ G a ρ) (ev Γ G b ρ)):=(rfl)
theorem j3d{x t y it e1 e2}:run fu Γ G (.nmake x t y it e1 e2) ρ=(if x<ρ.length/\t<ρ.length/\y<ρ.length/\x≠t/\x≠y/\t≠y then match ev Γ G it (ρ.set x .un) with
   |some (.i ds)=>match Vh (λρ=>stOf (ev Γ G e1 ρ)) (λρ=>stOf (ev Γ G e2 ρ)) x t y ds (ρ.set x .un) [] [] with
    |some r=>.ret (.val (.dct r.1 (r.2.map D.int)))
    |none=>.no
   |_=>.no
  else .no):=(rfl)
end
def j4m(X:Cx):List (aj×aa)->List Nat->Prop
 |[],is=>is=[]
 |p::cl,is=>∃(i:Nat)(r:List Nat),is=i::r/\X.N[i]?=a3 p.1/\X.env.scope.names.lookup p.1=a3 .cell/\X.env.cells.lookup p.1=a3 p.2/\X.fn p.1=a6/\j4m X cl r
theorem Cu{X:Cx}{ρ:Rho}:∀{cl:List (aj×aa)} {is:List Nat} {ds:List D},j4m X cl is->Qc (j9 ρ) is=a3 ds->Zj X ρ cl ds
 |[],_,ds,h,e=>by cases h;cases e;rfl
 |p::cl,_,ds,⟨i,r,ei,h1,h2,h3,h4,l⟩,e=>by
  subst ei;unfold Qc at e;split at e
  .rename_i d ds' e1 e2;cases e;exact⟨d,ds',i,rfl,h1,h2,h3,h4,Yw e1,Cu l e2⟩
  .cases e
inductive Ns where
 |s (st:bp)
 |ss (sts:List bp)
noncomputable def Rt.rc:Rt->Rc
 |.val d=>.val d
 |.fresh l=>.fresh l
def Ud(o:So)(P:Po):Prop:=match o with
 |.next ρ'=>∀ρ2,j9 ρ2=ρ'->P.nx ρ2
 |.ret r=>∀x:Rt,x.rc=r->P.rt x
 |.brk ρ'=>∀ρ2,j9 ρ2=ρ'->P.bk ρ2
 |.cnt ρ'=>∀ρ2,j9 ρ2=ρ'->P.ct ρ2
 |.err x ρ'=>∀ρ2,j9 ρ2=ρ'->P.ex x ρ2
 |.no=>False
theorem Yy{o:So}{x:Option aj}{ρ:En}{P:Po}(h:Ud (orE o x ρ) P):Ud o P\/∃y,x=a3 y/\∀ρ2,j9 ρ2=ρ->P.ex y ρ2:=by
 cases o with
 |no =>
  cases x with
  |none=>exact h.elim
  |some y=>exact .inr ⟨y,rfl,h⟩
 |_=>exact .inl h
def jb2(fu:Nat)(Γ:aj->List D->Rc)(G:aj->Option D)(X:Cx)(t:Sx):Ns->Prop
 |.s st=>∀ρ P,Ud (run fu Γ G t (j9 ρ)) P->DS X ρ st P
 |.ss sts=>∀ρ P,Ud (run fu Γ G t (j9 ρ)) P->DSs X ρ sts P
section
variable{K:k8m}{ρ:Rho}{σ:St}{H:Hp}{i j:Nat}{a:aa}{l:List D}
theorem Rep.move(R:Rep K ρ σ H)(hj:ρ[j]?=a3 (.own a l))(hij:i≠j):Rep K ((ρ.set j .un).set i (.own a l)) (σ.set i (a3 (.ref a))) H:=by
 have s1:(owns (ρ.set j .un)).Sublist (owns ρ):=jy rfl;have na:a∉owns (ρ.set j .un):=λz=>by
  obtain⟨k,l',q⟩:=Vg z;rcases getElem?_set_of q with ⟨_,z,_⟩|⟨n,q⟩
  .cases z
  .exact n (Yl R.nd hj q)
 obtain⟨nd,sub⟩:=Jo (ds:=l) (i:=i) (s1.nodup R.nd) na;have g:j0 (del H (owns ρ)) (del H (owns ((ρ.set j .un).set i (.own a l)))):=J7 λb hb=>by
  rcases sub b hb with e|z
  .exact e▸Qm hj
  .exact s1.subset z
 refine⟨by simp[R.len],λk d' h=>?_,λk b ds' h=>?_,nd,λk b o x h=>?_,R.tb⟩
 .rcases getElem?_set_of h with ⟨rfl,z,_⟩|⟨n,h⟩
  .cases z
  .rcases getElem?_set_of h with ⟨rfl,z,_⟩|⟨n2,h⟩
   .cases z
   .obtain⟨u,q,e⟩:=R.val k d' h;exact⟨u,by rw[zq n];exact q,e.mono g⟩
 .rcases getElem?_set_of h with ⟨rfl,z,hl⟩|⟨n,h⟩
  .cases z;obtain⟨_,xs,hx,en⟩:=R.own j a l hj;exact⟨Wr (by rw[R.len];simpa using hl),xs,hx,en.mono g⟩
  .rcases getElem?_set_of h with ⟨rfl,z,_⟩|⟨n2,h⟩
   .cases z
   .obtain⟨q,xs,hx,en⟩:=R.own k b ds' h;exact⟨by rw[zq n];exact q,xs,hx,en.mono g⟩
 .rcases getElem?_set_of h with ⟨rfl,z,_⟩|⟨n,h⟩
  .cases z
  .rcases getElem?_set_of h with ⟨rfl,z,_⟩|⟨n2,h⟩
   .cases z
   .obtain⟨q,h,z⟩:=R.raw k b o x h;exact⟨by rw[zq n];exact q,g _ _ h,z⟩
end
section
variable{X:Cx}{ρ:Rho}{e a b c:ao}{es:List ao}{st:bp}{rest sa sb body:List bp}{P:Po}{d:D}{ds ds':List D}{pos p p1 p2 p3:aO}{x y:aj}{i j:Nat}
theorem DS.freeze(i:Nat){l:aa}(h:ρ[i]?=a3 (.own l ds))(h2:DS X (ρ.set i (.val (.lst ds))) st P):DS X ρ st P:=λσ H E R q =>h2 σ H E (R.freeze h) (q.step (.drop λb hb=>(jy rfl).subset hb))
theorem DS.mov{l:aa}(hk:ρ[j]?=a3 (.own l ds))(hij:i≠j)(h:P.nx ((ρ.set j .un).set i (.own l ds)))(hN:X.N.Nodup)(hi:X.N[i]?=a3 x)(hj:X.N[j]?=a3 y)(hx:Loc X.env.scope x)
  (hf:X.fn x=a6\/X.env.scope.names.lookup x=a3 .local) (hv:Vis X.env.scope y) (hd:(y==k8q)=a4) (hcd:(y==k8r)=a4):DS X ρ (.Assign [.Name x p] (.Name y p1) pos) P:=λσ H E R q=>by
 obtain⟨hs,xs,m,en⟩:=R.own j l ds hk;refine(Ur hN hi hx (Ql hj hv hd hcd) rfl hf).to ⟨_,hs,q.nx _ _ H h (R.move hk hij) (.drop λb hb=>?_)⟩;have s1:(owns (ρ.set j .un)).Sublist (owns ρ):=jy rfl;have na:l∉owns (ρ.set j .un):=λz=>by
  obtain⟨k,l',q⟩:=Vg z;rcases getElem?_set_of q with ⟨_,z,_⟩|⟨n,q⟩
  .cases z
  .exact n (Yl R.nd hk q)
 rcases(Jo (ds:=ds) (i:=i) (s1.nodup R.nd) na).2 b hb with z|z
 .exact z▸Qm hk
 .exact s1.subset z
theorem DS.setCf{ρf:Rho}{tg elt iter:ao}{ifs:List ao}{scope:br}{spos:aO}(i:Nat)(cs:List Nat)(pr:D->Bool)(g:D->D)(hfr:∀K σ H,Rep K ρ σ H->Rep K ρf σ H)(hno:ρf=ρ\/zc ((ds.filter pr).map g)=a6)(hi:DI X ρf tg iter ds)
  (hb:∀C s H fp pn,∀d∈ds,∃ρ2,DG (cCx X scope C s H fp pn) ρf tg d ρ2/\Wk ρ2 ρf/\owns ρ2=owns ρf/\DTs (cCx X scope C s H fp pn) ρ2 ifs (pr d)/\(pr d=a6->DE (cCx X scope C s H fp pn) ρ2 elt (g d)))
  (h:∀l,P.nx (ρ.set i (.own l ((ds.filter pr).map g)))) (hN:X.N.Nodup) (hcs:∀j∈cs,ρf[j]?=a3 .un) (hsz:ds.length<=ar) (hX:X.N[i]?=a3 x) (hx:Loc X.env.scope x)
  (hf:X.fn x=a6\/X.env.scope.names.lookup x=a3 .local)
  (hsw:aZ (.ListComp elt [⟨tg,iter,ifs,0⟩] scope pos) (a3 (.Name x p1)) spos.line X.env=pure a6)
  (hc:X.calm=a6) (hkind:scope.kind=.function) (hok:Js scope X.env X.N cs=a6)
  (hs:∀x,aH iter X.env x=pure x):DS X ρ (.Assign [.Name x p1] (.ListComp elt [⟨tg,iter,ifs,0⟩] scope pos) spos) P:=λσ H E R q pins s I=>by
 have Rf:=hfr _ _ _ R;rw[exec_Assign_Name_used _ _ _ _ hsw];refine a5 (fL (a5 ?_));show aq _ X.A (do let _ <-comprehension (.ListComp elt [⟨tg,iter,ifs,0⟩] scope pos) scope X.env _ (newList []) a4 (aA iter X.env) (a3 (cX (.Name x p1) X.env))) _ _ s;refine a5 (bE (iC (use:=a3 (cX (.Name x p1) X.env)) (Q:=λ_ s'=>SP X pins E .next s') rfl hs (Fg (O8 hok)) hkind (Rj hok)
  (thn (hi σ H (λJ H'=>j0 H H'/\Uk X.K (del H' (owns ρf)) J ds) Rf (λJ H' g1 ok=>⟨g1,ok⟩) pins s I) λv s1 h1=>thn h1 λitv s2 h2=>?_)) (λ_ s' hq=>ah (ah hq)) λ_ _ e=>e)
 obtain⟨it,fp,tn,J,H2,e,I2,T,st2,f2,g2,ok⟩:=h2;subst e;refine Kh (RR:=λacc C=>compPost (ay X.prog X.w) X.A X.xe (a3 (cX (.Name x p1) X.env)) (λ_ s'=>SP X pins E .next s') acc C) I2 (Rf.grow g2) T st2 f2 ok hc hkind hok hcs hsz hb ?_;intro D C xs H' s' m I' gg n m' en hm L;show aq _ X.A (cX (.Name x p1) X.env (.ref D)) _ _ _;refine kz (Lp I' hN hX hx (v:=.ref D) rfl (λs'' I'' ⟨a,sb,ha⟩=>?_) hf);have hCa:C≠a:=by
  rcases ha with e|e
  .rw[e];exact L.loc
  .exact cS (L.cell x a e)
 have en':j5 X.K (del H' (D::owns ρ)) ((ds.filter pr).map g) xs:=by
  rcases hno with e|e
  .rw[e]at en;exact en
  .exact(en.mono q9).hide (λc hc=>by
    rcases xn.mp hc with z|z
    .rw[z];exact .inl ⟨xs,m'⟩
    .exact .inl ((R.grow (g2.trans gg)).owned c z)) e
 refine⟨m,hm.sameBut sb hCa,λh' sb'=>⟨σ.set i (a3 (.ref D)),H',I''.loose L sb',?_⟩⟩;exact q.nx _ _ H' (h D) (R.set_own (g2.trans gg) (g2.free n) m' en') (Fr0.new R (g2.trans gg) (g2.free n))
end
section
variable{fu:Nat}{Γ:aj->List D->Rc}{G:aj->Option D}{X:Cx}{P:Po}
theorem bind1{i:Nat}{y:aj}{p:aO}(nd:X.N.Nodup)(hi:X.N[i]?=a3 y)(hx:Loc X.env.scope y)(hf:X.fn y=a6\/X.env.scope.names.lookup y=a3 .local) :
  ∀ρ d ρ2,zb [i] d (j9 ρ)=a3 ρ2->∃ρ',j9 ρ'=ρ2/\DG X ρ (.Name y p) d ρ':=λρ d ρ2 h=>by
 simp only[zb]at h;cases h;exact⟨_,jl,DG.name _ nd hi hx hf⟩
theorem jkh{i j:Nat}{x y:aj}{n:Nat}{p q pt:aO}(hc:X.calm=a6)(hij:i≠j)(nd:X.N.Nodup)(hi:X.N[i]?=a3 x)(hj:X.N[j]?=a3 y)(hx:Loc X.env.scope x)(hy:Loc X.env.scope y)
  (hf:X.fn x=a6\/X.env.scope.names.lookup x=a3 .local) (hg:X.fn y=a6\/X.env.scope.names.lookup y=a3 .local) :
  ∀ρ d ρ2,zb [i,j] d (j9 ρ)=a3 ρ2->∃ρ',j9 ρ'=ρ2/\DG X ρ (.Tuple [.Name x p,.Name y q] n pt) d ρ':=λρ d ρ2 h=>by
 simp only[zb]at h;split at h
 .rename_i a b;cases h;exact⟨(ρ.set i (.val a)).set j (.val b),by rw[jl,jl];rfl,DG.pair _ _ hij nd hi hj hx hy hf hg hc⟩
 .cases h
theorem DS.setX{e:ao}{x y:aj}{i:Nat}{p pos:aO}{ρ:Rho}(he:DX X ρ e y)(h:P.ex y ρ)(hN:X.N.Nodup)(hi:X.N[i]?=a3 x)(hx:Loc X.env.scope x)(hs:aZ e (a3 (.Name x p)) pos.line X.env=pure a4)(hf:X.fn x=a6\/X.env.scope.names.lookup x=a3 .local) :
  DS X ρ (.Assign [.Name x p] e pos) P:=λσ H E R q=>(Ur hN hi hx peS hs hf).to (he σ H _ R (q.ex y ρ σ H h R (Fr0.refl _ _)))
theorem DS.exprX{e:ao}{y:aj}{pos:aO}{ρ:Rho}(he:DX X ρ e y)(h:P.ex y ρ)(hs:aZ e a7 pos.line X.env=pure a4):DS X ρ (.Expr e pos) P:=λσ H E R q =>(Rz peS hs).to (he σ H _ R (q.ex y ρ σ H h R (Fr0.refl _ _)))
theorem DS.retX{e:ao}{y:aj}{pos:aO}{ρ:Rho}(he:DX X ρ e y)(h:P.ex y ρ):DS X ρ (.Return (a3 e) pos) P:=λσ H E R q =>(Wv peS).to (he σ H _ R (q.ex y ρ σ H h R (Fr0.refl _ _)))
theorem Nh{is:List Nat}{it':Ex}{b:Sx}{it tg:ao}{body:List bp}{pos:aO}{ρ:Rho}(hq:X.calm=a6)(c:Cok X G)(hs:∀x,aH it X.env x=pure x)
  (hb:∀ρ d ρ2,zb is d (j9 ρ)=a3 ρ2->∃ρ',j9 ρ'=ρ2/\DG X ρ tg d ρ') (hi:∀ρ ds,ev Γ G it' (j9 ρ)=a3 (.i ds)->DI X ρ tg it ds)
  (ih:∀ρ P,Ud (run fu Γ G b (j9 ρ)) P->DSs X ρ body P) (h:Ud (run fu Γ G (.loop is it' b) (j9 ρ)) P):DS X ρ (.For tg it body [] pos) P:=by
 have main:∀ρf:Rho,j9 ρf=frz it' (j9 ρ)->DS X ρf (.For tg it body [] pos) P:=λρf ef=>by
  rw[jil]at h;rw[<-ef]at h;split at h
  .rename_i ds hds;generalize hf:(λd ρ=>_:D->En->So)=f at h;refine DS.for (ds:=ds) (λi ρ'=>Ud (vp f (ds.drop i) (j9 ρ')) P) (hi ρf ds hds) (by rw[eP];exact h) (λi d ρ' hd w=>?_) (λρ' w=>?_) hq c.po hs
   .have hdr:ds.drop i=d::ds.drop (i+1):=by obtain⟨hlt,e⟩:=X8.mp hd;rw[cg hlt,e]
    rw[hdr,vp]at w;have ef2:f d (j9 ρ')=match zb is d (j9 ρ')with|some ρ2=>run fu Γ G b ρ2|none=>.no:=by rw[<-hf]<;>rfl
    rw[ef2]at w;cases hb2:zb is d (j9 ρ') with
    |none=>rw[hb2]at w;exact w.elim
    |some ρ2 =>
     rw[hb2]at w;obtain⟨ρ3,e3,dg⟩:=hb ρ' d ρ2 hb2;refine⟨ρ3,dg,ih ρ3 _ ?_⟩;rw[e3];dsimp only at w;cases ho:run fu Γ G b ρ2 with
     |next ρ4=>rw[ho]at w;exact λρ5 e=>by rw[<-e]at w;exact w
     |cnt ρ4=>rw[ho]at w;exact λρ5 e=>by rw[<-e]at w;exact w
     |brk ρ4=>rw[ho]at w;exact w
     |ret r=>rw[ho]at w;exact w
     |err x ρ4=>rw[ho]at w;exact w
     |no=>rw[ho]at w;exact w
   .rw[jG,vp]at w;exact w ρ' rfl
  .exact h.elim
 by_cases z:Jd it' (j9 ρ)=a6
 .unfold Jd at z;split at z
  .rename_i i ei;split at z
   .rename_i l e;obtain⟨a,q⟩:=Qa e;refine DS.freeze i q (main _ ?_);rw[jl];simp only[frz,ei,e,Sl.abs]
   .cases z
  .cases z
 .have z':Jd it' (j9 ρ)=a4:=by simpa using z
  refine main ρ ?_;unfold frz;split
  .rename_i i ei;split
   .rename_i l e;simp only[Jd,ei,e]at z';cases z'
   .rfl
  .rfl
theorem j3m{is:List Nat}{elt' it' c':Ex}{elt it tg:ao}{ifs:List ao}{scope:br}{p p1 pos:aO}{k:Nat}{z:aj}{ρ:Rho}(hq:X.calm=a6)(hX:Cok X G)
  (hk:X.N[k]?=a3 z) (hx:Loc X.env.scope z) (hf:X.fn z=a6\/X.env.scope.names.lookup z=a3 .local)
  (hsw:aZ (.ListComp elt [⟨tg,it,ifs,0⟩] scope p) (a3 (.Name z p1)) pos.line X.env=pure a6)
  (hit:∀ρ ds,ev Γ G it' (j9 ρ)=a3 (.i ds)->DI X ρ tg it ds) (hkind:scope.kind=.function) (hok:Js scope X.env X.N is=a6) (hs:∀x,aH it X.env x=pure x)
  (hb:∀ρ d ρ2,zb is d (j9 ρ)=a3 ρ2->(∀j∈is,ρ[j]?=a3 .un)->∃ρ',j9 ρ'=ρ2/\Wk ρ' ρ/\owns ρ'=owns ρ/\∀C s H fp pn,DG (cCx X scope C s H fp pn) ρ tg d ρ')
  (he:∀C s H fp pn ρ r,ev Γ G elt' (j9 ρ)=a3 (.v r)->Has (cCx X scope C s H fp pn) ρ elt r)
  (hc:∀C s H fp pn ρ,(ev Γ G c' (j9 ρ)=a3 (.a [])->DTs (cCx X scope C s H fp pn) ρ ifs a6)/\∀y k,ev Γ G c' (j9 ρ)=a3 (.a [y])->y.d=.bl k->DTs (cCx X scope C s H fp pn) ρ ifs k)
  (h:Ud (run fu Γ G (.set k (.comp is elt' it' c')) (j9 ρ)) P):DS X ρ (.Assign [.Name z p1] (.ListComp elt [⟨tg,it,ifs,0⟩] scope p) pos) P:=by
 rw[jb0]at h;unfold Od at h;have h:=(Yy h).resolve_right λ⟨y,ey,_⟩=>by simp only[er]at ey;cases ey
 cases e:ev Γ G (.comp is elt' it' c') (j9 ρ) with
 |none=>rw[e]at h;exact h.elim
 |some w =>
  rw[e]at h;cases w with
  |a _=>exact h.elim
  |i _=>exact h.elim
  |v r =>
   obtain⟨l,ρf,ds,pr,g,er,el,hfz,hi,hun,hz,hb'⟩:=O7 hit hb he hc e;subst er;refine DS.setCf (ρf:=ρf) k is pr g ?_ ?_ hi hb' (λa=>?_) hX.nd hun hz hk hx hf hsw hq hkind hok hs
   .rcases hfz with e|⟨_,i,a,l',q,e⟩
    .subst e;exact λ_ _ _ R=>R
    .subst e;exact λ_ _ _ R=>R.freeze q
   .rcases hfz with e|⟨n,_⟩
    .exact .inl e
    .exact .inr (el▸n)
   .rw[<-el];exact h _ jl
theorem Di{w:Option W}{d:D}(h:stOf w=a3 d):∃z,w=a3 (.v z)/\z.st=a3 d:=by
 unfold stOf at h;split at h
 .exact⟨_,rfl,h⟩
 .cases h
end
structure Ts(X:Cx)(t:Sx)(nd:Ns):Prop where
 m:∀(fu:Nat)(Γ:aj->List D->Rc)(G:aj->Option D),Cok X G->Gok X Γ->jb2 fu Γ G X t nd
theorem Ts.nil:∀{X:Cx},Ts X .nop (.ss []):=by intro _;refine⟨λfu Γ G=>?_⟩;intro c g ρ P h;exact DSs.nil (h ρ rfl)
theorem Ts.cons:∀{X:Cx}{a b:Sx}{st:bp}{rest:List bp},Ts X a (.s st)->Ts X b (.ss rest)->Ts X (.seq a b) (.ss (st::rest)):=by
 intro _ _ _ _ _ q0 q1;refine⟨λfu Γ G=>?_⟩;have iha:=q0.m fu Γ G;have ihb:=q1.m fu Γ G;intro c g ρ P h;rw[j4l]at h;split at h
 .rename_i ρ' e;exact DSs.cons (N:=λρ1=>j9 ρ1=ρ') (iha c g ρ _ (by rw[e];exact λρ2 z=>z)) λρ1 z=>ihb c g ρ1 P (by rw[z];exact h)
 .rename_i o hn;refine DSs.cons (N:=λ_=>False) (iha c g ρ _ ?_) λ_ z=>z.elim;cases e:run fu Γ G _ (j9 ρ) with
  |next ρ'=>exact absurd e (hn ρ')
  |ret r=>rw[e]at h;exact h
  |err x r=>rw[e]at h;exact h
  |brk r=>rw[e]at h;exact h
  |cnt r=>rw[e]at h;exact h
  |no=>rw[e]at h;exact h
theorem Ts.fgt:∀{X:Cx}{i:Nat}{b:Sx}{sts:List bp},Ts X b (.ss sts)->Ts X (.seq (.fgt i) b) (.ss sts):=by intro _ _ _ _ q0;refine⟨λfu Γ G=>?_⟩;have ih:=q0.m fu Γ G;intro c g ρ P h;simp only[j4l,jkz]at h;exact DSs.forget _ (ih c g _ P (by rw[jl];exact h))
theorem Ts.keep:∀{X:Cx}{i:Nat}{b:Sx}{sts:List bp},Ts X b (.ss sts)->Ts X (.seq (.keep i) b) (.ss sts):=by
 intro _ i _ _ q0;refine⟨λfu Γ G=>?_⟩;have ih:=q0.m fu Γ G;intro c g ρ P h;simp only[j4l,jim,Nj]at h;cases e:(j9 ρ)[i]? with
 |none=>rw[e]at h;exact h.elim
 |some v =>
  rw[e]at h;cases v with
  |own l =>obtain⟨a,q⟩:=Qa e;exact DSs.freeze _ q (ih c g _ P (by rw[jl];exact h))
  |un=>exact h.elim
  |val d=>exact ih c g ρ P h
  |exc x=>exact h.elim
theorem Ts.fail:∀{X:Cx}{st:bp},Ts X .fail (.s st):=by intro _ _;refine⟨λfu Γ G=>?_⟩;intro c g ρ P h;exact h.elim
theorem Ts.set:∀{X:Cx}{i:Nat}{x:aj}{e':Ex}{e:ao}{p pos:aO}(hi:X.N[i]?=a3 x) (hx:Loc X.env.scope x) (hs:aZ e (a3 (.Name x p)) pos.line X.env=pure a4) (hf:X.fn x=a6\/X.env.scope.names.lookup x=a3 .local),Tr X e' (.e e)->Ts X (.set i e') (.s (.Assign [.Name x p] e pos)):=by
 intro _ _ _ _ _ _ _ hi hx hs hf he;refine⟨λfu Γ G=>?_⟩;intro c g ρ P h;have S:=sound he c g;rw[jb0]at h;unfold Od at h;rcases Yy h with h|⟨y,ey,hP⟩
 rotate_left
 .exact DS.setX (Es he c g ρ y ey) (hP ρ rfl) c.nd hi hx hs hf
 split at h
 .rename_i l e;exact DS.setO _ (S ρ _ e) (λa=>h _ jl) c.nd hi hx hs hf
 .rename_i r hn e;split at h
  .rename_i d hd;exact DS.set _ ((S ρ _ e).toE hd) (h _ jl) c.nd hi hx hs hf
  .exact h.elim
 .exact h.elim
theorem Ts.setC1:∀{X:Cx}{k i:Nat}{z y:aj}{py p p1 pos:aO}{elt' it' c':Ex}{elt it:ao}{ifs:List ao} {scope:br} (hq:X.calm=a6) (hk:X.N[k]?=a3 z) (hx:Loc X.env.scope z) (hf:X.fn z=a6\/X.env.scope.names.lookup z=a3 .local) (hsw:aZ (.ListComp elt [⟨.Name y py,it,ifs,0⟩] scope p) (a3 (.Name z p1)) pos.line X.env=pure a6) (hi:X.N[i]?=a3 y) (hl:Yx scope y=a6) (hkind:scope.kind=.function) (hok:Js scope X.env X.N [i]=a6) (hs:∀x,aH it X.env x=pure x),Tr X it' (.i (.Name y py) it)->(∀C s H fp pn,Tr (cCx X scope C s H fp pn) elt' (.e elt))->(∀C s H fp pn,Tr (cCx X scope C s H fp pn) c' (.c ifs))->Ts X (.set k (.comp [i] elt' it' c')) (.s (.Assign [.Name z p1] (.ListComp elt [⟨.Name y py,it,ifs,0⟩] scope p) pos)):=by
 intro _ _ _ _ _ _ _ _ _ _ _ _ _ _ _ _ hq hk hx hf hsw hi hl hkind hok hs hit he hc;refine⟨λfu Γ G=>?_⟩;intro c g ρ P h;exact j3m hq c hk hx hf hsw (λρ ds z=>sound hit c g ρ ds z) hkind hok hs (λρ d ρ2 hb hun=>by
  simp only[zb]at hb
  cases hb
  have hu:=hun _ (xj.mpr rfl)
  exact⟨_,jl,Wk.set hu,Vf hu,λC s H fp pn=>DG.name _ c.nd hi (Ru hl) (Bq hl)⟩)
  (λC s H fp pn ρ r z=>sound (he C s H fp pn) c.comp g.comp ρ r z) (λC s H fp pn ρ=>sound (hc C s H fp pn) c.comp g.comp ρ) h
theorem Ts.mov:∀{X:Cx}{i j:Nat}{x y:aj}{p q pos:aO}(hi:X.N[i]?=a3 x) (hj:X.N[j]?=a3 y) (hx:Loc X.env.scope x) (hf:X.fn x=a6\/X.env.scope.names.lookup x=a3 .local) (hv:Vis X.env.scope y) (hd:(y==k8q)=a4) (hcd:(y==k8r)=a4),Ts X (.mov i j) (.s (.Assign [.Name x p] (.Name y q) pos)):=by
 intro _ _ _ _ _ _ _ _ hi hj hx hf hv hd hcd;refine⟨λfu Γ G=>?_⟩;intro c g ρ P h;rw[jkx]at h;unfold Dp at h;split at h
 .rename_i l e;obtain⟨a,q⟩:=Qa e;split at h
  .exact h.elim
  .rename_i hij;exact DS.mov q hij (h _ (by rw[jl,jl];rfl)) c.nd hi hj hx hf hv hd hcd
 .rename_i d e;exact DS.set _ (DE.var _ (Yw e) hj hv hd hcd) (h _ jl) c.nd hi hx rfl hf
 .exact h.elim
theorem Ts.expr:∀{X:Cx}{e':Ex}{e:ao}{pos:aO}(hs:aZ e a7 pos.line X.env=pure a4),Tr X e' (.e e)->Ts X (.expr e') (.s (.Expr e pos)):=by
 intro _ _ _ _ hs he;refine⟨λfu Γ G=>?_⟩;intro c g ρ P h;rw[jin]at h;unfold j0w at h;rcases Yy h with h|⟨y,ey,hP⟩
 rotate_left
 .exact DS.exprX (Es he c g ρ y ey) (hP ρ rfl) hs
 split at h
 .rename_i r e;exact DS.expr (sound he c g ρ r e).toT (h ρ rfl) hs
 .exact h.elim
theorem Ts.ret:∀{X:Cx}{e':Ex}{e:ao}{pos:aO},Tr X e' (.e e)->Ts X (.ret e') (.s (.Return (a3 e) pos)):=by
 intro _ _ _ _ he;refine⟨λfu Γ G=>?_⟩;intro c g ρ P h;rw[jb1]at h;unfold retS at h;rcases Yy h with h|⟨y,ey,hP⟩
 rotate_left
 .exact DS.retX (Es he c g ρ y ey) (hP ρ rfl)
 split at h
 .rename_i l e;exact DS.retO (sound he c g ρ _ e) (h _ rfl)
 .rename_i r hn e;exact DS.ret (sound he c g ρ _ e).toT (h _ rfl)
 .exact h.elim
theorem Ts.retV:∀{X:Cx}{i:Nat}{x:aj}{p pos:aO}(hi:X.N[i]?=a3 x) (hv:Vis X.env.scope x) (hd:(x==k8q)=a4) (hcd:(x==k8r)=a4),Ts X (.retV i) (.s (.Return (a3 (.Name x p)) pos)):=by
 intro _ _ _ _ _ hi hv hd hcd;refine⟨λfu Γ G=>?_⟩;intro c g ρ P h;rw[jii]at h;unfold Ry at h;split at h
 .rename_i l e;obtain⟨a,q⟩:=Qa e;exact DS.retV _ q (h _ rfl) hi hv hd hcd
 .rename_i d e;exact DS.ret (DE.toT (DE.var _ (Yw e) hi hv hd hcd)) (h _ rfl)
 .exact h.elim
theorem Ts.ife:∀{X:Cx}{c':Ex}{a b:Sx}{c:ao}{sa sb:List bp}{pos:aO},Tr X c' (.b c)->Ts X a (.ss sa)->Ts X b (.ss sb)->Ts X (.ife c' a b) (.s (.If c sa sb pos)):=by
 intro _ _ _ _ _ _ _ _ hc q1 q2;refine⟨λfu Γ G=>?_⟩;have iha:=q1.m fu Γ G;have ihb:=q2.m fu Γ G;intro c g ρ P h;rw[jky]at h;split at h
 .rename_i e;exact DS.if (sound hc c g ρ a6 e) (λ_=>iha c g ρ P h) λz=>by cases z
 .rename_i e;exact DS.if (sound hc c g ρ a4 e) (λz=>by cases z) λ_=>ihb c g ρ P h
 .exact h.elim
theorem Ts.for1:∀{X:Cx}{i:Nat}{y:aj}{it':Ex}{b:Sx}{it:ao}{body:List bp} {p pos:aO} (hq:X.calm=a6) (hi:X.N[i]?=a3 y) (hx:Loc X.env.scope y) (hf:X.fn y=a6\/X.env.scope.names.lookup y=a3 .local) (hs:∀x,aH it X.env x=pure x),Tr X it' (.i (.Name y p) it)->Ts X b (.ss body)->Ts X (.loop [i] it' b) (.s (.For (.Name y p) it body [] pos)):=by intro _ _ _ _ _ _ _ _ _ hq hi hx hf hs hit q1;refine⟨λfu Γ G=>?_⟩;have ih:=q1.m fu Γ G;intro c g ρ P h;exact Nh hq c hs (bind1 c.nd hi hx hf) (λρ ds z=>sound hit c g ρ ds z) (ih c g) h
theorem Ts.for2:∀{X:Cx}{i j:Nat}{x y:aj}{it':Ex}{b:Sx}{it:ao}{body:List bp} {n:Nat} {p q pt pos:aO} (hq:X.calm=a6) (hij:i≠j) (hi:X.N[i]?=a3 x) (hj:X.N[j]?=a3 y) (hx:Loc X.env.scope x) (hy:Loc X.env.scope y) (hf:X.fn x=a6\/X.env.scope.names.lookup x=a3 .local) (hg:X.fn y=a6\/X.env.scope.names.lookup y=a3 .local) (hs:∀x,aH it X.env x=pure x),Tr X it' (.i (.Tuple [.Name x p,.Name y q] n pt) it)->Ts X b (.ss body)->Ts X (.loop [i,j] it' b) (.s (.For (.Tuple [.Name x p,.Name y q] n pt) it body [] pos)):=by intro _ _ _ _ _ _ _ _ _ _ _ _ _ _ hq hij hi hj hx hy hf hg hs hit q1;refine⟨λfu Γ G=>?_⟩;have ih:=q1.m fu Γ G;intro c g ρ P h;exact Nh hq c hs (jkh hq hij c.nd hi hj hx hy hf hg) (λρ ds z=>sound hit c g ρ ds z) (ih c g) h
theorem Ts.app:∀{X:Cx}{i:Nat}{x:aj}{e':Ex}{e:ao}{p p1 p2 pos:aO}(hN:X.N[i]?=a3 x) (hv:Vis X.env.scope x) (hd:(x==k8q)=a4) (hcd:(x==k8r)=a4) (hst:a9 [e] X.env=[(a4,aA e X.env)]) (hline:(p1.endLine==p2.line)=a6) (hbase:bf (.Name x p) "append" X.env (aA (.Name x p) X.env)=aA (.Name x p) X.env) (hfew:((aY p2 (a9 [e] X.env)).all (λx=>!x.1)&&(cH p2 (bD [] X.env)).all (λx=>x.1.isSome)&&decide (([e]:List ao).length+([]:List bx).length+(if ([]:List bx).isEmpty then 0 else 1)<30))=a6),Tr X e' (.e e)->Ts X (.app i e') (.s (.Expr (.Call (.Attribute (.Name x p) "append" p1) [e] [] p2) pos)):=by
 intro _ _ _ _ _ _ _ _ _ hN hv hd hcd hst hline hbase hfew he;refine⟨λfu Γ G=>?_⟩;intro c g ρ P h;rw[jl1]at h;unfold Cz at h;split at h
 .rename_i l x el ex;obtain⟨a,q⟩:=Qa el;split at h
  .rename_i d hd';split at h
   .rename_i hz;exact DS.append _ q ((sound he c g ρ x ex).toE hd') hz (h _ jl) hN hv hd hcd hst hline hbase hfew rfl
   .exact h.elim
  .exact h.elim
 .exact h.elim
theorem Ts.ext:∀{X:Cx}{i:Nat}{x:aj}{e':Ex}{e:ao}{p p1 p2 pos:aO}(hN:X.N[i]?=a3 x) (hv:Vis X.env.scope x) (hd:(x==k8q)=a4) (hcd:(x==k8r)=a4) (hst:a9 [e] X.env=[(a4,aA e X.env)]) (hline:(p1.endLine==p2.line)=a6) (hbase:bf (.Name x p) "extend" X.env (aA (.Name x p) X.env)=aA (.Name x p) X.env) (hfew:((aY p2 (a9 [e] X.env)).all (λx=>!x.1)&&(cH p2 (bD [] X.env)).all (λx=>x.1.isSome)&&decide (([e]:List ao).length+([]:List bx).length+(if ([]:List bx).isEmpty then 0 else 1)<30))=a6),Tr X e' (.e e)->Ts X (.ext i e') (.s (.Expr (.Call (.Attribute (.Name x p) "extend" p1) [e] [] p2) pos)):=by
 intro _ _ _ _ _ _ _ _ _ hN hv hd hcd hst hline hbase hfew he;refine⟨λfu Γ G=>?_⟩;intro c g ρ P h;rw[jl0]at h;unfold Cm at h;split at h
 .rename_i l m el ex;obtain⟨a,q⟩:=Qa el;split at h
  .rename_i hz;exact DS.extend _ q (sound he c g ρ _ ex) (zj hz) (h _ jl) hN hv hd hcd hst hline hbase hfew rfl
  .exact h.elim
 .exact h.elim
theorem Ts.put:∀{X:Cx}{i:Nat}{x:aj}{k' e':Ex}{k e:ao}{p p1 pos:aO}(hN:X.N[i]?=a3 x) (hv:Vis X.env.scope x) (hd:(x==k8q)=a4) (hcd:(x==k8r)=a4) (ha:∀v,cX (.Subscript (.Name x p) k p1) X.env v=(do
    let ov <-bL [v] (aA (.Name x p) X.env)
    let iv <-bL [v,ov] (aA k X.env)
    g6 p1
    bL [v,ov,iv] (setItem ov iv v)
    release [v,ov,iv] [])) (hs:dX [.Subscript (.Name x p) k p1] e pos.line X.env=pure a4) (hw:dY [.Subscript (.Name x p) k p1] e X.env=pure a7),Tr X k' (.e k)->Tr X e' (.e e)->Ts X (.put i k' e') (.s (.Assign [.Subscript (.Name x p) k p1] e pos)):=by
 intro _ _ _ _ _ _ _ _ _ _ hN hv hd hcd ha hs hw hk he;refine⟨λfu Γ G=>?_⟩;intro c g ρ P h;rw[jkw]at h;unfold Dl at h;split at h
 .rename_i l y x el ey ex;obtain⟨a,q⟩:=Qa el;split at h
  .rename_i j d ej ed;split at h
   .rename_i n en;exact DS.setItem _ q ((sound he c g ρ x ex).toE ed) (ej▸(sound hk c g ρ y ey).toT) en (h _ jl) hN hv hd hcd ha hs hw rfl
   .exact h.elim
  .exact h.elim
 .exact h.elim
theorem Ts.unp:∀{X:Cx}{i j:Nat}{x y:aj}{e':Ex}{e:ao}{px py pt pos:aO}{n:Nat} (hq:X.calm=a6) (hi:X.N[i]?=a3 x) (hj:X.N[j]?=a3 y) (hx:Loc X.env.scope x) (hy:Loc X.env.scope y) (fx:X.fn x=a6\/X.env.scope.names.lookup x=a3 .local) (fy:X.fn y=a6\/X.env.scope.names.lookup y=a3 .local) (hs:dX [.Tuple [.Name x px,.Name y py] n pt] e pos.line X.env=pure a4) (hw:dY [.Tuple [.Name x px,.Name y py] n pt] e X.env=pure a7),Tr X e' (.e e)->Ts X (.unp i j e') (.s (.Assign [.Tuple [.Name x px,.Name y py] n pt] e pos)):=by
 intro _ _ _ _ _ _ _ _ _ _ _ _ hq hi hj hx hy fx fy hs hw he;refine⟨λfu Γ G=>?_⟩;intro c g ρ P h;rw[jkv]at h;unfold Fw at h;split at h
 .rename_i d d' ed;split at h
  .exact h.elim
  .rename_i hij;obtain⟨z,ez,ed⟩:=Di ed;exact DS.unp hij ((sound he c g ρ z ez).toE ed) (h _ (by rw[jl,jl];rfl)) hq c.nd hi hj hx hy fx fy hs hw
 .exact h.elim
theorem Ts.retL:∀{X:Cx}{x:aj}{is:List Nat}{params:dC}{body:ao}{scope:br}{cl:List (aj×aa)} {p1 pos:aO} (hx:x∈Zn) (hqu:X.env.qual=x ++ ".<locals>.") (hdef:fT params X.env=([],[])) (hcl:dJ scope X.env=pure cl) (ht:Qt X.K x=a3 (params,body,scope)) (hn:cl.map (·.1)=zy scope) (nd:(zy scope).Nodup) (hc:j4m X cl is),Ts X (.retL x is) (.s (.Return (a3 (.Lambda params body scope p1)) pos)):=by
 intro _ _ _ _ _ _ _ _ _ hx hqu hdef hcl ht hn nd hc;refine⟨λfu Γ G=>?_⟩;intro c g ρ P h;rw[jij]at h;unfold N5 at h;split at h
 .rename_i ds e;exact DS.retLam ⟨hx,hqu,c.lm _ hx hqu⟩ hdef hcl ht hn nd (Cu hc e) (h (.val _) rfl)
 .exact h.elim
theorem Ts.retC:∀{X:Cx}{f x:aj}{is:List Nat}{a' b':Ex}{a b:ao}{params:dC}{body:ao} {scope:br} {cl:List (aj×aa)} {p1 p2 p3 pos:aO} (hx:x∈Zn) (hqu:X.env.qual=x ++ ".<locals>.") (hdef:fT params X.env=([],[])) (hcl:dJ scope X.env=pure cl) (ht:Qt X.K x=a3 (params,body,scope)) (hn:cl.map (·.1)=zy scope) (nd:(zy scope).Nodup) (hc:j4m X cl is) (hg:Gl X f) (hdb:(f==k8q)=a4) (hs1:a9 [a,b,.Lambda params body scope p1] X.env=(a4,aA a X.env)::a9 [b,.Lambda params body scope p1] X.env) (hs2:a9 [b,.Lambda params body scope p1] X.env=(a4,aA b X.env)::a9 [.Lambda params body scope p1] X.env) (hs3:a9 [.Lambda params body scope p1] X.env=(a4,aA (.Lambda params body scope p1) X.env)::a9 [] X.env) (hpl:(aY p3 (a9 [b,.Lambda params body scope p1] X.env)).any (·.1)=a4),Tr X a' (.e a)->Tr X b' (.e b)->Ts X (.retC f x a' b' is) (.s (.Return (a3 (.Call (.Name f p2) [a,b,.Lambda params body scope p1] [] p3)) pos)):=by
 intro _ f x is a' b' a b params body scope cl p1 p2 p3 pos hx hqu hdef hcl ht hn nd hc hg hdb hs1 hs2 hs3 hpl ha hb;refine⟨λfu Γ G=>?_⟩;intro c g ρ P h;rw[jik]at h;unfold N6 at h;split at h
 .rename_i ds u v e1 e2 e3;have q:=g f [u.d,v.d,.fn x ds];cases z:Γ f [u.d,v.d,.fn x ds] with
  |val d =>
   rw[z]at h q;dsimp only[Il]at h;split at h
   .rename_i nf;exact DS.ret (DT.callL q ⟨hx,hqu,c.lm _ hx hqu⟩ hdef hcl ht hn nd (Cu hc e1) (sound ha c g ρ u e2).toT (sound hb c g ρ v e3).toT nf ⟨rfl,rfl⟩ hg hdb hs1 hs2 hs3 hpl) (h (.val _) rfl)
   .exact h.elim
  |fresh l=>rw[z]at h;exact h.elim
  |err x=>rw[z]at h;exact h.elim
  |lval d=>rw[z]at h;exact h.elim
  |no=>rw[z]at h;exact h.elim
 .exact h.elim
theorem Ts.nmake:∀{X:Cx}{x t y:Nat}{nx nt ny:aj}{it' e1' e2':Ex}{it e1 e2:ao}{p1 p2 p3 p4 p5 p6 p10 p11 p12 p14 p16 p17 p18:aO}(hq:X.calm=a6) (hX:X.N[x]?=a3 nx) (hT:X.N[t]?=a3 nt) (hY:X.N[y]?=a3 ny) (lx:Loc X.env.scope nx) (lt:Loc X.env.scope nt) (ly:Loc X.env.scope ny) (fx:X.fn nx=a6\/X.env.scope.names.lookup nx=a3 .local) (ft:X.fn nt=a6\/X.env.scope.names.lookup nt=a3 .local) (fy:X.fn ny=a6\/X.env.scope.names.lookup ny=a3 .local) (dx:(nx==k8q)=a4) (cx:(nx==k8r)=a4) (dt:(nt==k8q)=a4) (ct:(nt==k8r)=a4) (s1:aZ (.Dict [] [] p2) (a3 (.Name nx p1)) p3.line X.env=pure a4) (s2:aZ e1 (a3 (.Name ny p5)) p6.line X.env=pure a4) (s3:aZ e2 (a3 (.Subscript (.Name nx p10) (.Name nt p11) p12)) p14.line X.env=pure a4) (hf:∀x,aH it X.env x=pure x),Tr X it' (.i (.Name nt p4) it)->Tr X e1' (.e e1)->Tr X e2' (.e e2)->Ts X (.nmake x t y it' e1' e2') (.ss (jak nx nt ny it e1 e2 p1 p2 p3 p4 p5 p6 p10 p11 p12 p14 p16 p17 p18)):=by
 intro _ x t y nx nt ny it' e1' e2' it e1 e2 p1 p2 p3 p4 p5 p6 p10 p11 p12 p14 p16 p17 p18 hq hX hT hY lx lt ly fx ft fy dx cx dt ct s1 s2 s3 hf hit he1 he2;refine⟨λfu Γ G=>?_⟩;intro c g ρ P h;rw[j3d]at h;split at h
 .rename_i hcnd;obtain⟨rx,rt,ry,hxt,hxy,hty⟩:=hcnd;have ln:(j9 ρ).length=ρ.length:=by unfold j9;rw[xg]
  rw[ln]at rx rt ry;split at h
  .rename_i ds eds;split at h
   .rename_i r er;refine DSs.nmake (W:=λi ρ' ks ns=>Vh (λρ=>stOf (ev Γ G e1' ρ)) (λρ=>stOf (ev Γ G e2' ρ)) x t y (ds.drop i) (j9 ρ') ks ns=a3 r) rx rt ry hxt hxy hty (sound hit c g (ρ.set x .un) ds (by rw[jl];exact eds))
     (by rw[eP,jl];exact er) (λi d ρ' ks ns hd w=>?_) (λρ' ks ns w=>?_) c.un' hq c.po c.nd hX hT hY lx lt ly fx ft fy dx cx dt ct s1 s2 s3 hf
    .have hdr:ds.drop i=d::ds.drop (i+1):=by obtain⟨hlt,e⟩:=X8.mp hd;rw[cg hlt,e]
     rw[hdr]at w;cases d with
     |tup l =>
      simp only[Vh]at w;split at w
      .rename_i k d1 ek ed;obtain⟨z,ez,ed2⟩:=Di ed;have hk:=Ju ek;subst hk;split at w
       .rename_i n en;obtain⟨z2,ez2,ed3⟩:=Di en;split at w
        .rename_i hh;refine⟨k,d1,n,rfl,(sound he1 c g (ρ'.set t (.val (.tup (k.map D.int)))) z (by rw[jl];exact ez)).toE ed2,(sound he2 c g (((ρ'.set t (.val (.tup (k.map D.int)))).set y (.val d1)).set x (.val (.dct ks (ns.map D.int)))) z2 (by rw[jl,jl,jl];exact ez2)).toE ed3,hh.1,hh.2,by rw[jl,jl];exact w⟩
        .cases w
       .cases w
      .cases w
     |_=>simp only[Vh]at w;cases w
    .rw[jG,Vh]at w;cases w;exact h (.val (.dct ks (ns.map D.int))) rfl
   .exact h.elim
  .exact h.elim
 .exact h.elim
section
theorem Uq{fu:Nat}{Γ:aj->List D->Rc}{G:aj->Option D}{X:Cx}{t:Sx}{nd:Ns}(h:Ts X t nd):Cok X G->Gok X Γ->jb2 fu Γ G X t nd:=h.m fu Γ G
end
structure Fi where
 n:Nat
 nn:Nat
 body:Sx
 lam:Bool
noncomputable def j41:Rc->Rc
 |.val d=>.lval d
 |_=>.no
noncomputable def fin:So->Rc
 |.ret r=>r
 |.next _=>.val .non
 |.err x _=>.err x
 |_=>.no
noncomputable def enter(F:Fi)(ds:List D):En:=ds.map Sv.val++ae (F.nn-F.n) Sv.un
noncomputable def evP(fu:Nat)(G:aj->Option D)(T:aj->Option Fi):Nat->aj->List D->Rc
 |0,_,_=>.no
 |n+1,f,ds=>match T f with
  |none=>.no
  |some F=>if ds.length=F.n then(if F.lam=a6 then j41 (fin (run fu (evP fu G T n) G F.body (enter F ds)))else fin (run fu (evP fu G T n) G F.body (enter F ds)))else .no
structure Lk(P:av)(w:az)(K:k8m)(mg:k8p)(base:aD)(x:aj)(F:Fi):Prop where
 ex:∃(st:bp)(f:aa)(fd:aQ)(N ps:List aj),Fun K x x st f fd/\FnScope N ps (jb st)/\ps.length=F.n/\N.length=F.nn/\Binds K fd ps []/\Dfl K x fd ps/\mg x=a3 (.ref f) /\
  ∀(cdv:a8)(A:aC)(outer:List dS)(s:af)(H:Hp)(E:XK)(xe:k8n),Ts ((vo CX0 P w K mg base N x (jb st) f cdv A outer s H E).wish xe) F.body (.ss (jr st))
structure LkL(P:av)(w:az)(K:k8m)(mg:k8p)(base:aD)(x:aj)(F:Fi):Prop where
 ex:∃(tx:Tx)(N ps:List aj)(e:Ex),Qt K x=a3 tx/\LamScope N ps tx.2.2/\N.length=F.n/\F.nn=F.n/\F.body=.ret e /\
  (∀(cl:List (aj×aa)) (pm:a8) (c:aa) (ctv:a8) (us:List a8),us.length=ps.length->fj (W.kla_fn "<lambda>" (jx x) tx.1 tx.2.1 tx.2.2 cl pm (.ref c) ctv) ⟨us,[]⟩=pure (ps.zip us)) /\
  ∀(a c:aa)(cl:List (aj×aa)) (A:aC) (outer:List dS) (s:af) (H:Hp),Tr (Ua P w K mg base N (jx x) tx.2.2 a (.ref c) cl A outer s H) e (.e tx.2.1)
def LkF(P:av)(w:az)(K:k8m)(mg:k8p)(base:aD)(f:aj)(F:Fi):Prop:=(F.lam=a4->Lk P w K mg base f F/\f.cps.toList.getLast?≠a3 62)/\(F.lam=a6->∃x,f=jx x/\LkL P w K mg base x F)
def j7j(P:av)(w:az)(K:k8m)(mg:k8p)(base:aD):Prop:=∃(f:aa)(fd:aQ)(ps:List aj),FnOk P w K mg base CX0 11 f fd ps (jer K jae)/\mg "_law_plan" = a3 (.ref f)/\W.keepIn K (.ref f)=a6/\Binds K fd ps []/\Dfl K "_law_plan" fd ps
structure Tb(P:av)(w:az)(K:k8m)(mg:k8p)(base:aD)(G:aj->Option D):Prop where
 bt:∀x∈Vq,mg x=a7
 gl:∀x d,Vp x=a4->G x=a3 d->∃u v,mg x=a3 u/\RelV v u/\∀H,Enc K H d v
 ea:Iz K=a6
 ec:∀x d,G (bang x)=a3 d->x∈Jr/\∃o,W.nsIn K au x=a3 (a3 o)
 el:G "?" = a3 (.bl a6)->∀c∈Jr,∃v,W.nsIn K au c=a3 (a3 v)
 kin:K.In base
 ns:base.Ns au mg
 kd:∀x l,G (bang x)=a3 (.lst l)->KindsP P w K mg base "_law_kinds" x l
 fn:∀f d,G (qm f)=a3 d->∃fa,mg f=a3 (.ref fa)/\W.keepIn K (.ref fa)=a6
 pl:∀d,G (qm "_law_plan")=a3 d->j7j P w K mg base
 lm:∀x∈Zn,∀f cdv,mg x=a3 (.ref f)->Rq K f cdv->∃c Pt,cdv=.ref c/\W.codeHdIn K c Pt=a6/\W.tabIn K x=a3 (c,Pt)
structure LkH(P:av)(w:az)(K:k8m)(mg:k8p)(base:aD)(x:aj)(F:Fi):Prop where
 ex:∃(st:bp)(f:aa)(fd:aQ)(N:List aj)(p:aj),Fun K x x st f fd/\FnScope N [p] (jb st)/\1<=N.length/\N.length=F.nn/\Binds K fd [p] []/\mg x=a3 (.ref f) /\
  ∀(cdv:a8)(A:aC)(outer:List dS)(s:af)(H:Hp),Ts { (vo CX0 P w K mg base N x (jb st) f cdv A outer s H E0).nox with calm:=a4 } F.body (.ss (jr st))
section
variable{P:av}{w:az}{K:k8m}{mg:k8p}{base:aD}{fu:Nat}{G:aj->Option D}{T:aj->Option Fi}
theorem Wl{N:List aj}{ds:List D}{F:Fi}(h1:ds.length=F.n)(h2:N.length=F.nn):j9 (qw N ds)=enter F ds:=by unfold j9 qw enter;rw[Pq,Xe,List.map_replicate,h1,h2];rfl
theorem Ro(y:aj):(bang y).cps.toList.head?=a3 33:=by unfold bang;show(("!":aj).cps++y.cps).toList.head?=a3 33;rw[Tj];rfl
theorem je5 (y:aj):bang y ≠ "?":=λh=>by have:=Ro y;rw[h]at this;exact absurd this (by decide)
theorem j2g(y:aj):(qm y).cps.toList.head?=a3 63:=by unfold qm;show(("??":aj).cps++y.cps).toList.head?=a3 63;rw[Tj];rfl
theorem jjf (y:aj):qm y ≠ "?":=λh=>by
 have e:((qm y).cps.toList.drop 1).head?=a3 63:=by unfold qm;show((("??":aj).cps++y.cps).toList.drop 1).head?=a3 63;rw[Tj];rfl
 rw[h]at e;exact absurd e (by decide)
theorem jfc{x y:aj}(h:qm x=qm y):x=y:=by unfold qm at h;have h:(⟨("??":aj).cps++x.cps⟩:aj)=⟨("??":aj).cps++y.cps⟩:=h;have h:=congrArg kJ h;have e:x.cps=y.cps:=gP h rfl;cases x;cases y;cases e;rfl
theorem j3b(x y:aj):bang x≠qm y:=λh=>by have:=Ro x;rw[h,j2g]at this;exact absurd this (by decide)
theorem Mt{x y z:aj}(h:x++z=y++z):x=y:=by have h:(⟨x.cps++z.cps⟩:aj)=⟨y.cps++z.cps⟩:=h;have h:=congrArg kJ h;have e:x.cps=y.cps:=Array.append_inj_left' h rfl;cases x;cases y;cases e;rfl
theorem j8j{x y:aj}(h:jx x=jx y):x=y:=Mt (Mt h)
theorem K9(x:aj):(jx x).cps.toList.getLast?=a3 62:=by unfold jx;show(((x ++ ".<locals>.").cps)++("<lambda>":aj).cps).toList.getLast?=a3 62;rw[Tj,iu];rfl
theorem j42(x:aj):jx x∉Zn:=λh=>by
 have e:=K9 x
 revert e
 unfold Zn at h;rcases xn.mp h with h|h
 .rw[h];decide
 rcases xn.mp h with h|h
 .rw[h];decide
 rcases xn.mp h with h|h
 .rw[h];decide
 .rw[xj.mp h];decide
theorem jf5{fu:Nat}{Γ:aj->List D->Rc}{G:aj->Option D}{e:Ex}{ρ:En}{d:D}(h:fin (run fu Γ G (.ret e) ρ)=.val d):∃r,ev Γ G e ρ=a3 (.v r)/\r.d=d:=by
 rw[jb1]at h;cases z:ev Γ G e ρ with
 |none=>rw[z]at h;cases y:er Γ G e ρ<;>(rw[y]at h;cases h)
 |some w =>
  cases w with
  |v r =>
   rw[z]at h;cases r with
   |o l=>cases h
   |e d=>cases h;exact⟨_,rfl,rfl⟩
   |w l=>cases h;exact⟨_,rfl,rfl⟩
   |t d=>cases h;exact⟨_,rfl,rfl⟩
  |a l=>rw[z]at h;cases y:er Γ G e ρ<;>(rw[y]at h;cases h)
  |i l=>rw[z]at h;cases y:er Γ G e ρ<;>(rw[y]at h;cases h)
theorem Yt (t:Tb P w K mg base G) {X:Cx} {n:Nat} (h1:X.prog=P) (h2:X.w=w) (h3:X.K=K) (h4:X.mg=mg) (h5:X.base=base) (hn:12<=n) (hr:Room n X.A) (nd:X.N.Nodup) (po:gw (ay X.prog X.w) X.A X.env X.xe) (hlm:∀x∈Zn,X.env.qual=x ++ ".<locals>."->∃c P,X.env.code=.ref c/\W.codeHdIn K c P=a6/\W.tabIn K x=a3 (c,P)):Cok X G:=by subst h1 h2 h3 h4 h5;exact⟨by have:=hr.un;omega,(λ_=>by have:=hr.un;omega),(λ_=>by have:=hr.dp;omega),t.bt,t.gl,nd,po,t.ea,t.ec,t.el,t.kin,t.ns,t.kd,t.fn,λd e=>let ⟨f,fd,ps,F,h1,h2,h3,h4⟩:=t.pl d e;⟨11,f,fd,ps,F,hr.mono hn,h1,h2,h3,h4⟩,hlm⟩
theorem Mh (t:Tb P w K mg base G) {g:aj} {f:aa} {cdv:a8} {env:dS} (hm:mg g=a3 (.ref f)) (hcv:Rq K f cdv) (hq:env.qual=g ++ ".<locals>.") (hc:env.code=cdv):∀x∈Zn,env.qual=x ++ ".<locals>."->∃c P,env.code=.ref c/\W.codeHdIn K c P=a6/\W.tabIn K x=a3 (c,P):=λx hx e=>by have eg:=Mt (hq.symm.trans e);subst eg;rw[hc];exact t.lm _ hx f cdv hm hcv
noncomputable def lv:Nat->Nat
 |0=>12
 |n+1=>lv n+2
theorem U7:∀n,12<=lv n+1
 |0=>by decide
 |n+1=>by have:=U7 n;unfold lv;omega
theorem N7(hT:∀x F,T x=a3 F->LkF P w K mg base x F)(t:Tb P w K mg base G):∀(n:Nat)(x:aj)(ds:List D),
  ∃(f:aa)(fd:aQ)(ps:List aj),match evP fu G T n x ds with
   |.val d=>FnOk P w K mg base CX0 (lv n) f fd ps (spP K λds' d'=>ds'=ds/\d'=d)/\mg x=a3 (.ref f)/\W.keepIn K (.ref f)=a6/\Binds K fd ps []/\Dfl K x fd ps
   |.fresh l=>FnOk P w K mg base CX0 (lv n) f fd ps (spF K λds' l'=>ds'=ds/\l'=l)/\mg x=a3 (.ref f)/\W.keepIn K (.ref f)=a6/\Binds K fd ps []/\Dfl K x fd ps
   |.err y=>FnOk P w K mg base (CX1 P w) (lv n) f fd ps (spX K mg λds' z=>ds'=ds/\z=y)/\mg x=a3 (.ref f)/\W.keepIn K (.ref f)=a6/\Binds K fd ps []
   |.lval d=>∀y,x=jx y->Ed P w K mg base (lv n) y λds' d'=>ds'=ds/\d'=d
   |.no=>True
 |0,x,ds=>⟨0,W.fnOf x x { posonlyargs:=[],args:=[],vararg:=a7,kwonlyargs:=[],kw_defaults:=[],kwarg:=a7,defaults:=[] } [] { kind:=.function,names:=[],isGenerator:=a4,isCoroutine:=a4 } .none .none .none .none a7 .none .none,[],trivial⟩
 |n+1,x,ds=>by
  have ih:=N7 hT t n;cases hF:T x with
  |none =>
   obtain⟨f,fd,ps,_⟩:=ih x ds;refine⟨f,fd,ps,?_⟩;have e:evP fu G T (n+1) x ds=.no:=by simp only[evP,hF]
   rw[e];trivial
  |some F =>
   have gok:∀{X:Cx},X.prog=P->X.w=w->X.K=K->X.mg=mg->X.base=base->Room (lv n+1) X.A->Gok X (evP fu G T n):=λ{X} h1 h2 h3 h4 h5 hr g ds'=>by
    subst h1 h2 h3 h4 h5;obtain⟨f',fd',ps',q⟩:=ih g ds';cases z:evP fu G T n g ds' with
    |val d=>rw[z]at q;exact⟨lv n,f',fd',ps',q.1,hr,q.2.1,q.2.2.1,q.2.2.2⟩
    |fresh l=>rw[z]at q;exact⟨lv n,f',fd',ps',q.1,hr,q.2.1,q.2.2.1,q.2.2.2⟩
    |err y=>rw[z]at q;exact⟨lv n,f',fd',ps',q.1,hr.mono (Pk _),q.2.1,q.2.2.1,q.2.2.2⟩
    |lval d=>rw[z]at q;exact λy hy=>⟨lv n,hr.mono (Pk _),q y hy⟩
    |no=>trivial
   cases hlam:F.lam with
   |true =>
    obtain⟨f,fd,ps,_⟩:=ih x ds;refine⟨f,fd,ps,?_⟩;by_cases hl:ds.length=F.n
    .have e:evP fu G T (n+1) x ds=j41 (fin (run fu (evP fu G T n) G F.body (enter F ds))):=by simp only[evP,hF,if_pos hl,hlam,if_true]
     rw[e];obtain⟨y,ey,L⟩:=(hT x F hF).2 hlam;obtain⟨tx,N,ps,ex,htx,hsc,hN,hnn,hbd,hba,htr⟩:=L.ex;cases ho:fin (run fu (evP fu G T n) G F.body (enter F ds)) with
     |val d =>intro y' hy';have eyy:y=y':=j8j (ey.symm.trans hy');subst eyy;refine jgg (k:=lv n+1) htx hsc (λds' d' h=>by rw[h.1,hl,hN]) hba λa c cl A outer s H hcl hr ds' d' ⟨e1,e2⟩=>?_;subst e1 e2;have ab:j9 (qw N ds')=enter F ds':=Wl hl (by rw[hN,hnn]);rw[hbd,<-ab]at ho;obtain⟨r,er,ed⟩:=jf5 ho;exact ed▸(sound (htr a c cl A outer s H) (Yt t rfl rfl rfl rfl rfl (U7 _) hr hsc.nd bZ λz hz hq=>absurd (Mt hq▸hz) (j42 y)) (gok rfl rfl rfl rfl rfl hr) (qw N ds') r er).toT
     |fresh l=>trivial
     |err z=>trivial
     |lval z=>trivial
     |no=>trivial
    .have e:evP fu G T (n+1) x ds=.no:=by simp only[evP,hF,if_neg hl]
     rw[e];trivial
   |false =>
   obtain⟨st,f,fd,N,ps,hfun,hsc,hps,hN,hb,hdf,hm,hts⟩:=((hT x F hF).1 hlam).1.ex;refine⟨f,fd,ps,?_⟩;by_cases hl:ds.length=F.n
   .have e:evP fu G T (n+1) x ds=fin (run fu (evP fu G T n) G F.body (enter F ds)):=by simp only[evP,hF,if_pos hl,hlam,Xp,if_false]
    have ab:j9 (qw N ds)=enter F ds:=Wl hl hN;cases ho:run fu (evP fu G T n) G F.body (enter F ds) with
    |next ρ' =>rw[e,ho];refine⟨Cg (k:=lv n+1) hfun hsc (λds' d' h=>by rw[h.1,hl,hps]) λcdv A outer s H E hcv hr ds' d' ⟨e1,e2⟩=>?_,hm,hfun.kp,hb,hdf⟩;subst e1 e2;refine Uq (fu:=fu) (hts cdv A outer s H E _) (Yt t rfl rfl rfl rfl rfl (U7 _) hr hsc.nd bZ (Mh t hm hcv rfl rfl)) (gok rfl rfl rfl rfl rfl hr) (qw N ds') _ ?_;rw[ab,ho];exact λ_ _=>rfl
    |ret r =>
     rw[e,ho];cases r with
     |no=>trivial
     |lval d=>exact λy hy=>absurd (hy▸K9 y) ((hT x F hF).1 hlam).2
     |err y =>refine⟨j6k (k:=lv n+1) hfun hsc (λds' d' h=>by rw[h.1,hl,hps]) λcdv A outer s H E hcv hr ds' y' ⟨e1,e2⟩=>?_,hm,hfun.kp,hb⟩;subst e1 e2;refine Uq (X:=vo (CX1 P w) P w K mg base N x (jb st) f cdv A outer s H E) (fu:=fu) (hts cdv A outer s H E (vo (CX1 P w) P w K mg base N x (jb st) f cdv A outer s H E).xe) (Yt t rfl rfl rfl rfl rfl (U7 _) hr hsc.nd gQ (Mh t hm hcv rfl rfl)) (gok rfl rfl rfl rfl rfl hr) (qw N ds') _ ?_;rw[ab,ho];intro z hz;cases z<;>cases hz
     |val d =>
      refine⟨Cg (k:=lv n+1) hfun hsc (λds' d' h=>by rw[h.1,hl,hps]) λcdv A outer s H E hcv hr ds' d' ⟨e1,e2⟩=>?_,hm,hfun.kp,hb,hdf⟩;subst e1 e2;refine Uq (fu:=fu) (hts cdv A outer s H E _) (Yt t rfl rfl rfl rfl rfl (U7 _) hr hsc.nd bZ (Mh t hm hcv rfl rfl)) (gok rfl rfl rfl rfl rfl hr) (qw N ds') _ ?_;rw[ab,ho];intro y hy;cases y with
      |val d=>cases hy;rfl
      |fresh l=>cases hy
     |fresh l =>
      refine⟨j94 (k:=lv n+1) hfun hsc (λds' d' h=>by rw[h.1,hl,hps]) λcdv A outer s H E hcv hr ds' d' ⟨e1,e2⟩=>?_,hm,hfun.kp,hb,hdf⟩;subst e1 e2;refine Uq (fu:=fu) (hts cdv A outer s H E _) (Yt t rfl rfl rfl rfl rfl (U7 _) hr hsc.nd bZ (Mh t hm hcv rfl rfl)) (gok rfl rfl rfl rfl rfl hr) (qw N ds') _ ?_;rw[ab,ho];intro y hy;cases y with
      |val d=>cases hy
      |fresh l=>cases hy;rfl
    |err y ρ' =>rw[e,ho];refine⟨j6k (k:=lv n+1) hfun hsc (λds' d' h=>by rw[h.1,hl,hps]) λcdv A outer s H E hcv hr ds' y' ⟨e1,e2⟩=>?_,hm,hfun.kp,hb⟩;subst e1 e2;refine Uq (X:=vo (CX1 P w) P w K mg base N x (jb st) f cdv A outer s H E) (fu:=fu) (hts cdv A outer s H E (vo (CX1 P w) P w K mg base N x (jb st) f cdv A outer s H E).xe) (Yt t rfl rfl rfl rfl rfl (U7 _) hr hsc.nd gQ (Mh t hm hcv rfl rfl)) (gok rfl rfl rfl rfl rfl hr) (qw N ds') _ ?_;rw[ab,ho];exact λ_ _=>rfl
    |brk _=>rw[e,ho];trivial
    |cnt _=>rw[e,ho];trivial
    |no=>rw[e,ho];trivial
   .have e:evP fu G T (n+1) x ds=.no:=by simp only[evP,hF,if_neg hl]
    rw[e];trivial
end
noncomputable def Gof(gs:List (aj×D))(q:Bool)(xs:List (aj×List D))(fs:List aj)(x:aj):Option D :=
 if Vp x=a6 then(if x = "?" then(if q=a6 then a3 (.bl a6)else a7) else((xs.find? λp=>bang p.1==x).map λp=>.lst p.2).or (if (fs.any λf=>qm f==x)=a6 then a3 .non else a7))else gs.lookup x
theorem ja1{x y:aj}(h:bang x=bang y):x=y:=by unfold bang at h;have h:(⟨("!":aj).cps++x.cps⟩:aj)=⟨("!":aj).cps++y.cps⟩:=h;have h:=congrArg kJ h;have e:x.cps=y.cps:=gP h rfl;cases x;cases y;cases e;rfl
theorem j26(x:aj):Vp (bang x)=a6:=by unfold Vp;rw[Ro];rfl
theorem j7g(x:aj):Vp (qm x)=a6:=by unfold Vp;rw[j2g];rfl
theorem j0r{gs:List (aj×D)}{q:Bool}{xs:List (aj×List D)}{fs:List aj}{x:aj}{d:D}(h:Gof gs q xs fs (bang x)=a3 d):∃p∈xs,p.1=x/\d=.lst p.2:=by
 unfold Gof at h;rw[if_pos (j26 x),if_neg (je5 x)]at h;have hn:(fs.any λf=>qm f==bang x)=a4:=by rw[ja];intro f _ e;exact j3b x f (beq_iff_eq.mp e).symm
 rw[hn,if_neg (by decide),Option.or_none]at h;obtain⟨p,hp,rfl⟩:=Pb.mp h;have z:=List.find?_some (p:=λp:aj×List D=>bang p.1==bang x) hp;exact⟨p,List.mem_of_find?_eq_some hp,ja1 (beq_iff_eq.mp z),rfl⟩
theorem j6i{gs:List (aj×D)}{q:Bool}{xs:List (aj×List D)}{fs:List aj}{x:aj}{d:D}(h:Gof gs q xs fs (qm x)=a3 d):x∈fs:=by
 unfold Gof at h;rw[if_pos (j7g x),if_neg (jjf x)]at h;have hn:(xs.find? λp=>bang p.1==qm x)=a7:=by rw[List.find?_eq_none];intro p _ e;exact j3b p.1 x (beq_iff_eq.mp e)
 rw[hn,Option.map_none,Option.none_or]at h;split at h
 .rename_i z;obtain⟨f,hf,e⟩:=List.any_eq_true.mp z;exact jfc (beq_iff_eq.mp e)▸hf
 .cases h
theorem jiu{P:av}{w:az}{K:k8m}{mg:k8p}{base:aD}{gs:List (aj×D)}{q:Bool}{xs:List (aj×List D)}{fs:List aj}(bt:∀x∈Vq,mg x=a7)
  (gl:∀x d,gs.lookup x=a3 d->∃u v,mg x=a3 u/\RelV v u/\∀H,Enc K H d v) (ea:Iz K=a6) (hx:∀p∈xs,p.1∈Jr/\∃o,W.nsIn K au p.1=a3 (a3 o))
  (el:q=a6->∀c∈Jr,∃v,W.nsIn K au c=a3 (a3 v)) (kin:K.In base) (ns:base.Ns au mg) (fn:∀f∈fs,∃fa,mg f=a3 (.ref fa)/\W.keepIn K (.ref fa)=a6) (kd:∀p∈xs,KindsP P w K mg base "_law_kinds" p.1 p.2) (lm:∀x∈Zn,∀f cdv,mg x=a3 (.ref f)->Rq K f cdv->∃c Pt,cdv=.ref c/\W.codeHdIn K c Pt=a6/\W.tabIn K x=a3 (c,Pt)) (pl:("_law_plan":aj)∈fs->j7j P w K mg base:=by exact λh=>absurd h (by decide)):Tb P w K mg base (Gof gs q xs fs):=by
 refine⟨bt,λx d hb h=>?_,ea,λx d h=>?_,λh=>el ?_,kin,ns,λx l h=>?_,λf d h=>fn f (j6i h),λd h=>pl (j6i h),lm⟩
 .unfold Gof at h;rw[if_neg (by rw[hb];decide)]at h;exact gl x d h
 .obtain⟨p,hp,rfl,_⟩:=j0r h;exact hx p hp
 .unfold Gof at h;rw[if_pos (by decide),if_pos rfl]at h;split at h
  .rename_i z;exact z
  .cases h
 .obtain⟨p,hp,rfl,e⟩:=j0r h;cases e;exact kd p hp
def Ik(K:k8m):Sp:=λvs H Q _=>∃(a:aa)(ns:List Int),vs=[.ref a]/\TabOk K H/\SqL K H a (ns.map V.int)/\ns.length<=63/\∀H':Hp,j0 H H'->Q (.bl a6) H'
theorem j1z{K:k8m}{H:Hp}{a:aa}{ns:List Int}(h:SqL K H a (ns.map V.int)):j5 K H [.lst (ns.map D.int)] [.ref a] :=
 ⟨_,[],rfl,⟨a,_,rfl,h,j5.ints ns⟩,rfl⟩
theorem jgf{P:av}{w:az}{K:k8m}{mg:k8p}{base:aD}{fu:Nat}{G:aj->Option D}{T:aj->Option Fi}{n:Nat}{x p:aj}{fa:aa}{st:bp}{F:Fi}
  (hT:∀x F,T x=a3 F->LkF P w K mg base x F) (t:Tb P w K mg base G)
  (hx:T x=a3 F) (hlam:F.lam=a4) (hm:mg x=a3 (.ref fa)) {fd:aQ} (hfun:Fun K x x st fa fd) (N:List aj) (hsc:FnScope N [p] (jb st)) (h1:F.n=1) (hN:N.length=F.nn)
  (hts:∀(cdv:a8)(A:aC)(outer:List dS)(s:af)(H:Hp)(E:XK)(xe:k8n),Ts ((vo CX0 P w K mg base N x (jb st) fa cdv A outer s H E).wish xe) F.body (.ss (jr st)))
  (hlaw:∀ns:List Int,ns.length<=63->evP fu G T (n+1) x [.lst (ns.map D.int)]=.val (.bl a6)):FnOk P w K mg base CX0 (lv (n+1)) fa fd [p] (Ik K):=by
 have S:FnOk P w K mg base CX0 (lv (n+1)) fa fd [p] (spP K λds d=>∃ns:List Int,ns.length<=63/\ds=[.lst (ns.map D.int)]/\d=.bl a6):=by
  refine Cg (k:=lv n+1) hfun hsc (λds d ⟨ns,_,h,_⟩=>by rw[h];rfl) λcdv A outer s H E hcv hr ds d ⟨ns,hns,e1,e2⟩=>?_;subst e1 e2;have e:=hlaw ns hns;simp only[evP,hx,h1,hlam,Xp,if_false,X3,T5,if_true]at e;have ab:j9 (qw N [D.lst (ns.map D.int)])=enter F [D.lst (ns.map D.int)]:=Wl (by rw[h1];rfl) hN;have g:Gok (vo CX0 P w K mg base N x (jb st) fa cdv A outer s H E).nox (evP fu G T n):=λg ds'=>by
   obtain⟨f',fd',ps',q⟩:=N7 (fu:=fu) hT t n g ds';cases z:evP fu G T n g ds' with
   |val d=>rw[z]at q;exact⟨lv n,f',fd',ps',q.1,hr,q.2.1,q.2.2.1,q.2.2.2⟩
   |fresh l=>rw[z]at q;exact⟨lv n,f',fd',ps',q.1,hr,q.2.1,q.2.2.1,q.2.2.2⟩
   |err y=>rw[z]at q;exact⟨lv n,f',fd',ps',q.1,hr.mono (Pk _),q.2.1,q.2.2.1,q.2.2.2⟩
   |lval d=>rw[z]at q;exact λy hy=>⟨lv n,hr.mono (Pk _),q y hy⟩
   |no=>trivial
  refine Uq (fu:=fu) (hts cdv A outer s H E _) (Yt t rfl rfl rfl rfl rfl (U7 _) hr hsc.nd bZ (Mh t hm hcv rfl rfl)) g (qw N _) _ ?_;rw[ab];cases ho:run fu (evP fu G T n) G F.body (enter F [D.lst (ns.map D.int)]) with
  |ret r =>
   rw[ho]at e;have e:r=.val (.bl a6):=e;subst e;intro y hy;cases y with
   |val d=>cases hy;rfl
   |fresh l=>cases hy
  |next ρ'=>rw[ho]at e;cases e
  |brk _=>rw[ho]at e;cases e
  |cnt _=>rw[ho]at e;cases e
  |err _ _=>rw[ho]at e;cases e
  |no=>rw[ho]at e;cases e
 refine S.imp λvs H Q E ⟨a,ns,hv,tb,hS,hl,k⟩=>?_;subst hv;exact⟨[],_,_,tb,(λa h=>nomatch h),by rw[J8];exact j1z hS,⟨ns,hl,rfl,rfl⟩,λv H' g e=>by cases(show v=.bl a6 from e);exact k H' g⟩
noncomputable def Ij(K:k8m):List (aa×aj):=Zn.filterMap λx=>(W.tabIn K x).map λq=>(q.2,jx x)
noncomputable def tOk(K:k8m)(ts:List aa):Bool:=(Zn.all λx=>match W.nsIn K au x with
  |some a7=>a6
  |_=>match W.tabIn K x with
   |some (c,P)=>W.codeHdIn K c P&&ts.contains P
   |none=>a4)&&W.noTabs K&&decide ((Ij K).map (·.1)).Nodup
theorem jbb{K:k8m}{ts:List aa}{h:aD}(hk:tOk K ts=a6)(X:K.In h)(ht:∀P∈ts,h.get? P=a3 (W.tabObj #[])):ja5 (Ij K) h:=by
 unfold tOk at hk;rw[Xg,Xg]at hk;refine⟨of_decide_eq_true hk.2,λt hm=>?_⟩;obtain⟨x,hx,e⟩:=Tg.mp hm;obtain⟨⟨c,P⟩,e1,e2⟩:=Pb.mp e;subst e2;have z:=T7.mp hk.1.1 x hx;split at z
 .rename_i y;exfalso;unfold W.tabIn at e1;rw[y]at e1;cases e1
 .rw[e1]at z;have z:(W.codeHdIn K c P&&ts.contains P)=a6:=z;rw[Xg]at z;exact⟨⟨c,W.codeHd_of_K X z.1⟩,ht P (by simpa using z.2)⟩
theorem jjq{K:k8m}{ts:List aa}{h:aD}{mg:k8p}(hk:tOk K ts=a6)(X:K.In h)(Gn:h.Ns au mg):∀x∈Zn,∀f cdv,mg x=a3 (.ref f)->Rq K f cdv->∃c Pt,cdv=.ref c/\W.codeHdIn K c Pt=a6/\W.tabIn K x=a3 (c,Pt):=λx hx f cdv hm hcv=>by
 unfold tOk at hk;rw[Xg,Xg]at hk;have z:=T7.mp hk.1.1 x hx;split at z
 .rename_i y;rw[W.mg_none_of X Gn y]at hm;cases hm
 .split at z
  .rename_i c P e;rw[Xg]at z;refine⟨c,P,?_,z.1,e⟩;obtain⟨oc,od,fd,sl,e3,e4⟩:=hcv;unfold W.tabIn at e;split at e
   .rename_i f' hf;have e5:=W.mg_of X Gn hf;rw[hm]at e5;cases e5;rw[e3]at e;dsimp only at e;split at e
    .rename_i c' hc;split at e
     .split at e
      .cases e;rw[<-e4];exact hc
      .cases e
     .cases e
    .cases e
   .cases e
  .cases z
theorem jem{K:k8m}{H:Hp}(hO:Only (Ij K) H):TabOk K H:=λx hx c P e=>hO.2 (P,jx x) (Tg.mpr ⟨x,hx,by rw[e];rfl⟩)
theorem j5s{K:k8m}{ts:List aa}(hk:tOk K ts=a6):W.noTabs K=a6:=by unfold tOk at hk;rw[Xg,Xg]at hk;exact hk.1.2
theorem walkL{l:dB}{q:av}{loose:List aj}{XP:(aj->Option a8)->aD->Prop}{YP:az->aD->Prop}{d:DefRec}{K:lW->k8m}{k:Nat}{x:aj}{ts:List aa}(hk:k<=100)(hn:l.most=a3 63)(hdf:d.params.defaults=[])
  (hY:∀(w:az)(h:aD),YP w h->(K w.params).In h/\∀P∈ts,h.get? P=a3 (W.tabObj #[])) (hK:∀w:az,tOk (K w.params) ts=a6)
  (F:∀(w:az)(mg:k8p)(fa:aa)(h:aD),(K w.params).In h->h.Ns au mg->mg d.name=a3 (.ref fa)->tOk (K w.params) ts=a6 ->
   ∃fd:aQ,(∀(s:af)(u:a8),dA s fd ⟨[u],[]⟩ [(x,u)])/\∀base:aD,(K w.params).In base->base.Ns au mg->FnOk l.prog w (K w.params) mg base CX0 k fa fd [x] (Ik (K w.params))) :
  iz q loose XP YP l.row.toRowW d [] (λf vs=>fb f vs) :=
 L2.walk_of (n:=63) (k:=k) (x:=x) (CX:=λ_=>CX0) (sp:=λw=>Ik (K w.params)) (ts:=λw=>Ij (K w.params)) hn (by decide) hdf
  (Room.mono (k:=100) ⟨rfl,by decide,by decide⟩ hk) (λw h Y=>⟨(hY w h Y).1,jbb (hK w) (hY w h Y).1 (hY w h Y).2⟩) (λw=>j5s (hK w)) (λw mg fa h X G m=>F w mg fa h X G m (hK w)) (λw H a ns hl hO hS=>⟨a,ns,rfl,jem hO,hS,hl,λH' g=>⟨rfl,g⟩⟩) λ_ _ _ _ _ z=>z
def Lf(K:k8m)(x:aj)(st:bp):Prop:=∃(f:aa)(oc:a8)(od:Option aa)(kV dc pm:a8)(an:Option aa)(cd ct:a8)(sl:Array (Option a8)),W.nsIn K au x=a3 (a3 (.ref f)) /\
 K.lookup f=a3 ⟨oc,od,.func (W.fnOf x x (v7 st) (jr st) (jb st) .none kV dc pm an cd ct),sl⟩/\W.codeIn K cd x=a6/\W.keepIn K (.ref f)=a6
def Lfd(K:k8m)(x:aj)(st:bp):Prop:=∃(f:aa)(oc:a8)(od:Option aa)(kV dc pm:a8)(an:Option aa)(cd ct:a8)(sl:Array (Option a8)) (dt:aa) (n:Nat) (ts:Array (Option a8)),W.nsIn K au x=a3 (a3 (.ref f)) /\
 K.lookup f=a3 ⟨oc,od,.func (W.fnOf x x (v7 st) (jr st) (jb st) (.ref dt) kV dc pm an cd ct),sl⟩/\W.codeIn K cd x=a6/\W.keepIn K (.ref f)=a6/\K.lookup dt=a3 ⟨.type "tuple",a7,.seq #[.none] n,ts⟩
def TrT(P:av)(w:az)(K:k8m)(mg:k8p)(base:aD)(x:aj)(N:List aj)(st:bp)(b:Sx):Prop :=
 ∀(f:aa)(cdv:a8)(A:aC)(outer:List dS)(s:af)(H:Hp)(E:XK) (xe:k8n),Ts ((vo CX0 P w K mg base N x (jb st) f cdv A outer s H E).wish xe) b (.ss (jr st))
noncomputable def lamT(st:bp):Tx:=(Ox (jr st)).getD ({ posonlyargs:=[],args:=[],vararg:=a7,kwonlyargs:=[],kw_defaults:=[],kwarg:=a7,defaults:=[] },.Name "" ⟨0,0,0,0⟩,{ kind:=.function,names:=[],isGenerator:=a4,isCoroutine:=a4 })
def TrL(P:av)(w:az)(K:k8m)(mg:k8p)(base:aD)(x:aj)(N:List aj)(t:Tx)(e:Ex):Prop :=
 ∀(a c:aa)(cl:List (aj×aa)) (A:aC) (outer:List dS) (s:af) (H:Hp),Tr (Ua P w K mg base N (jx x) t.2.2 a (.ref c) cl A outer s H) e (.e t.2.1)
theorem jcu{sc:br}(x:aj)(h:sc.names.lookup x=a3 .free):x∈zy sc:=by unfold zy;rw[List.mem_reverse];exact xr.mpr ⟨(x,.free),Xh.mpr ⟨lookup_mem h,rfl⟩,rfl⟩
noncomputable def bOk(K:k8m):Bool:=Vq.all λx=>match W.nsIn K au x with
 |some a7=>a6
 |_=>a4
section
variable{P:av}{w:az}{K:k8m}{mg:k8p}{base h:aD}{x:aj}{st:bp}{N ps:List aj}{F:Fi}
theorem jkf(X:K.In h)(Gn:h.Ns au mg)(hb:bOk K=a6):∀x∈Vq,mg x=a7:=λx hx=>by
 have z:=T7.mp hb x hx;split at z
 .rename_i e;exact W.mg_none_of X Gn e
 .cases z
theorem qi(L:Lf K x st)(X:K.In h)(Gn:h.Ns au mg)(t:TrT P w K mg base x N st F.body)(ps:List aj)(sc:FnScope N ps (jb st))(h1:ps.length=F.n)(h2:N.length=F.nn)
  (hb:∀(kV doc pm:a8)(an:Option aa)(cdv ct:a8)(us:List a8),us.length=ps.length->fj (W.fnOf x x (v7 st) (jr st) (jb st) .none kV doc pm an cdv ct) ⟨us,[]⟩=pure (ps.zip us)) (hd:x∉j4a):Lk P w K mg base x F:=by
 obtain⟨f,oc,od,kV,dc,pm,an,cd,ct,sl,a,l,c,k⟩:=L;exact⟨st,f,_,N,ps,Nu l c k,sc,h1,h2,(Nu l c k).binds hb,λz=>absurd z hd,W.mg_of X Gn a,t f⟩
theorem jge(L:Lfd K x st)(X:K.In h)(Gn:h.Ns au mg)(t:TrT P w K mg base x N st F.body)(ps:List aj)(sc:FnScope N ps (jb st))(h1:ps.length=F.n)(h2:N.length=F.nn)(h3:0<ps.length)
  (hb:∀(dt:aa)(n:Nat)(ts:Array (Option a8)) (kV doc pm:a8) (an:Option aa) (cdv ct:a8) (s:af),K.In s.heap->K.lookup dt=a3 ⟨.type "tuple",a7,.seq #[.none] n,ts⟩ ->
   (∀us:List a8,us.length=ps.length->dA s (W.fnOf x x (v7 st) (jr st) (jb st) (.ref dt) kV doc pm an cdv ct) ⟨us,[]⟩ (ps.zip us)) /\
   (∀us:List a8,us.length+1=ps.length->dA s (W.fnOf x x (v7 st) (jr st) (jb st) (.ref dt) kV doc pm an cdv ct) ⟨us,[]⟩ (ps.zip (us++[.none]))) /\
   ∀(us:List a8)(v:a8),us.length+1=ps.length->dA s (W.fnOf x x (v7 st) (jr st) (jb st) (.ref dt) kV doc pm an cdv ct) ⟨us,[("prices",v)]⟩ (ps.zip (us++[v]))):Lk P w K mg base x F:=by
 obtain⟨f,oc,od,kV,dc,pm,an,cd,ct,sl,dt,n,ts,a,l,c,k,td⟩:=L;refine⟨st,f,_,N,ps,Nu l c k,sc,h1,h2,λs us hK hl=>?_,λ_=>⟨λs us hK hl=>?_,jjv h3 λs us v hK hl=>(hb dt n ts kV dc pm an cd ct s hK td).2.2 us v hl⟩,W.mg_of X Gn a,t f⟩
 .rw[Xu]at hl ⊢;exact(hb dt n ts kV dc pm an cd ct s hK td).1 us hl
 .exact(hb dt n ts kV dc pm an cd ct s hK td).2.1 us (by rw[Xf]at hl;exact hl)
theorem W5(L:Lf K x st):Qt K x=Ox (jr st):=by obtain⟨f,oc,od,kV,dc,pm,an,cd,ct,sl,a,l,c,k⟩:=L;unfold Qt;rw[a];dsimp only;rw[l]
theorem lkF(L:Lk P w K mg base x F)(h:F.lam=a4)(hn:x.cps.toList.getLast?≠a3 62):LkF P w K mg base x F:=⟨λ_=>⟨L,hn⟩,λz=>by rw[h]at z;cases z⟩
theorem j65{e:Ex}{q:aj}(hq:q=jx x)(h:Qt K x=Ox (jr st))(ht:Ox (jr st)=a3 (lamT st))(tr:TrL P w K mg base x N (lamT st) e)(ps:List aj)(sc:LamScope N ps (lamT st).2.2)(h1:N.length=F.n)(h2:F.nn=F.n)(hb:F.body=.ret e)(hl:F.lam=a6)
  (ha:∀(cl:List (aj×aa)) (pm:a8) (c:aa) (ctv:a8) (us:List a8),us.length=ps.length->fj (W.kla_fn "<lambda>" (jx x) (lamT st).1 (lamT st).2.1 (lamT st).2.2 cl pm (.ref c) ctv) ⟨us,[]⟩=pure (ps.zip us)):LkF P w K mg base q F :=
 ⟨λz=>by(rw[hl]at z;cases z),λ_=>⟨x,hq,⟨lamT st,N,ps,e,h.trans ht,sc,h1,h2,hb,ha,tr⟩⟩⟩
theorem us1{us:List a8}(h:us.length=1):∃a,us=[a]:=by match us,h with|[a],_=>exact⟨a,rfl⟩
theorem us2{us:List a8}(h:us.length=2):∃a b,us=[a,b]:=by match us,h with|[a,b],_=>exact⟨a,b,rfl⟩
theorem us3{us:List a8}(h:us.length=3):∃a b c,us=[a,b,c]:=by match us,h with|[a,b,c],_=>exact⟨a,b,c,rfl⟩
end
theorem lf_mk{K:k8m}{x:aj}{st:bp}{f:aa}{oc:a8}{od:Option aa}{kV dc pm:a8}{an:Option aa}{cd ct:a8}{sl:Array (Option a8)}(a:W.nsIn K au x=a3 (a3 (.ref f)))
  (l:K.lookup f=a3 ⟨oc,od,.func (W.fnOf x x (v7 st) (jr st) (jb st) .none kV dc pm an cd ct),sl⟩) (c:W.codeIn K cd x=a6) (k:W.keepIn K (.ref f)=a6):Lf K x st:=⟨f,oc,od,kV,dc,pm,an,cd,ct,sl,a,l,c,k⟩
theorem lfd_mk{K:k8m}{x:aj}{st:bp}{f:aa}{oc:a8}{od:Option aa}{kV dc pm:a8}{an:Option aa}{cd ct:a8}{sl:Array (Option a8)}{dt:aa}{n:Nat}{ts:Array (Option a8)}(a:W.nsIn K au x=a3 (a3 (.ref f)))
  (l:K.lookup f=a3 ⟨oc,od,.func (W.fnOf x x (v7 st) (jr st) (jb st) (.ref dt) kV dc pm an cd ct),sl⟩) (c:W.codeIn K cd x=a6) (k:W.keepIn K (.ref f)=a6) (t:K.lookup dt=a3 ⟨.type "tuple",a7,.seq #[.none] n,ts⟩):Lfd K x st:=⟨f,oc,od,kV,dc,pm,an,cd,ct,sl,dt,n,ts,a,l,c,k,t⟩
end L2
end
section
namespace L2
open PySem (Str sizeLine argBest)
theorem J4{n:Nat}(h:n<=1000000):n<=ar:=Xj h (by decide)
theorem lt_size{n:Nat}(h:n<=1000000):n<ar:=cD h (by decide)
noncomputable def Ws(o:So)(f:En->So):So:=match o with
 |.next ρ=>f ρ
 |o=>o
noncomputable def ifS(c:Option Bool)(f g:En->So)(ρ:En):So:=match c with
 |some a6=>f ρ
 |some a4=>g ρ
 |none=>.no
noncomputable def Ea(is:List Nat)(f:En->So)(d:D)(ρ:En):So:=match zb is d ρ with
 |some ρ2=>f ρ2
 |none=>.no
noncomputable def jan(is:List Nat)(w:Option W)(f:En->So)(ρ:En):So:=match w with
 |some (.i ds)=>vp (Ea is f) ds ρ
 |_=>.no
section
variable{fu:Nat}{Γ:aj->List D->Rc}{G:aj->Option D}{ρ:En}{i j:Nat}{e c k:Ex}{a b:Sx}{is:List Nat}
theorem jbp:run fu Γ G .nop ρ=.next ρ:=(rfl)
theorem jbm:run fu Γ G (.seq a b) ρ=Ws (run fu Γ G a ρ) (run fu Γ G b):=(rfl)
theorem jbl:run fu Γ G (.set i e) ρ=orE (Od i (ev Γ G e ρ) ρ) (er Γ G e ρ) ρ:=(rfl)
theorem jbq:run fu Γ G (.mov i j) ρ=Dp i j ρ[j]? ρ:=(rfl)
theorem j81:run fu Γ G (.expr e) ρ=orE (j0w (ev Γ G e ρ) ρ) (er Γ G e ρ) ρ:=(rfl)
theorem jbn:run fu Γ G (.ret e) ρ=orE (retS (ev Γ G e ρ)) (er Γ G e ρ) ρ:=(rfl)
theorem j89{ρ':En}{x:Option aj}:orE (.next ρ') x ρ=.next ρ':=(rfl)
theorem j2m{r:Rc}{x:Option aj}:orE (.ret r) x ρ=.ret r:=(rfl)
theorem j7w:run fu Γ G (.retV i) ρ=Ry ρ[i]?:=(rfl)
theorem jbr:run fu Γ G (.ife c a b) ρ=ifS (truth (ev Γ G c ρ)) (run fu Γ G a) (run fu Γ G b) ρ:=(rfl)
theorem j7z:run fu Γ G (.loop is e a) ρ=jan is (ev Γ G e (frz e ρ)) (run fu Γ G a) (frz e ρ):=(rfl)
theorem jbu:run fu Γ G (.app i e) ρ=Cz i ρ[i]? (ev Γ G e ρ) ρ:=(rfl)
theorem jbt:run fu Γ G (.ext i e) ρ=Cm i ρ[i]? (ev Γ G e ρ) ρ:=(rfl)
theorem jbo:run fu Γ G (.put i k e) ρ=Dl i ρ[i]? (ev Γ G k ρ) (ev Γ G e ρ) ρ:=(rfl)
theorem jbk:run fu Γ G (.unp i j e) ρ=Fw i j (stOf (ev Γ G e ρ)) ρ:=(rfl)
theorem jeg{d d':D}(h:i≠j):Fw i j (a3 (.tup [d,d'])) ρ=.next ((ρ.set i (.val d)).set j (.val d')):=by unfold Fw;dsimp only;rw[if_neg h]
theorem jeq{d:D}:stOf (a3 (.v (.e d)))=a3 d:=(rfl)
theorem j80:run fu Γ G (.keep i) ρ=Nj i ρ[i]? ρ:=(rfl)
theorem j6b{l:List D}:Nj i (a3 (.own l)) ρ=.next (ρ.set i (.val (.lst l))):=(rfl)
theorem j7x{x:aj}:run fu Γ G (.retL x is) ρ=N5 x (Qc ρ is):=(rfl)
theorem jbz{x:aj}{ds:List D}:N5 x (a3 ds)=.ret (.val (.fn x ds)):=(rfl)
noncomputable def jhq(s:Option Sv)(v:Option (List D)):Option (List D):=match s,v with
 |some (.val d),a3 ds=>a3 (d::ds)
 |_,_=>a7
theorem j3g:Qc ρ []=a3 []:=(rfl)
theorem j1n:Qc ρ (i::is)=jhq ρ[i]? (Qc ρ is):=(rfl)
theorem jhp{d:D}{ds:List D}:jhq (a3 (.val d)) (a3 ds)=a3 (d::ds):=(rfl)
theorem j7y{f x:aj}{a b:Ex}:run fu Γ G (.retC f x a b is) ρ=N6 Γ f x (Qc ρ is) (ev Γ G a ρ) (ev Γ G b ρ):=(rfl)
theorem jc0{f x:aj}{ds:List D}{d d':D}:N6 Γ f x (a3 ds) (a3 (.v (.e d))) (a3 (.v (.e d')))=Il (Γ f [d,d',.fn x ds]):=(rfl)
theorem jc1{d:D}(h:noFn d=a6):Il (.val d)=.ret (.val d):=if_pos h
theorem j52{x t y:Nat}{it e1 e2:Ex}{ds:List D}{r:List (List Int)×List Int}(hc:x<ρ.length/\t<ρ.length/\y<ρ.length/\x≠t/\x≠y/\t≠y)(hi:ev Γ G it (ρ.set x .un)=a3 (.i ds))(hd:Vh (λρ=>stOf (ev Γ G e1 ρ)) (λρ=>stOf (ev Γ G e2 ρ)) x t y ds (ρ.set x .un) [] []=a3 r) :
  run fu Γ G (.nmake x t y it e1 e2) ρ=.ret (.val (.dct r.1 (r.2.map D.int))):=by rw[j3d,if_pos hc,hi];dsimp only;rw[hd]
theorem jbs:run fu Γ G (.fgt i) ρ=.next (ρ.set i .un):=(rfl)
end
section
variable{f g:En->So}{ρ:En}{i j:Nat}{d:D}{l m:List D}{r:Rc}{x:Rk}
theorem Lw:Ws (.next ρ) f=f ρ:=(rfl)
theorem j02:Ws (.ret r) f=.ret r:=(rfl)
theorem jk1:ifS (a3 a6) f g ρ=f ρ:=(rfl)
theorem jk2:ifS (a3 a4) f g ρ=g ρ:=(rfl)
theorem jeu:Od i (a3 (.v (.o l))) ρ=.next (ρ.set i (.own l)):=(rfl)
theorem jev:Od i (a3 (.v (.e d))) ρ=.next (ρ.set i (.val d)):=(rfl)
theorem jf7:retS (a3 (.v (.o l)))=.ret (.fresh l):=(rfl)
theorem j56:retS (a3 (.v (.e d)))=.ret (.val d):=(rfl)
theorem jf6:retS (a3 (.v (.t d)))=.ret (.val d):=(rfl)
theorem jby:Ry (a3 (.own l))=.ret (.fresh l):=(rfl)
theorem jbx:Ry (a3 (.val d))=.ret (.val d):=(rfl)
theorem jg4(h:i≠j):Dp i j (a3 (.own l)) ρ=.next ((ρ.set j .un).set i (.own l)):=if_neg h
theorem jg3:Dp i j (a3 (.val d)) ρ=.next (ρ.set i (.val d)):=(rfl)
theorem jh2:j0w (a3 (.v x)) ρ=.next ρ:=(rfl)
theorem Qe:Ea [i] f d ρ=f (ρ.set i (.val d)):=(rfl)
theorem je4{a b:D}:Ea [i,j] f (.tup [a,b]) ρ=f ((ρ.set i (.val a)).set j (.val b)):=(rfl)
theorem jct{is:List Nat}{ds:List D}:jan is (a3 (.i ds)) f ρ=vp (Ea is f) ds ρ:=(rfl)
theorem ji3(h:l.length<=1000000):Cz i (a3 (.own l)) (a3 (.v (.e d))) ρ=.next (ρ.set i (.own (l++[d]))):=by simp[Cz,Rk.st,lt_size h]
theorem jh1(h:l.length+m.length<=1000000):Cm i (a3 (.own l)) (a3 (.v (.o m))) ρ=.next (ρ.set i (.own (l++m))):=by simp[Cm,jq,J4 h]
theorem j58{j:Int}{n:Nat}(h:ixN l.length j=a3 n):Dl i (a3 (.own l)) (a3 (.v (.e (.int j)))) (a3 (.v (.e d))) ρ=.next (ρ.set i (.own (l.set n d))):=by simp[Dl,Rk.st,Rk.d,h]
theorem j2y:fin (.ret r)=r:=(rfl)
theorem j95:fin (.next ρ)=.val .non:=(rfl)
theorem jt{fu:Nat}{G:aj->Option D}{T:aj->Option Fi}{n:Nat}{f:aj}{ds:List D}{F:Fi}(h:T f=a3 F)(hl:ds.length=F.n)(hla:F.lam=a4:=by rfl):evP fu G T (n+1) f ds=fin (run fu (evP fu G T n) G F.body (enter F ds)):=by simp only[evP,h,if_pos hl,hla,Xp,if_false]
theorem j30{fu:Nat}{G:aj->Option D}{T:aj->Option Fi}{n:Nat}{f:aj}{ds:List D}{F:Fi}(h:T f=a3 F)(hl:ds.length=F.n)(hla:F.lam=a6:=by rfl):evP fu G T (n+1) f ds=j41 (fin (run fu (evP fu G T n) G F.body (enter F ds))):=by simp only[evP,h,if_pos hl,hla,if_true]
theorem jgh:j41 (.val d)=.lval d:=(rfl)
end
theorem Vn{f:D->En->So}(W:Nat->En->Prop):∀{ds:List D}{ρ:En}{k:Nat},W k ρ->(∀i d ρ,ds[i]?=a3 d->W (k+i) ρ->∃ρ',f d ρ=.next ρ'/\W (k+i+1) ρ')->∃ρ',vp f ds ρ=.next ρ'/\W (k+ds.length) ρ'
 |[],ρ,k,h0,_=>⟨ρ,rfl,h0⟩
 |d::ds,ρ,k,h0,hs=>by
  obtain⟨ρ1,e1,w1⟩:=hs 0 d ρ rfl h0;obtain⟨ρ2,e2,w2⟩:=Vn (f:=f) W (ds:=ds) (k:=k+1) w1 λi d' ρ' hi w=>by have:=hs (i+1) d' ρ' (by simpa using hi) (by rw[show k+(i+1)=k+1+i by omega];exact w);rw[show k+(i+1)+1=k+1+i+1 by omega]at this;exact this
  refine⟨ρ2,?_,by rw[X3,show k+(ds.length+1)=k+1+ds.length by omega];exact w2⟩;rw[vp,e1];exact e2
theorem Ow{f:D->En->So}(W:Nat->En){ds:List D}{ρ:En}(h0:ρ=W 0)(hs:∀i d,ds[i]?=a3 d->f d (W i)=.next (W (i+1))):vp f ds ρ=.next (W ds.length):=by
 obtain⟨ρ',e,w⟩:=Vn (f:=f) (λi ρ=>ρ=W i) (k:=0) (ds:=ds) (ρ:=W 0) rfl λi d ρ hi w=>⟨W (0+i+1),by rw[w,t8];exact hs i d hi,rfl⟩
 rw[h0,e,w,t8]
theorem W0{f:D->En->So}{ds:List D}{ρ:En}{g:En->So}{r:Rc}(W:Nat->En->Prop)(h0:W 0 ρ)(hs:∀i d ρ,ds[i]?=a3 d->W i ρ->∃ρ',f d ρ=.next ρ'/\W (i+1) ρ')(hk:∀ρ',W ds.length ρ'->fin (g ρ')=r) :
  fin (Ws (vp f ds ρ) g)=r:=by
 obtain⟨ρ',e,w⟩:=Vn (f:=f) W (k:=0) (ds:=ds) (ρ:=ρ) h0 λi d ρ hi w=>by rw[t8]at w ⊢;exact hs i d ρ hi w
 rw[e];rw[t8]at w;exact hk ρ' w
theorem Ls{f:D->En->So}{ds:List D}{ρ:En}{g:En->So}{Q:En->Prop}(W:Nat->En->Prop)(h0:W 0 ρ)(hs:∀i d ρ,ds[i]?=a3 d->W i ρ->∃ρ',f d ρ=.next ρ'/\W (i+1) ρ')
  (hk:∀ρ',W ds.length ρ'->∃ρ2,g ρ'=.next ρ2/\Q ρ2):∃ρ2,Ws (vp f ds ρ) g=.next ρ2/\Q ρ2:=by
 obtain⟨ρ',e,w⟩:=Vn (f:=f) W (k:=0) (ds:=ds) (ρ:=ρ) h0 λi d ρ hi w=>by rw[t8]at w ⊢;exact hs i d ρ hi w
 rw[e];rw[t8]at w;exact hk ρ' w
noncomputable def jaq(d:Option D):Option W:=d.map λd=>.v (.e d)
noncomputable def j8y(i:Option Int):Option W:=i.map λk=>.v (.e (.int k))
noncomputable def jgv(a:Option W):Option W:=match a with
 |some (.v x)=>a3 (.v (.e (.bl x.d.isNon)))
 |_=>a7
noncomputable def ja3(k:Option Bool)(f:En->Option W)(ρ:En):Option W:=match k with
 |some a4=>a3 (.v (.e (.bl a4)))
 |some a6=>blW (truth (f ρ))
 |none=>a7
noncomputable def orW(k:Option Bool)(f:En->Option W)(ρ:En):Option W:=match k with
 |some a6=>a3 (.v (.e (.bl a6)))
 |some a4=>blW (truth (f ρ))
 |none=>a7
noncomputable def jg0(k:Option Bool):Option W:=k.map λk=>.v (.e (.bl (!k)))
noncomputable def stW(a:Option W):Option W:=match a with
 |some (.v x)=>x.st.map λd=>.v (.e d)
 |_=>a7
noncomputable def j8o(k:Option Bool)(f g:En->Option W)(ρ:En):Option W:=match k with
 |some a6=>stW (f ρ)
 |some a4=>stW (g ρ)
 |none=>a7
noncomputable def slW(a:Option W)(l h:Option (Option Int)):Option W:=match a,l,h with
 |some (.v x),a3 l,a3 h=>match x.sq with
  |some (a6,ds)=>a3 (.v (.o (cutD ds l h)))
  |some (a4,ds)=>if HT.sIx ds.length 0 l=0/\HT.sIx ds.length ds.length h=ds.length then a7 else a3 (.v (.e (.tup (cutD ds l h))))
  |none=>match x.d with
   |.str z=>if jq z.length=a6 then a3 (.v (.e (.str (bS z l h))))else a7
   |_=>a7
 |_,_,_=>a7
noncomputable def Jw(is:List Nat)(c e:En->Option W)(ρ:En)(d:D):Option (Option D):=match zb is d ρ with
 |none=>a7
 |some ρ2=>match c ρ2 with
  |some (.a [])=>match e ρ2 with
   |some (.v x)=>x.st.map a3
   |_=>a7
  |some (.a [y])=>match y.d with
   |.bl a6=>match e ρ2 with
    |some (.v x)=>x.st.map a3
    |_=>a7
   |.bl a4=>a3 a7
   |_=>a7
  |_=>a7
noncomputable def j4c(is:List Nat)(w:Option W)(c e:En->Option W)(z:Bool)(ρ:En):Option W:=match w with
 |some (.i ds)=>if Iw is ρ=a6/\jq ds.length=a6 then(vz (Jw is c e ρ) ds).bind λl=>if (z && !zc l)=a6 then a7 else a3 (.v (.o l))else a7
 |_=>a7
section
variable{Γ:aj->List D->Rc}{G:aj->Option D}{ρ:En}{a b c e:Ex}{op:Bop}{cp:Cop}{x f:aj}{i:Nat}{d:D}
theorem jha:ev Γ G (.lit d) ρ=a3 (.v (.e d)):=(rfl)
theorem jh3:ev Γ G (.var i) ρ=Fv ρ[i]?:=(rfl)
theorem jdl:ev Γ G (.glob x) ρ=jaq (G x):=(rfl)
theorem jhh:ev Γ G (.bin op a b) ρ=Z4 op (ev Γ G a ρ) (ev Γ G b ρ):=(rfl)
theorem jh8:ev Γ G (.neg a) ρ=j0g (ev Γ G a ρ):=(rfl)
theorem jhe:ev Γ G (.cmp cp a b) ρ=Cr cp (ev Γ G a ρ) (ev Γ G b ρ):=(rfl)
theorem jhd:ev Γ G (.isN a) ρ=jgv (ev Γ G a ρ):=(rfl)
theorem jhi:ev Γ G (.and a b) ρ=ja3 (truth (ev Γ G a ρ)) (ev Γ G b) ρ:=(rfl)
theorem jka:ev Γ G (.or a b) ρ=orW (truth (ev Γ G a ρ)) (ev Γ G b) ρ:=(rfl)
theorem jh6:ev Γ G (.not a) ρ=jg0 (truth (ev Γ G a ρ)):=(rfl)
theorem jhb:ev Γ G (.ite c a b) ρ=j8o (truth (ev Γ G c ρ)) (ev Γ G a) (ev Γ G b) ρ:=(rfl)
theorem jh7:ev Γ G .nil ρ=a3 (.a []):=(rfl)
theorem jdo:ev Γ G (.cons a b) ρ=consW (ev Γ G a ρ) (ev Γ G b ρ):=(rfl)
theorem jh4:ev Γ G (.tup a) ρ=Ue (ev Γ G a ρ):=(rfl)
theorem jh9:ev Γ G (.lst a) ρ=Zc (ev Γ G a ρ):=(rfl)
theorem jkb:ev Γ G (.ix a b) ρ=ixW (ev Γ G a ρ) (ev Γ G b ρ):=(rfl)
theorem jk9:ev Γ G (.sl a b c) ρ=slW (ev Γ G a ρ) (Qp (ev Γ G b ρ)) (Qp (ev Γ G c ρ)):=(rfl)
theorem jdk{sep:aj}:ev Γ G (.join sep a) ρ=Mi sep (ev Γ G a ρ):=(rfl)
theorem jdg:ev Γ G (.minK f a) ρ=M8 Γ f (ev Γ G a ρ):=(rfl)
theorem jdj:ev Γ G (.lset a) ρ=Mg (ev Γ G a ρ):=(rfl)
theorem jhf{b c:Ex}:ev Γ G (.che a b c) ρ=j1b (ev Γ G a ρ) (ev Γ G b ρ) (ev Γ G c ρ):=(rfl)
theorem jhv{i j k:Int}:j1b (a3 (.v (.e (.int i)))) (a3 (.v (.e (.int j)))) (a3 (.v (.e (.int k))))=a3 (.v (.e (.bl (decide (i<=j)&&decide (j<=k))))):=(rfl)
theorem jdi:ev Γ G (.maxD a) ρ=Ma (ev Γ G a ρ):=(rfl)
theorem j99:ev Γ G (.callV i a) ρ=Ux Γ ρ[i]? (ev Γ G a ρ):=(rfl)
theorem j9p{cs:List D}{u v:D}(h:Ja [u,v]=a6):Ux Γ (a3 (.val (.fn x cs))) (a3 (.a [.e u,.e v]))=(Γ (jx x) (cs++[u,v])).lv:=if_pos h
theorem j9o{cs:List D}{u v w:D}(h:Ja [u,v,w]=a6):Ux Γ (a3 (.val (.fn x cs))) (a3 (.a [.e u,.e v,.e w]))=(Γ (jx x) (cs++[u,v,w])).lv:=if_pos h
theorem jlo:(Rc.lval d).lv=a3 (.v (.e d)):=(rfl)
theorem jdn:ev Γ G (.dget a b) ρ=Ml (ev Γ G a ρ) (ev Γ G b ρ):=(rfl)
theorem j98:ev Γ G (.dvals a) ρ=Rg (ev Γ G a ρ):=(rfl)
theorem j9f{ks:List (List Int)}{ds:List D}:Rg (a3 (.v (.e (.dct ks ds))))=a3 (.v (.e (.tup ds))):=(rfl)
theorem jdf:ev Γ G (.minT a) ρ=M7 (ev Γ G a ρ):=(rfl)
noncomputable def rcV:Rc->Option W
 |.val d=>a3 (.v (.e d))
 |_=>a7
noncomputable def j7d(Γ:aj->List D->Rc)(f:aj)(a:Option W):Option W:=match a with
 |some (.a rs)=>match zp rs with
  |some ds=>rcV (Γ f (ds++[.non]))
  |none=>a7
 |_=>a7
theorem j9a{f:aj}:ev Γ G (.callD f a) ρ=j7d Γ f (ev Γ G a ρ):=(rfl)
theorem jjb{d:D}:rcV (.val d)=a3 (.v (.e d)):=(rfl)
theorem j9q{f:aj}{x:D}:j7d Γ f (a3 (.a [.e x]))=rcV (Γ f [x,.non]):=(rfl)
theorem jdm:ev Γ G (.enum a) ρ=Mj (ev Γ G a ρ):=(rfl)
theorem jdq:ev Γ G (.call f a) ρ=Qu Γ f (ev Γ G a ρ):=(rfl)
theorem jhg{f:Bf}:ev Γ G (.blt f a) ρ=zx f (ev Γ G a ρ):=(rfl)
theorem jdh{m:Mf}:ev Γ G (.meth m a b) ρ=U6 m (ev Γ G a ρ) (ev Γ G b ρ):=(rfl)
theorem jhc{ts:List String}:ev Γ G (.isi a ts) ρ=Dz (ev Γ G a ρ) ts:=(rfl)
theorem jdp{is:List Nat}:ev Γ G (.comp is e a c) ρ=j4c is (ev Γ G a (frz a ρ)) (ev Γ G c) (ev Γ G e) (Jd a ρ) (frz a ρ):=(rfl)
theorem jh5:ev Γ G (.seq a) ρ=Oe (ev Γ G a ρ):=(rfl)
theorem j97:ev Γ G (.range a) ρ=Wu (ev Γ G a ρ):=(rfl)
end
section
variable{x y:Rk}{d:D}{i j k:Int}{l m:List D}{b:Bool}{f g:En->Option W}{ρ:En}{xs:List Rk}{op:Bop}{cp:Cop}
theorem jee:Fv (a3 (.val d))=a3 (.v (.e d)):=(rfl)
theorem jef:Fv (a3 (.own l))=a3 (.v (.w l)):=(rfl)
theorem jde:jaq (a3 d)=a3 (.v (.e d)):=(rfl)
theorem jgw:j8y (a3 i)=a3 (.v (.e (.int i))):=(rfl)
theorem jkg:blW (a3 b)=a3 (.v (.e (.bl b))):=(rfl)
theorem ji2:Z4 op (a3 (.v (.e (.int i)))) (a3 (.v (.e (.int j))))=j8y (binI op i j):=by simp only[Z4,Uj,Rk.d,j8y,rkW];cases binI op i j<;>rfl
theorem ja0:binI .add i j=a3 (i+j):=(rfl)
theorem j9u:binI .sub i j=a3 (i-j):=(rfl)
theorem j9y(h:(-18446744073709551616<i/\i<18446744073709551616)\/(-18446744073709551616<j/\j<18446744073709551616)):binI .mul i j=a3 (i*j):=if_pos h
theorem j7f(h:0<j/\j<18446744073709551616):binI .fdiv i j=a3 (i/j):=if_pos h
theorem j9z(h:0<j):binI .mod i j=a3 (i%j):=if_pos h
theorem j9x(h:0<=j/\j<=1000000/\i.natAbs<18446744073709551616):binI .pow i j=a3 (i^j.toNat):=if_pos h
theorem j9w(h:0<=j/\j<=1000000/\i.natAbs<18446744073709551616):binI .shl i j=a3 (i*2^j.toNat):=if_pos h
theorem j9v(h:0<=j):binI .shr i j=a3 (i/2^j.toNat):=if_pos h
theorem jhz(h:l.length+m.length<=1000000):Z4 .add (a3 (.v (.o l))) (a3 (.v (.w m)))=a3 (.v (.o (l++m))):=by simp[Z4,Uj,Rk.d,Rk.sq,jq,J4 h,rkW]
theorem jhx(h:l.length+m.length<=1000000):Z4 .add (a3 (.v (.e (.tup l)))) (a3 (.v (.e (.tup m))))=a3 (.v (.e (.tup (l++m)))):=by simp[Z4,Uj,Rk.d,Rk.sq,jq,J4 h,rkW]
theorem jj8(h:-9223372036854775808<=k/\k<9223372036854775808)(h2:l.length*k.toNat<=1000000):Z4 .mul (a3 (.v (.o l))) (a3 (.v (.e (.int k))))=a3 (.v (.o (ae k.toNat l).flatten)):=by simp only[Z4,Uj,Rk.d,Rk.sq,Rk.lw];rw[if_pos ⟨h.1,h.2,decide_eq_true (J4 h2)⟩];rfl
theorem jf8(h:1<=k/\k<=1000000):Z4 .mul (a3 (.v (.e (.tup [d])))) (a3 (.v (.e (.int k))))=a3 (.v (.e (.tup (ae k.toNat d)))):=by simp only[Z4,Uj,Rk.d,Rk.sq];rw[if_pos ⟨h.1,by omega,rfl,decide_eq_true (J4 (by simp only[X3,T5];omega))⟩];simp only[rkW,Option.map,List.flatten_replicate_singleton]
theorem jg1:j0g (a3 (.v (.e (.int i))))=a3 (.v (.e (.int (-i)))):=(rfl)
theorem jhr:Cr cp (a3 (.v x)) (a3 (.v y))=blW (Zt cp x.d y.d):=(rfl)
theorem d_e:(Rk.e d).d=d:=(rfl)
theorem d_o:(Rk.o l).d=.lst l:=(rfl)
theorem d_w:(Rk.w l).d=.lst l:=(rfl)
theorem jhs:Zt cp (.int i) (.int j)=cmpI cp i j:=by cases cp<;>rfl
theorem j9i{a b:Bool}:Zt .ne (.bl a) (.bl b)=a3 (a != b):=(rfl)
theorem j9l{a b:Bool}:Zt .eq (.bl a) (.bl b)=a3 (a==b):=(rfl)
theorem j9k(h:(D.lst l).dep<=90)(h2:(D.lst m).dep<=90):Zt .eq (.lst l) (.lst m)=a3 (v6 l m):=by simp[Zt,h,h2,Nx,j12]
theorem j9j{a b:aj}:Zt .eq (.str a) (.str b)=a3 (a==b):=by simp[Zt,D.dep,j6p]
theorem j73:Zt .eq (.lst []) (.lst [])=a3 (v6 [] []):=j9k (by simp[D.dep,D.depL]) (by simp[D.dep,D.depL])
theorem j6w(h:i<j):cmpI .lt i j=a3 a6:=by simp[cmpI,h]
theorem j6x(h:j<=i):cmpI .lt i j=a3 a4:=by simp[cmpI];omega
theorem j6y(h:j<i):cmpI .gt i j=a3 a6:=by simp[cmpI,h]
theorem j6z(h:i<=j):cmpI .gt i j=a3 a4:=by simp[cmpI];omega
theorem j70(h:i<j):cmpI .ge i j=a3 a4:=by simp[cmpI];omega
theorem j71(h:i=j):cmpI .eq i j=a3 a6:=by simp[cmpI,h]
theorem j72(h:i≠j):cmpI .eq i j=a3 a4:=by simp[cmpI,h]
theorem j6u(h:i≠j):cmpI .ne i j=a3 a6:=by simp[cmpI,h]
theorem j6v(h:i=j):cmpI .ne i j=a3 a4:=by simp[cmpI,h]
theorem jdx:cmpI .gt i j=a3 (decide (j<i)):=(rfl)
theorem j18:cmpI .ge i j=a3 (decide (j<=i)):=(rfl)
theorem jcr{a b:D}(h:Qq a=a6):Zc (a3 (.a [.t a,.e b]))=a3 (.v (.o [a,b])):=by simp[Zc,zp,Rk.st,h,jq,J4 (show 2<=1000000 by decide)]
theorem Mq:cmpI .eq i j=a3 (decide (i=j)):=(rfl)
theorem jgu:jgv (a3 (.v x))=a3 (.v (.e (.bl x.d.isNon))):=(rfl)
theorem jb8:truth (a3 (.v (.e (.bl b))))=a3 b:=(rfl)
theorem ji5:ja3 (a3 a4) f ρ=a3 (.v (.e (.bl a4))):=(rfl)
theorem ji4:ja3 (a3 a6) f ρ=blW (truth (f ρ)):=(rfl)
theorem jjl:orW (a3 a4) f ρ=blW (truth (f ρ)):=(rfl)
theorem jfz:jg0 (a3 b)=a3 (.v (.e (.bl (!b)))):=(rfl)
theorem jj3:stW (a3 (.v (.e d)))=a3 (.v (.e d)):=(rfl)
theorem jgr:j8o (a3 a6) f g ρ=stW (f ρ):=(rfl)
theorem jgs:j8o (a3 a4) f g ρ=stW (g ρ):=(rfl)
theorem jdv:consW (a3 (.v x)) (a3 (.a xs))=a3 (.a (x::xs)):=(rfl)
theorem j4t(h:zp xs=a3 l)(hl:l.length<=1000000):Ue (a3 (.a xs))=a3 (.v (.e (.tup l))):=by simp[Ue,h,jq,J4 hl]
theorem j64(h:zp xs=a3 l)(hl:l.length<=1000000):Zc (a3 (.a xs))=a3 (.v (.o l)):=by simp[Zc,h,jq,J4 hl]
theorem jel:Ue (a3 (.a []))=a3 (.v (.e (.tup []))):=by simp[Ue,zp,jq]
theorem jek{a:D}:Ue (a3 (.a [.e a]))=a3 (.v (.e (.tup [a]))):=j4t rfl (by simp)
theorem jej{a b:D}:Ue (a3 (.a [.e a,.e b]))=a3 (.v (.e (.tup [a,b]))):=j4t rfl (by simp)
theorem jgd:Zc (a3 (.a []))=a3 (.v (.o [])):=by simp[Zc,zp,jq]
theorem jgc{a:D}:Zc (a3 (.a [.e a]))=a3 (.v (.o [a])):=j64 rfl (by simp)
theorem jgb{a b:D}:Zc (a3 (.a [.e a,.e b]))=a3 (.v (.o [a,b])):=j64 rfl (by simp)
noncomputable def Np(o:Option D):Option W:=o.map λd=>.v (.e d)
theorem Er:∀xs:List D,zp (xs.map Rk.e)=a3 xs
 |[]=>rfl
 |x::xs=>by rw[Xa,zp,Er xs];rfl
theorem jg9(xs:List D)(h:xs.length<=1000000):Zc (a3 (.a (xs.map Rk.e)))=a3 (.v (.o xs)):=by simp[Zc,Er,jq,J4 h]
theorem jga{a b c d e f g h:D}:Zc (a3 (.a [.e a,.e b,.e c,.e d,.e e,.e f,.e g,.e h]))=a3 (.v (.o [a,b,c,d,e,f,g,h])):=jg9 [a,b,c,d,e,f,g,h] (by simp)
theorem j2v:Np (a3 d)=a3 (.v (.e d)):=(rfl)
theorem jgo:ixW (a3 (.v (.e (.lst l)))) (a3 (.v (.e (.int i))))=Np (atI l i):=(rfl)
theorem jgn:ixW (a3 (.v (.e (.tup l)))) (a3 (.v (.e (.int i))))=Np (atI l i):=(rfl)
theorem jjz:ixW (a3 (.v (.o l))) (a3 (.v (.e (.int i))))=Np (atI l i):=(rfl)
theorem jjx:ixW (a3 (.v (.w l))) (a3 (.v (.e (.int i))))=Np (atI l i):=(rfl)
noncomputable def jhu(c:Option Nat):Option W:=match c with
 |some c=>a3 (.v (.e (.str ⟨#[c]⟩)))
 |none=>a7
theorem jht{c:Nat}:jhu (a3 c)=a3 (.v (.e (.str ⟨#[c]⟩))):=(rfl)
theorem jjy{z:aj}(h:z.length<=1000000):ixW (a3 (.v (.e (.str z)))) (a3 (.v (.e (.int i))))=jhu (atI z.cps.toList i):=by simp only[ixW,Rk.sq,Rk.d,jq,J4 h,decide_true,if_true];cases atI z.cps.toList i<;>rfl
theorem jj5{z:aj}{lo hi:Option Int}(h:z.length<=1000000):slW (a3 (.v (.e (.str z)))) (a3 lo) (a3 hi)=a3 (.v (.e (.str (bS z lo hi)))):=by simp only[slW,Rk.sq,Rk.d,jq,J4 h,decide_true,if_true]
theorem jhy{y z:aj}(h:y.length+z.length<=1000000):Z4 .add (a3 (.v (.e (.str y)))) (a3 (.v (.e (.str z))))=a3 (.v (.e (.str (y++z)))):=by simp[Z4,Uj,Rk.d,jq,J4 h,rkW]
theorem jk0{k:Bool}:zx .int (a3 (.a [.e (.bl k)]))=a3 (.v (.e (.int (if k then 1 else 0)))):=(rfl)
theorem Je{ns:List Int}:intsOf (ns.map D.int)=a3 ns:=by
 induction ns with
 |nil=>rfl
 |cons b bs ih=>rw[Xa,intsOf,ih];rfl
theorem Bs{ns:List aj}:strsOf (ns.map D.str)=a3 ns:=by
 induction ns with
 |nil=>rfl
 |cons b bs ih=>rw[Xa,strsOf,ih];rfl
theorem jj2{ns:List Int}:zx .sum (a3 (.a [.o (ns.map D.int)]))=a3 (.v (.e (.int ns.sum))):=by simp only[zx,Z3,Rk.d,Je];rfl
theorem jep{ns:List Int}:zx .sum (a3 (.a [.e (.lst (ns.map D.int))]))=a3 (.v (.e (.int ns.sum))):=by simp only[zx,Z3,Rk.d,Je];rfl
theorem j2t{sep:aj}{ts:List aj}(h:fq sep ts=a6):Mi sep (a3 (.v (.o (ts.map D.str))))=a3 (.v (.e (.str (eQ sep ts)))):=by simp only[Mi,Rk.d,Bs,h,if_true]
theorem jcs{ts:List aj}(h:ts.length<4000):Mg (a3 (.v (.w (ts.map D.str))))=a3 (.v (.e (.int (dd ts).length))):=by simp only[Mg,Rk.d,Bs,h,if_true]
theorem j9d:Mj (a3 (.v (.e (.lst l))))=a3 (.i (Qg l)):=(rfl)
theorem j9c:Mj (a3 (.v (.e (.tup l))))=a3 (.i (Qg l)):=(rfl)
theorem j9s:Qp (a3 (.a []))=a3 a7:=(rfl)
theorem j9r:Qp (a3 (.a [.e (.int i)]))=a3 (a3 i):=(rfl)
variable{lo hi:Option Int}
theorem j4x(h:¬(HT.sIx l.length 0 lo=0/\HT.sIx l.length l.length hi=l.length)):slW (a3 (.v (.e (.tup l)))) (a3 lo) (a3 hi)=a3 (.v (.e (.tup (cutD l lo hi)))):=if_neg h
variable{Γ:aj->List D->Rc}{fn:aj}
noncomputable def rcW(r:Rc):Option W:=match r with
 |.val d=>a3 (.v (.e d))
 |.fresh l=>a3 (.v (.o l))
 |_=>a7
theorem jj9:rcW (.val d)=a3 (.v (.e d)):=(rfl)
theorem jja:rcW (.fresh l)=a3 (.v (.o l)):=(rfl)
theorem Mr(h:zp xs=a3 l):Qu Γ fn (a3 (.a xs))=rcW (Γ fn l):=by simp only[Qu,h];cases Γ fn l<;>rfl
theorem je2{a:D}:Qu Γ fn (a3 (.a [.e a]))=rcW (Γ fn [a]):=Mr rfl
theorem je1{a b:D}:Qu Γ fn (a3 (.a [.e a,.e b]))=rcW (Γ fn [a,b]):=Mr rfl
theorem je0{a b c:D}:Qu Γ fn (a3 (.a [.e a,.e b,.e c]))=rcW (Γ fn [a,b,c]):=Mr rfl
theorem j9n:Qu Γ fn (a3 (.a [.o l]))=rcW (Γ fn [.lst l]):=Mr rfl
noncomputable def rcT(r:Rc):Option W:=match r with
 |.val d=>a3 (.v (.t d))
 |_=>a7
theorem jjc:rcT (.val d)=a3 (.v (.t d)):=(rfl)
theorem jdz(h:zp xs=a7):Qu Γ fn (a3 (.a xs))=rcT (Γ fn (xs.map Rk.d)):=by simp only[Qu,h];cases Γ fn (xs.map Rk.d)<;>rfl
theorem j9m{a b:D}:Qu Γ fn (a3 (.a [.w m,.e a,.e b]))=rcT (Γ fn [.lst m,a,b]):=jdz rfl
theorem jjt:zx .len (a3 (.a [.e (.lst l)]))=a3 (.v (.e (.int l.length))):=(rfl)
theorem jjr:zx .len (a3 (.a [.e (.tup l)]))=a3 (.v (.e (.int l.length))):=(rfl)
theorem jjs:zx .len (a3 (.a [.o l]))=a3 (.v (.e (.int l.length))):=(rfl)
theorem jg7:zx .max (a3 (.a [.e (.int i),.e (.int j)]))=a3 (.v (.e (.int (if j>i then j else i)))):=(rfl)
theorem jjn{ns:List Int}(h:ns≠[]):zx .max (a3 (.a [.o (ns.map D.int)]))=a3 (.v (.e (.int (jg ns)))):=by
 have e:ns.isEmpty=a4:=by cases ns with|nil=>exact absurd rfl h|cons _ _=>rfl
 simp only[zx,Z3,Rk.d,Je,e,if_true];rfl
theorem jcp{ns:List Int}:Ma (a3 (.v (.o (ns.map D.int))))=a3 (.v (.e (.int (jg ns)))):=by simp only[Ma,Rk.d,Je]
theorem jjm{ns:List Int}(h:ns≠[]):zx .max (a3 (.a [.w (ns.map D.int)]))=a3 (.v (.e (.int (jg ns)))):=by
 have e:ns.isEmpty=a4:=by cases ns with|nil=>exact absurd rfl h|cons _ _=>rfl
 simp only[zx,Z3,Rk.d,Je,e,if_true];rfl
theorem j4s{ks:List (List Int)}:Rr (ks.map λk=>D.tup (k.map D.int))=a3 ks:=by
 induction ks with
 |nil=>rfl
 |cons k ks ih=>rw[Xa,Rr,ih];simp only[tupI,Je]
theorem jco{ks:List (List Int)}{k:List Int}(h:ks[aL (Jg ks) (ks.length-1)]?=a3 k):M7 (a3 (.v (.o (ks.map λk=>D.tup (k.map D.int)))))=a3 (.v (.t (.tup (k.map D.int)))):=by simp only[M7,Rk.d,j4s,h];rfl
theorem j33{ks:List (List Int)}{ds:List D}{k:List Int}{d:D}(h:J6 ks ds k=a3 d):Ml (a3 (.v (.e (.dct ks ds)))) (a3 (.v (.e (.tup (k.map D.int)))))=a3 (.v (.e d)):=by simp only[Ml,Rk.d,tupI,Je,h];rfl
theorem jg6:zx .min (a3 (.a [.e (.int i),.e (.int j)]))=a3 (.v (.e (.int (if j<i then j else i)))):=(rfl)
theorem jb7:zx .tuple (a3 (.a [.o l]))=a3 (.v (.e (.tup l))):=(rfl)
theorem jb6:zx .tuple (a3 (.a [.w l]))=a3 (.v (.e (.tup l))):=(rfl)
theorem j38(h:D.depL l<=90)(h2:d.dep<=90):U6 .count (a3 (.v (.w l))) (a3 (.a [.e d]))=a3 (.v (.e (.int (l.countP λe=>deq e d)))):=by simp[U6,Ip,Rk.d,h,h2,rkW]
theorem Cp(h:D.depL l<=90)(h2:d.dep<=90):U6 .count (a3 (.v (.e (.tup l)))) (a3 (.a [.e d]))=a3 (.v (.e (.int (l.countP λe=>deq e d)))):=by simp[U6,Ip,Rk.d,h,h2,rkW]
theorem jgt{ts:List String}:Dz (a3 (.v x)) ts=blW (qe x.d ts):=(rfl)
theorem jbi:Oe (a3 (.v (.e (.lst l))))=a3 (.i l):=(rfl)
theorem jbh:Oe (a3 (.v (.e (.tup l))))=a3 (.i l):=(rfl)
theorem jew:Oe (a3 (.v (.o l)))=a3 (.i l):=(rfl)
theorem j82(h:-4611686018427387904<=i/\i<4611686018427387904):Wu (a3 (.a [.e (.int i)]))=a3 (.i (upto 0 i.toNat)):=if_pos h
theorem jw{is:List Nat}{c e:En->Option W}{z:Bool}{ds l:List D}(hf:Iw is ρ=a6)(hl:ds.length<=1000000)(h:vz (Jw is c e ρ) ds=a3 l)(hz:z=a4\/zc l=a6):j4c is (a3 (.i ds)) c e z ρ=a3 (.v (.o l)):=by simp only[j4c,hf,jq,J4 hl,decide_true,and_self,if_true,h,kn];rcases hz with z|z<;>simp[z]
theorem z9{i:Nat}{c e:En->Option W}(hc:c (ρ.set i (.val d))=a3 (.a [])){d':D}(he:e (ρ.set i (.val d))=a3 (.v (.e d'))):Jw [i] c e ρ d=a3 (a3 d'):=by simp[Jw,zb,hc,he,Rk.st]
theorem Zz{i:Nat}{c e:En->Option W}{b:Bool}{d':D}(hc:c (ρ.set i (.val d))=a3 (.a [.e (.bl b)]))(he:b=a6->e (ρ.set i (.val d))=a3 (.v (.e d'))):Jw [i] c e ρ d=a3 (if b=a6 then a3 d' else a7):=by
 cases b with
 |true=>simp[Jw,zb,hc,he rfl,Rk.st,Rk.d]
 |false=>simp[Jw,zb,hc,Rk.d]
theorem jb5{i j:Nat}{c e:En->Option W}{a b:D}(hc:c ((ρ.set i (.val a)).set j (.val b))=a3 (.a [])){d':D}(he:e ((ρ.set i (.val a)).set j (.val b))=a3 (.v (.e d'))):Jw [i,j] c e ρ (.tup [a,b])=a3 (a3 d'):=by simp[Jw,zb,hc,he,Rk.st]
theorem j7m{i j:Nat}{c e:En->Option W}{a b:D}{k:Bool}{d':D}(hc:c ((ρ.set i (.val a)).set j (.val b))=a3 (.a [.e (.bl k)]))(he:k=a6->e ((ρ.set i (.val a)).set j (.val b))=a3 (.v (.e d'))):Jw [i,j] c e ρ (.tup [a,b])=a3 (if k=a6 then a3 d' else a7):=by
 cases k with
 |true=>simp[Jw,zb,hc,he rfl,Rk.st,Rk.d]
 |false=>simp[Jw,zb,hc,Rk.d]
theorem Vr{α:Type}{xs:List α}{n:Nat}{x:α}(h:xs[n]?=a3 x):atI xs (n:Int)=a3 x:=je6 h
end
section
theorem j8r:qe .non ["list","tuple"]=a3 a4:=by simp[qe,qx,D.ty]
theorem j8u {b:Bool}:qe (.bl b) ["list","tuple"]=a3 a4:=by simp[qe,qx,D.ty]
theorem jd6 {b:Bool}:qe (.bl b) ["bool"]=a3 a6:=by simp[qe,qx,D.ty]
theorem jd1 {b:Bool}:qe (.bl b) ["str"]=a3 a4:=by simp[qe,qx,D.ty]
theorem j8x {b:Bool}:qe (.bl b) ["int","str"]=a3 a6:=by simp[qe,qx,D.ty]
theorem j8t {i:Int}:qe (.int i) ["list","tuple"]=a3 a4:=by simp[qe,qx,D.ty]
theorem jd5 {i:Int}:qe (.int i) ["bool"]=a3 a4:=by simp[qe,qx,D.ty]
theorem jd0 {i:Int}:qe (.int i) ["str"]=a3 a4:=by simp[qe,qx,D.ty]
theorem j8w {i:Int}:qe (.int i) ["int","str"]=a3 a6:=by simp[qe,qx,D.ty]
theorem j8q {z:aj}:qe (.str z) ["list","tuple"]=a3 a4:=by simp[qe,qx,D.ty]
theorem jd4 {z:aj}:qe (.str z) ["bool"]=a3 a4:=by simp[qe,qx,D.ty]
theorem jcz {z:aj}:qe (.str z) ["str"]=a3 a6:=by simp[qe,qx,D.ty]
theorem j8v {z:aj}:qe (.str z) ["int","str"]=a3 a6:=by simp[qe,qx,D.ty]
theorem j8p {l:List D}:qe (.tup l) ["list","tuple"]=a3 a6:=by simp[qe,qx,D.ty]
theorem jd2 {l:List D}:qe (.tup l) ["list"]=a3 a4:=by simp[qe,qx,D.ty]
theorem j8s {l:List D}:qe (.lst l) ["list","tuple"]=a3 a6:=by simp[qe,qx,D.ty]
theorem jd3 {l:List D}:qe (.lst l) ["list"]=a3 a6:=by simp[qe,qx,D.ty]
theorem jd8:D.isNon .non=a6:=(rfl)
theorem jda{b:Bool}:D.isNon (.bl b)=a4:=(rfl)
theorem jd9{i:Int}:D.isNon (.int i)=a4:=(rfl)
theorem jd7{z:aj}:D.isNon (.str z)=a4:=(rfl)
end
section
noncomputable abbrev ji(r:List Int):D:=.tup (r.map .int)
noncomputable abbrev jn(rs:List (List Int)):List D:=rs.map ji
theorem qb{α:Type}{f:D->Option (Option D)}{h g:α->D}{L:List α}(q:∀x∈L,f (h x)=a3 (a3 (g x))):vz f (L.map h)=a3 (L.map g):=by
 induction L with
 |nil=>rfl
 |cons x L ih=>rw[Xa,vz,q x (xq ..),ih λy hy=>q y (xf _ hy)];rfl
theorem Qd{α:Type}{f:D->Option (Option D)}{h g:α->D}{p:α->Bool}{L:List α}(q:∀x∈L,f (h x)=a3 (if p x=a6 then a3 (g x)else a7)):vz f (L.map h)=a3 ((L.filter p).map g):=by
 induction L with
 |nil=>rfl
 |cons x L ih =>
  rw[Xa,vz,q x (xq ..),ih λy hy=>q y (xf _ hy)];by_cases z:p x=a6
  .rw[if_pos z,cF z];rfl
  .rw[if_neg z,dP z]
theorem Wg{f:D->Option (Option D)}:∀{ds:List D},(∀d∈ds,f d=a3 a7)->vz f ds=a3 []
 |[],_=>rfl
 |d::ds,h=>by rw[vz,h d (xq ..),Wg λd hd=>h d (xf _ hd)]
theorem take_snoc{α:Type}{l:List α}{i:Nat}{x:α}(h:l[i]?=a3 x):l.take (i+1)=l.take i++[x]:=by rw[S7,h];rfl
theorem Oz{α β:Type}{f:α->β}{l:List α}{i:Nat}{y:β}(h:(l.map f)[i]?=a3 y):∃x,l[i]?=a3 x/\y=f x:=by
 rw[X6]at h;cases e:l[i]? with
 |none=>rw[e]at h;cases h
 |some x=>rw[e]at h;cases h;exact⟨x,rfl,rfl⟩
theorem j8n{α:Type}{c:Prop}[Decidable c]{x:α}:(if c then x else x)=x:=by split<;>rfl
theorem j66{l:List D}(h:Z7 (.tup l)):l.length<=1000/\Vo l:=by simpa [Z7]using h
theorem j67{l:List D}(h:Z7 (.lst l)):l.length<=1000/\Vo l:=by simpa [Z7]using h
end
section
theorem O4:∀rs:List (List Int),zc (jn rs)=a6
 |[]=>by simp[zc]
 |r::rs=>by rw[jn,Xa,zc,<-jn,O4 rs];simp[Qq,J3]
theorem Kf(p:List Int):D.depL (p.map D.int)=0:=by
 induction p with
 |nil=>rfl
 |cons t ts ih=>simp[D.depL,D.dep,ih]
end
end L2
end
section
open PySem (Str)
open L2
noncomputable def jk7:=(k8l (k8l (k8l (k8l (k8l (k8l (k8l @jbp (k8l @jbm @jbl)) (k8l @jbq (k8l @j81 @jbn))) (k8l (k8l @j7w (k8l @jbr @j7z)) (k8l @jbu (k8l @jbt @jbo)))) (k8l (k8l (k8l @jdj (k8l @jbs @j80)) (k8l @j6b (k8l @j7x @jbz))) (k8l (k8l @j3g (k8l @j1n @jhp)) (k8l @j7y (k8l @jc0 @j99))))) (k8l (k8l (k8l (k8l @jdn (k8l @j98 @j9f)) (k8l @jdf (k8l @jlo @jgh))) (k8l (k8l @jhf (k8l @jhv @jdi)) (k8l @jcp (k8l @j9a @j9q)))) (k8l (k8l (k8l @jjb (k8l @jg7 @j89)) (k8l @j2m (k8l @Lw @j02))) (k8l (k8l @jk1 (k8l @jk2 @jeu)) (k8l (k8l @jev @jf7) (k8l @j56 @jf6)))))) (k8l (k8l (k8l (k8l (k8l @jby (k8l @jbx @jg4)) (k8l @jg3 (k8l @jh2 @jct))) (k8l (k8l @ji3 (k8l @jh1 @j2y)) (k8l @j95 (k8l @jha @jh3)))) (k8l (k8l (k8l @jdl (k8l @jhh @jh8)) (k8l @jhe (k8l @jhd @jhi))) (k8l (k8l @jka (k8l @jh6 @jhb)) (k8l (k8l @jh7 @jdo) (k8l @jh4 @jh9))))) (k8l (k8l (k8l (k8l @jkb (k8l @jk9 @jdq)) (k8l @jhg (k8l @jdh @jhc))) (k8l (k8l @jdp (k8l @jh5 @j97)) (k8l @jee (k8l @jef @jde)))) (k8l (k8l (k8l @jgw (k8l @jkg @ji2)) (k8l @ja0 (k8l @j9u @j9y))) (k8l (k8l @j7f (k8l @j9z @j9x)) (k8l (k8l @j9w @j9v) (k8l @jhz @jhx))))))) (k8l (k8l (k8l (k8l (k8l (k8l @jj8 (k8l @jg1 @jhr)) (k8l @d_e (k8l @d_o @d_w))) (k8l (k8l @jhs (k8l @j9i @j9l)) (k8l @j9j (k8l @j73 @j8n)))) (k8l (k8l (k8l @j6w (k8l @j6x @j6y)) (k8l @j6z (k8l @j70 @j71))) (k8l (k8l @j72 (k8l @j6u @j6v)) (k8l @jgu (k8l @jf8 @jb8))))) (k8l (k8l (k8l (k8l @ji5 (k8l @ji4 @jjl)) (k8l @jfz (k8l @jj3 @jgr))) (k8l (k8l @jgs (k8l @jdv @jel)) (k8l @jek (k8l @jej @jgd)))) (k8l (k8l (k8l @jgc (k8l @jgb @jga)) (k8l @j2v (k8l @jgo @jgn))) (k8l (k8l @jjz (k8l @jjx @j9s)) (k8l (k8l @j9r @jj9) (k8l @jja @jjc)))))) (k8l (k8l (k8l (k8l (k8l @je2 (k8l @je1 @je0)) (k8l @j9n (k8l @jjt @jjr))) (k8l (k8l @jjs (k8l @jg6 @jb7)) (k8l @jb6 (k8l @jgt @jbi)))) (k8l (k8l (k8l @jbh (k8l @jew @j82)) (k8l @jdk (k8l @jdm @jbk))) (k8l (k8l @jeq (k8l @jeg @jht)) (k8l (k8l @jjy @jj5) (k8l @jhy @jk0))))) (k8l (k8l (k8l (k8l @jj2 (k8l @jep @j9d)) (k8l @j9c (k8l @j8r @j8u))) (k8l (k8l @jd6 (k8l @jd1 @j8x)) (k8l @j8t (k8l @jd5 @jd0)))) (k8l (k8l (k8l @j8w (k8l @j8q @jd4)) (k8l @jcz (k8l @j8v @j8p))) (k8l (k8l @jd2 (k8l @j8s @jd3)) (k8l (k8l @jd8 @jda) (k8l @jd9 @jd7))))))))
local macro_rules | `(tactic| walk_at "go")=>`(tactic| try simp (disch:=first | omega | assumption | (simp only [List.length_map,List.length_append,List.length_cons,List.length_nil,List.length_take,List.length_drop,List.length_reverse] <;> omega)) only [jk7,Yr,beq_self_eq_true,frz,Jd,j93,List.getElem?_cons_zero,List.getElem?_cons_succ,List.set_cons_zero,List.set_cons_succ,List.map_cons,List.map_nil,List.cons_append,List.nil_append,List.replicate,List.length_map,List.length_append,List.length_cons,List.length_nil,Bool.not_true,Bool.not_false,bne_self_eq_false,Nat.reduceSub,Nat.reduceAdd,Int.reduceToNat,Int.reducePow])
local macro_rules | `(tactic| ext)=>`(tactic| walk_at "go")
local macro_rules | `(tactic| erw [$r])=>`(tactic| (rw [$r]; ext)) | `(tactic| erw [$r,$rs,*])=>`(tactic| (rw [$r]; ext; erw [$rs,*]))
namespace KL
noncomputable def Qw:Sx:=(.seq (.ret (.call "all_choices" (.cons (.comp [1] (.ite (.cmp .eq (.var 1) (.glob "NOT_TOLD")) (.glob "ANSWERS") (.tup (.cons (.var 1) .nil))) (.seq (.var 0)) .nil) .nil))) .nop)
noncomputable def fP_rows_in:Fi:=⟨1,2,Qw,a4⟩
noncomputable def J5:Sx:=(.seq (.set 1 (.lst (.cons (.tup .nil) .nil))) (.seq (.loop [2] (.seq (.var 0)) (.seq (.set 3 (.lst .nil)) (.seq (.loop [4] (.seq (.var 1)) (.seq (.ext 3 (.comp [5] (.bin .add (.var 4) (.tup (.cons (.var 5) .nil))) (.seq (.var 2)) .nil)) .nop)) (.seq (.mov 1 3) .nop)))) (.seq (.retV 1) .nop)))
noncomputable def fP_all_choices:Fi:=⟨1,6,J5,a4⟩
noncomputable def Ye:Sx:=(.seq (.ife (.cmp .lt (.var 1) (.blt .len (.cons (.var 0) .nil))) (.seq (.ret (.ix (.var 0) (.var 1))) .nop) .nop) (.seq (.set 2 (.bin .add (.lit (.int 70001)) (.bin .mul (.bin .mul (.lit (.int 911)) (.var 1)) (.var 1)))) (.seq (.ife (.cmp .gt (.blt .len (.cons (.var 0) .nil)) (.lit (.int 0))) (.seq (.set 2 (.bin .add (.var 2) (.bin .mul (.bin .mod (.ix (.var 0) (.lit (.int 0))) (.lit (.int 9973))) (.bin .add (.bin .mul (.lit (.int 3)) (.var 1)) (.lit (.int 1)))))) .nop) .nop) (.seq (.retV 2) .nop))))
noncomputable def fL_cell:Fi:=⟨2,3,Ye,a4⟩
noncomputable def Vc:Sx:=(.seq (.ife (.isi (.var 1) ["list","tuple"]) (.seq (.ife (.or (.cmp .ne (.isi (.var 0) ["list"]) (.isi (.var 1) ["list"])) (.not (.isi (.var 0) ["list","tuple"]))) (.seq (.ret (.lit (.bl a4))) .nop) .nop) (.seq (.set 2 (.comp [3] (.var 3) (.range (.cons (.blt .min (.cons (.blt .len (.cons (.var 0) .nil)) (.cons (.blt .len (.cons (.var 1) .nil)) .nil))) .nil)) (.cons (.not (.call "_law_same" (.cons (.ix (.var 0) (.var 3)) (.cons (.ix (.var 1) (.var 3)) .nil)))) .nil))) (.seq (.ret (.and (.cmp .eq (.blt .len (.cons (.var 0) .nil)) (.blt .len (.cons (.var 1) .nil))) (.cmp .eq (.var 2) (.lst .nil)))) .nop))) .nop) (.seq (.ife (.isN (.var 1)) (.seq (.ret (.isN (.var 0))) .nop) .nop) (.seq (.ife (.or (.cmp .ne (.isi (.var 0) ["bool"]) (.isi (.var 1) ["bool"])) (.cmp .ne (.isi (.var 0) ["str"]) (.isi (.var 1) ["str"]))) (.seq (.ret (.lit (.bl a4))) .nop) .nop) (.seq (.ret (.and (.isi (.var 0) ["int","str"]) (.cmp .eq (.var 0) (.var 1)))) .nop))))
noncomputable def fL_same:Fi:=⟨2,4,Vc,a4⟩
noncomputable def j3c:Sx:=(.seq (.set 2 (.lst .nil)) (.seq (.loop [3] (.range (.cons (.var 0) .nil)) (.seq (.set 2 (.bin .add (.lst (.cons (.bin .mod (.var 1) (.lit (.int 3))) .nil)) (.var 2))) (.seq (.set 1 (.bin .fdiv (.var 1) (.lit (.int 3)))) .nop))) (.seq (.ret (.blt .tuple (.cons (.var 2) .nil))) .nop)))
noncomputable def Ck:Fi:=⟨2,4,j3c,a4⟩
noncomputable def Uy:Sx:=(.seq (.set 2 (.lst .nil)) (.seq (.loop [3] (.range (.cons (.var 0) .nil)) (.seq (.app 2 (.bin .mod (.bin .fdiv (.var 1) (.bin .shl (.lit (.int 1)) (.bin .sub (.bin .sub (.var 0) (.var 3)) (.lit (.int 1))))) (.lit (.int 2)))) .nop)) (.seq (.ret (.blt .tuple (.cons (.var 2) .nil))) .nop)))
noncomputable def fL_row:Fi:=⟨2,4,Uy,a4⟩
section
variable{G:aj->Option D}{T:aj->Option Fi}
noncomputable def qj(ns:List Int)(k:Nat):Int:=match ns[k]? with
 |some v=>v
 |none=>match ns with
  |[]=>70001+911*k*k
  |v::_=>70001+911*k*k+v%9973*(3*k+1)
theorem Ub {fu n:Nat} (hT:T "_law_cell" = a3 fL_cell) {ns:List Int} {k:Nat} (hk:k<=100):evP fu G T (n+1) "_law_cell" [.lst (ns.map .int),.int k]=.val (.int (qj ns k)):=by
 rw[jt (F:=fL_cell) hT rfl];simp only[fL_cell,Ye,enter];by_cases h:k<ns.length
 .have e:atI (ns.map D.int) (k:Int)=a3 (.int ns[k]):=Vr (by simp[h]);have q:qj ns k=ns[k]:=by simp[qj,h]
  ext;simp only[e,j2v,j56,j2m,j02,j2y,q]
 .cases ns with
  |nil =>ext;simp[qj]
  |cons v r =>
   have e:atI (D.int v::r.map D.int) 0=a3 (.int v):=by simp[atI,ixN]
   have q:qj (v::r) k=70001+911*k*k+v%9973*(3*k+1):=by unfold qj;rw[Pj nofun]
   rw[Xa];rw[X3]at h;ext;simp only[e];ext;rw[q]
theorem Ly {fu n m:Nat} (hT:T "_law_part" = a3 Ck) {z:Int} (hm:m<=6):evP fu G T (n+1) "_law_part" [.int m,.int z]=.val (.tup ((j6 3 m z).map .int)):=by
 rw[jt (F:=Ck) hT rfl];simp only[Ck,j3c,enter];ext;rw[Ow (λi=>[.val (.int m),.val (.int (z/3^i)),.own ((j6 3 i z).map .int),if i=0 then .un else .val (.int ((i:Int)-1))]) (by simp[j6])]
 .ext;rw[jj];simp
 .intro i d hi;obtain⟨h1,rfl⟩:=Yh hi;have hl:(j6 3 i z).length=i:=jf 3 i z;simp only[Qe];ext;rw[j10 z 3 (by decide),j6];simp
theorem j05 {fu n m:Nat} (hT:T "_law_row" = a3 fL_row) {z:Int} (hm:m<=6):evP fu G T (n+1) "_law_row" [.int m,.int z]=.val (.tup ((j6 2 m z).map .int)):=by
 rw[jt (F:=fL_row) hT rfl];simp only[fL_row,Uy,enter];ext;rw[Ow (λi=>[.val (.int m),.val (.int z),.own (((j6 2 m z).take i).map .int),if i=0 then .un else .val (.int ((i:Int)-1))]) (by simp[j6])]
 .ext;rw[jj,Xc,Te (by rw[jf];omega)]
 .intro i d hi;obtain⟨h1,rfl⟩:=Yh hi;have hl:(j6 2 m z).length=m:=jf 2 m z;have hp:0<(2:Int)^((m:Int)-(0+i)-1).toNat/\(2:Int)^((m:Int)-(0+i)-1).toNat<=32:=by
   have:((m:Int)-(0+i)-1).toNat<=5:=by omega
   generalize ((m:Int)-(0+i)-1).toNat=t at *;have:t=0\/t=1\/t=2\/t=3\/t=4\/t=5:=by omega
   rcases this with e|e|e|e|e|e<;>subst e<;>decide
  simp only[Qe];ext;rw[S7,Zi 2 (show i<m by omega)];have et:((m:Int)-(0+i)-1).toNat=m-i-1:=by omega
  simp[et]
theorem j7r(f:List Int):step [] f=[]:=rfl
theorem j4w(acc:List (List Int))(a f:List Int):step (acc++[a]) f=step acc f++f.map λx=>a++[x]:=by simp[step]
theorem j19(fs:List (List Int))(f:List Int):qp (fs++[f])=step (qp fs) f:=by simp[qp]
theorem Ep(acc:List (List Int)){f:List Int}{k:Nat}(h:f.length<=k):(step acc f).length<=acc.length*k:=by
 unfold step;induction acc with
 |nil=>simp
 |cons a acc ih =>rw[List.flatMap_cons,Xf,xg,X3,kZ];omega
theorem j22{fs:List (List Int)}{k:Nat}(h:∀f∈fs,f.length<=k):(qp fs).length<=k^fs.length:=by
 have go:∀(fs acc:List (List Int)),(∀f∈fs,f.length<=k)->(fs.foldl step acc).length<=acc.length*k^fs.length:=by
  intro fs;induction fs with
  |nil=>intro acc _;simp
  |cons f fs ih =>intro acc hf;have h1:=ih (step acc f) λg hg=>hf g (xf _ hg);have h2:=Ep acc (hf f (xq ..));rw[Pz,X3,Tv,eA (k^fs.length) k,<-Nat.mul_assoc];exact Xj h1 (Nat.mul_le_mul_right _ h2)
 have:=go fs [[]] h;simpa [qp]using this
theorem j1a{fs:List (List Int)}{r:List Int}(h:r∈qp fs):r.length=fs.length:=by
 have go:∀(fs acc:List (List Int)) (k:Nat),(∀a∈acc,a.length=k)->∀r∈fs.foldl step acc,r.length=k+fs.length:=by
  intro fs;induction fs with
  |nil=>intro acc k ha r hr;exact ha r hr
  |cons f fs ih =>
   intro acc k ha r hr;have:=ih (step acc f) (k+1) (λa hm=>by
    obtain⟨b,hb,hx⟩:=List.mem_flatMap.mp hm
    obtain⟨x,_,rfl⟩:=xr.mp hx
    rw[Xf,ha b hb];rfl) r hr
   rw[this,X3];omega
 have:=go fs [[]] 0 (λa ha=>by rw[xj.mp ha];rfl) r h;omega
theorem Zu {fu n:Nat} (hT:T "all_choices" = a3 fP_all_choices) {fs:List (List Int)} (hf:∀f∈fs,f.length<=3) (hl:fs.length<=6):evP fu G T (n+1) "all_choices" [.lst (jn fs)]=.fresh (jn (qp fs)):=by
 rw[jt (F:=fP_all_choices) hT rfl];simp only[fP_all_choices,J5,enter];ext;have small:∀i,(qp (fs.take i)).length<=729:=λi=>by
  have h:=j22 (fs:=fs.take i) (k:=3) λf hm=>hf f (List.mem_of_mem_take hm);have h2:(fs.take i).length<=6:=by rw[P0];omega
  exact Xj h (cT (by decide) h2)
 refine W0 (λi ρ=>∃s2 s4,ρ=[.val (.lst (jn fs)),.own (jn (qp (fs.take i))),s2,.un,s4,.un]) ⟨.un,.un,by simp[qp,jn,ji]⟩ ?_ ?_
 .rintro i d ρ hi ⟨s2,s4,rfl⟩;obtain⟨f,hfi,rfl⟩:=Oz hi;have hf3:f.length<=3:=hf f (Xr hfi);have sm:=small i;simp only[Qe];ext;refine Ls (λj ρ=>∃s4,ρ=[.val (.lst (jn fs)),.val (.lst (jn (qp (fs.take i)))),.val (ji f),.own (jn (step ((qp (fs.take i)).take j) f)),s4,.un]) ⟨s4,by simp[j7r]⟩ ?_ ?_
  .rintro j d ρ hj ⟨s4,rfl⟩;obtain⟨a,haj,rfl⟩:=Oz hj;have hs:=Ep ((qp (fs.take i)).take j) hf3;have hs2:((qp (fs.take i)).take j).length<=729:=by rw[P0];omega
   have ha:a.length<=6:=by have:=j1a (Xr haj);rw[P0]at this;omega
   simp only[Qe];ext;rw[jw (l:=(f.map λx=>ji (a++[x]))) (by rfl) ?_ ?_ (.inl rfl)]
   .ext;refine⟨_,rfl,.val (ji a),?_⟩;rw[take_snoc haj,j4w];simp only[jn,Pq,Xe];rfl
   .simp only[xg];omega
   .refine qb λx _=>z9 (by ext) ?_;ext;simp
  .rintro ρ' ⟨s4,rfl⟩;ext;refine⟨_,rfl,.val (ji f),s4,?_⟩;rw[take_snoc hfi,j19,cP]
 .rintro ρ' ⟨s2,s4,rfl⟩;ext;rw[cP]
theorem j96(t:Int):(Ze t).length<=3:=by unfold Ze;split<;>simp
theorem j1s {fu n:Nat} (hT:T "rows_in" = a3 fP_rows_in) (hC:T "all_choices" = a3 fP_all_choices) (gNT:G "NOT_TOLD" = a3 (.int 2)) (gAN:G "ANSWERS" = a3 (.tup [.int 0,.int 1])) {p:List Int} (hp:p.length<=6):evP fu G T (n+2) "rows_in" [ji p]=.fresh (jn (qp (p.map Ze))):=by
 rw[jt (F:=fP_rows_in) hT rfl];simp only[fP_rows_in,Qw,enter];ext;rw[jw (l:=jn (p.map Ze)) (by rfl) ?_ ?_ (.inl rfl)]
 .ext;rw[Zu hC (λf hf=>by obtain⟨t,_,rfl⟩:=xr.mp hf;exact j96 t) (by rw[xg];exact hp)];ext
 .rw[xg];omega
 .rw[jn,Xe];refine qb λt _=>z9 (by ext) ?_;by_cases h:t=2
  .ext;simp only[gNT];ext;simp only[gAN];ext;simp[Ze,h]
  .ext;simp only[gNT];ext;simp[Ze,h]
theorem j51 {fu:Nat} (hT:T "_law_same" = a3 fL_same):∀(k:Nat){x:D}{n:Nat},x.dep<=k->Z7 x->evP fu G T (n+k+1) "_law_same" [x,x]=.val (.bl a6):=by
 intro k;induction k with
 |zero =>
  intro x n hk hx;rw[jt (F:=fL_same) hT rfl];simp only[fL_same,Vc,enter];cases x with
  |tup l=>simp[D.dep]at hk
  |lst l=>simp[D.dep]at hk
  |dct ks l=>simp[D.dep]at hk
  |sct k=>simp[D.dep]at hk
  |fn x l=>simp[D.dep]at hk
  |non=>ext
  |bl b=>ext
  |int i=>ext
  |str z=>ext
 |succ k ih =>
  intro x n hk hx;have ih':∀{x:D},x.dep<=k->Z7 x->evP fu G T (n+(k+1)) "_law_same" [x,x]=.val (.bl a6):=λh1 h2=>ih h1 h2;rw[jt (F:=fL_same) hT rfl];simp only[fL_same,Vc,enter];cases x with
  |dct ks l=>exact aW (by simpa [Z7]using hx)
  |sct k=>exact aW (by simpa [Z7]using hx)
  |fn x l=>exact aW (by simpa [Z7]using hx)
  |tup l =>
   obtain⟨hl,hx⟩:=j66 hx;have hk:D.depL l<=k:=by simp only[D.dep]at hk;omega
   ext;rw[Xc,jw (l:=[]) (by rfl) (by rw[jj];omega) ?_ (.inl rfl)]
   .ext
   .refine Wg λd hd=>?_;obtain⟨j,hj,rfl⟩:=j0k hd;have hg:atI l (0+(j:Int))=a3 l[j]:=by rw[de];exact Vr (kh hj)
    have hm:l[j]∈l:=Xm hj;refine Zz (b:=a4) (d':=.non) ?_ λz=>by cases z
    ext;simp only[hg];ext;rw[ih' (Xj (D.depL_mem hm) hk) (W4 hx hm)];ext
  |lst l =>
   obtain⟨hl,hx⟩:=j67 hx;have hk:D.depL l<=k:=by simp only[D.dep]at hk;omega
   ext;rw[Xc,jw (l:=[]) (by rfl) (by rw[jj];omega) ?_ (.inl rfl)]
   .ext
   .refine Wg λd hd=>?_;obtain⟨j,hj,rfl⟩:=j0k hd;have hg:atI l (0+(j:Int))=a3 l[j]:=by rw[de];exact Vr (kh hj)
    have hm:l[j]∈l:=Xm hj;refine Zz (b:=a4) (d':=.non) ?_ λz=>by cases z
    ext;simp only[hg];ext;rw[ih' (Xj (D.depL_mem hm) hk) (W4 hx hm)];ext
  |non=>ext
  |bl b=>ext
  |int i=>ext
  |str z=>ext
theorem We(p:List Int):((p.map D.int).countP λe=>deq e (.int 2))=p.countP λt=>t==2:=by
 induction p with
 |nil=>rfl
 |cons t ts ih=>simp[Xq,ih,j13]
noncomputable def agL(p r:List Int)(m:Nat):List Nat:=(ax m).filter λk=>decide (p.getD k 0<2)&&decide (p.getD k 0≠r.getD k 0)
theorem Ba:∀{p r:List Int},p.length=r.length->(fits p r=a6 ↔ ∀k,k<p.length->p.getD k 0=2\/p.getD k 0=r.getD k 0)
 |[],[],_=>by simp[fits]
 |[],_::_,h=>by simp at h
 |_::_,[],h=>by simp at h
 |t::ts,x::xs,h=>by
  have ih:=Ba (p:=ts) (r:=xs) (by simpa using h);rw[fits,Xg,ih];constructor
  .rintro⟨h1,h2⟩ k hk;cases k with
   |zero=>simpa using h1
   |succ k=>simpa using h2 k (by simpa using hk)
  .intro q;exact⟨by simpa using q 0 (by simp),λk hk=>by simpa using q (k+1) (by simpa using hk)⟩
theorem ja4{p r:List Int}(hp:∀t∈p,0<=t/\t<3)(h:p.length=r.length):(agL p r p.length).length=0↔fits p r=a6:=by
 rw[Ba h,List.length_eq_zero_iff,agL,List.filter_eq_nil_iff];constructor
 .intro q k hk;have:=q k (X5.mpr hk);simp only[Xg,decide_eq_true_eq]at this;have b:=hp (p.getD k 0) (by rw[kj,kh hk];exact Xm hk);omega
 .intro q k hk;have:=q k (X5.mp hk);simp only[Xg,decide_eq_true_eq];omega
theorem Jv(n:Nat):upto 0 n=(ax n).map λ(k:Nat)=>D.int (0+(k:Int)):=rfl
theorem j3r{m:Nat}(h:m<=6):(1:Int)<=2^m/\(2:Int)^m<=64:=by
 have:m=0\/m=1\/m=2\/m=3\/m=4\/m=5\/m=6:=by omega
 rcases this with e|e|e|e|e|e|e<;>subst e<;>decide
theorem Uv{p:List Int}{k:Nat}(h:k<p.length):atI (p.map D.int) (0+(k:Int))=a3 (.int (p.getD k 0)):=by rw[de];refine Vr ?_;rw[X6,kh h,kj,kh h];rfl
end
end KL
namespace KV
open PySem
noncomputable def letters:List Nat:=[109,100,107,98,118,113,104,122,99,103,114,110,97,112,120,111,108,115,105,101,102,119,116,121,106,117]
theorem jcq:("mdkbvqhzcgrnapxolsiefwtyju":aj).cps.toList=letters:=by decide +kernel
noncomputable def lt(n:Int):Nat:=letters.getD n.toNat 0
noncomputable def sL(l:List Nat):aj:=⟨l.toArray⟩
theorem J9{l:List Nat}:(sL l).length=l.length:=by simp[sL,lQ]
theorem jey{l m:List Nat}(h:sL l=sL m):l=m:=by have:=congrArg (λz=>z.cps.toList) h;simpa [sL]using this
theorem Yz{l m:List Nat}:sL l++sL m=sL (l++m):=by show(⟨l.toArray++m.toArray⟩:aj)=_;simp[sL]
theorem Nk:∀l:List Nat,eQ ("":aj) (l.map λc=>(⟨#[c]⟩:aj))=sL l:=by
 intro l;show lR _ _=_;rw[StrLaws.glued_eq_join];induction l with
 |nil=>rfl
 |cons a r ih =>
  cases r with
  |nil=>rfl
  |cons b r =>
   rw[Xa,Xa,Str.join,<-Xa (f:=λc=>(⟨#[c]⟩:aj)),ih]
   .show(⟨(#[a] ++ #[])++(b::r).toArray⟩:aj)=⟨(a::b::r).toArray⟩
    simp
   .intro z;cases z
theorem jez{l:List Nat}:(sL l).cps.toList=l:=by simp[sL]
theorem Nr{k n:Nat}:aE a7 (a3 (k:Int)) 1 n=aE (a3 ((0:Nat):Int)) (a3 (k:Int)) 1 n:=by
 have e:max (0:Int) (min 0 (n:Int))=0:=by omega
 simp[aE,e]
theorem Nt{k n:Nat}:aE (a3 (k:Int)) a7 1 n=aE (a3 (k:Int)) (a3 (n:Int)) 1 n:=by
 have e:max (0:Int) (min (n:Int) (n:Int))=n:=by omega
 have e2:¬((n:Int)<0):=by omega
 simp[aE,e,e2]
theorem Eu{l:List Nat}{a b:Nat}{lo hi:Option Int}(he:aE lo hi 1 (sL l).length=aE (a3 (a:Int)) (a3 (b:Int)) 1 (sL l).length)(hab:a<=b)(hb:b<=l.length):bS (sL l) lo hi=sL ((l.drop a).take (b-a)):=by
 have hb':b<=(sL l).length:=by rw[J9];exact hb
 have q:=StrLaws.sliced_plain (sL l) hab hb';rw[jez]at q;have e1:=StrLaws.strSliceIndices_plain hab hb';unfold bS;rw[he];by_cases h:((1:Int)==1&&(aE (a3 (a:Int)) (a3 (b:Int)) 1 (sL l).length).length==(sL l).length)=a6
 .rw[if_pos h];rw[e1,J9,xg,Pa]at h;have:b-a=l.length:=by simpa using h
  have ha:a=0:=by omega
  subst ha;rw[this,eP,cP]
 .rw[if_neg h,q];rfl
theorem Bt{l:List Nat}{k:Nat}(h:k<=l.length):bS (sL l) a7 (a3 (k:Int))=sL (l.take k):=by rw[Eu (a:=0) (b:=k) Nr (Ti _) h];simp
theorem Bu{l:List Nat}{k:Nat}(h:k<=l.length):bS (sL l) (a3 (k:Int)) a7=sL (l.drop k):=by rw[Eu (a:=k) (b:=l.length) (by rw[Nt,J9]) h (xx _),Te (by rw[Tn];omega)]
theorem Wz {l:List Nat} (h:l.length<=100):fq ("":aj) (l.map λc=>(⟨#[c]⟩:aj))=a6:=by
 unfold fq;rw[js];have e:∀(r:List Nat)(k:Nat),(r.map λc=>(⟨#[c]⟩:aj)).foldl (λ(x:Nat) (y:aj)=>x+y.length+("":aj).length) k=k+r.length:=by
  intro r;induction r with
  |nil=>intro k;rfl
  |cons a r ih =>intro k;rw[Xa,Pz,ih,X3];show k+1+0+r.length=_;omega
 show cN _=a4;have:=e l 0;rw[List.foldl_toArray];show cN (di (λ(x:Nat) (y:aj)=>x+y.length+("":aj).length) 0 _)=a4;rw[this];unfold cN;simp;have:=jJ;omega
noncomputable def Y4(c:Int):List Nat:=(ax 8).map λ(k:Nat)=>lt (c/(4+5*(k:Int))%26)
noncomputable def Vd(c:Int)(s:Nat):List Nat:=(ax s).map λ(k:Nat)=>lt ((c/32+3*(k:Int)*(k:Int)+(k:Int))%26)
theorem Qn(c:Int):(Y4 c).length=8:=by simp[Y4]
theorem vf(c:Int)(s:Nat):(Vd c s).length=s:=by simp[Vd]
noncomputable def stN(c:Int)(m:Nat):Nat:=(c/8%(9-(m:Int))).toNat
noncomputable def szN(c:Int):Nat:=(c/4%8).toNat
noncomputable def atN(c:Int):Nat:=(c/512%((szN c:Int)+1)).toNat
noncomputable def wrd(c:Int)(m k:Nat):List Nat :=
 if c%4<2 then(if c%4=0 then(Y4 c).take (stN c m+k+1) else(Y4 c).drop (8-stN c m-k-1))
 else(Vd c (szN c)).take (atN c)++lt ((c/9+7*(k:Int))%26)::(Vd c (szN c)).drop (atN c)
noncomputable def Qj(c:Int)(m:Nat):List aj:=(ax m).map λ(k:Nat)=>sL (wrd c m k)
theorem jg8{a b:Int}(ha:0<=a/\a<26)(hb:0<=b/\b<26)(h:lt a=lt b):a=b:=by
 obtain⟨i,rfl⟩:∃i:Nat,a=(i:Int):=⟨a.toNat,by omega⟩
 obtain⟨j,rfl⟩:∃j:Nat,b=(j:Int):=⟨b.toNat,by omega⟩
 have key:∀i j:Fin 26,letters.getD i.val 0=letters.getD j.val 0->i=j:=by decide +kernel
 have:=key ⟨i,by omega⟩ ⟨j,by omega⟩ h;have:=congrArg Fin.val this;simp at this;omega
theorem jac{c:Int}{m:Nat}(h:m<=6):stN c m+m<=8:=by unfold stN;have h1:=Tw (c/8) (show(9-(m:Int))≠0 by omega);have h2:=dq (c/8) (show(0:Int)<9-(m:Int)by omega);omega
theorem jaw(c:Int):atN c<=szN c/\szN c<=7:=by unfold atN;have h1:=Tw (c/512) (show((szN c:Int)+1)≠0 by omega);have h2:=dq (c/512) (show(0:Int)<(szN c:Int)+1 by omega);refine⟨by omega,?_⟩;unfold szN;omega
theorem jb3{c:Int}{m i j:Nat}(hm:m<=6)(hi:i<m)(hj:j<m)(h:wrd c m i=wrd c m j):i=j:=by
 have s:=jac (c:=c) hm;have a:=jaw c;have l8:=Qn c;have ls:=vf c (szN c);unfold wrd at h;split at h
 .split at h
  .have:=congrArg cR h;rw[P0,P0]at this;omega
  .have:=congrArg cR h;rw[Tn,Tn]at this;omega
 .have h2:=List.append_cancel_left h;have h3:=(List.cons.inj h2).1;have:=jg8 nofun nofun h3;omega
theorem Kw(c:Int)(m:Nat):(Qj c m).length=m:=by simp[Qj]
theorem Ef{c:Int}{m:Nat}(hm:m<=6):(Qj c m).Nodup:=by unfold Qj;unfold List.Nodup;rw[fG];exact List.Pairwise.imp_of_mem (λhi hj h e=>h (jb3 hm (X5.mp hi) (X5.mp hj) (jey e))) (jE (n:=m))
end KV
open PySem (Str)
open L2
namespace KW
open KL KV PySem
noncomputable def Uz:Sx:=(.seq (.set 3 (.comp [4] (.var 4) (.range (.cons (.blt .len (.cons (.var 0) .nil)) .nil)) (.cons (.cmp .eq (.bin .mod (.bin .fdiv (.var 2) (.bin .shl (.lit (.int 1)) (.var 4))) (.lit (.int 2))) (.lit (.int 1))) .nil))) (.seq (.set 5 (.blt .sum (.cons (.comp [4] (.bin .shl (.ix (.var 0) (.var 4)) (.var 4)) (.seq (.var 3)) .nil) .nil))) (.seq (.set 6 (.blt .sum (.cons (.comp [4,7] (.bin .shl (.var 7) (.var 4)) (.enum (.var 0)) .nil) .nil))) (.seq (.ife (.cmp .eq (.var 1) (.lit (.int 1))) (.seq (.ret (.blt .int (.cons (.cmp .gt (.blt .sum (.cons (.var 0) .nil)) (.bin .mod (.bin .fdiv (.var 2) (.lit (.int 64))) (.blt .len (.cons (.var 0) .nil)))) .nil))) .nop) .nop) (.seq (.ife (.cmp .eq (.var 1) (.lit (.int 2))) (.seq (.set 8 (.bin .mod (.bin .mul (.bin .add (.var 6) (.lit (.int 1))) (.bin .add (.lit (.int 1)) (.bin .mod (.var 2) (.lit (.int 1000003))))) (.lit (.int 2147483629)))) (.seq (.ret (.blt .int (.cons (.cmp .eq (.bin .mod (.bin .fdiv (.var 8) (.lit (.int 32))) (.lit (.int 5))) (.lit (.int 0))) .nil))) .nop)) .nop) (.seq (.ife (.cmp .eq (.var 1) (.lit (.int 3))) (.seq (.set 8 (.bin .mul (.bin .add (.bin .add (.bin .mul (.var 5) (.var 5)) (.bin .mul (.lit (.int 17)) (.var 5))) (.lit (.int 69621))) (.bin .add (.lit (.int 1)) (.bin .mod (.var 2) (.lit (.int 1000003)))))) (.seq (.ret (.bin .mod (.bin .fdiv (.bin .mod (.var 8) (.lit (.int 2147483647))) (.lit (.int 16))) (.lit (.int 2)))) .nop)) .nop) (.seq (.ife (.cmp .eq (.var 1) (.lit (.int 4))) (.seq (.ret (.bin .mod (.bin .add (.blt .sum (.cons (.comp [4] (.ix (.var 0) (.var 4)) (.seq (.var 3)) .nil) .nil)) (.bin .fdiv (.var 2) (.lit (.int 64)))) (.lit (.int 2)))) .nop) .nop) (.seq (.set 8 (.bin .mul (.bin .add (.bin .mul (.var 6) (.var 6)) (.lit (.int 48271))) (.bin .add (.bin .add (.bin .mod (.var 2) (.lit (.int 1000003))) (.var 6)) (.lit (.int 1))))) (.seq (.ret (.bin .mod (.bin .fdiv (.bin .mod (.var 8) (.lit (.int 2147483647))) (.lit (.int 64))) (.lit (.int 2)))) .nop)))))))))
noncomputable def fL_bit:Fi:=⟨3,9,Uz,a4⟩
section
variable{G:aj->Option D}{T:aj->Option Fi}
theorem Ir {n:Int} (h:0<=n/\n<26):atI ("mdkbvqhzcgrnapxolsiefwtyju":aj).cps.toList n=a3 (lt n):=by
 obtain⟨k,rfl⟩:∃k:Nat,n=(k:Int):=⟨n.toNat,by omega⟩
 have hk:k<letters.length:=by show k<26;omega
 rw[jcq];refine Vr ?_;unfold lt;rw[kh hk,Xc,kj,kh hk];rfl
theorem jju:("mdkbvqhzcgrnapxolsiefwtyju":aj).length<=1000000:=by decide +kernel
theorem Em:∀{l:List Int},(∀x∈l,0<=x/\x<=32)->0<=l.sum/\l.sum<=32*(l.length:Int)
 |[],_=>by simp
 |a::r,h=>by have h1:=h a (xq ..);have h2:=Em (l:=r) λx hx=>h x (xf _ hx);rw[List.sum_cons,X3];omega
theorem p2k{k:Nat}(h:k<=5):0<(2:Int)^k/\(2:Int)^k<=32:=by
 have:k=0\/k=1\/k=2\/k=3\/k=4\/k=5:=by omega
 rcases this with e|e|e|e|e|e<;>subst e<;>decide
noncomputable def Vz(row:List Int)(c:Int):List Nat:=(ax row.length).filter λ(k:Nat)=>decide (c/(1*2^(0+(k:Int)).toNat)%2=1)
noncomputable def U8(row:List Int)(c:Int):List Int:=(Vz row c).map λ(k:Nat)=>row.getD k 0*2^(0+(k:Int)).toNat
noncomputable def byL(row:List Int):List Int:=row.zipIdx.map λp=>p.1*2^((p.2:Nat):Int).toNat
theorem t0k(k:Nat):(0+(k:Int)).toNat=k:=by omega
theorem Fp{row:List Int}(h01:∀x∈row,x=0\/x=1)(k:Nat):row.getD k 0=0\/row.getD k 0=1:=by
 rw[kj];cases h:row[k]? with
 |none=>exact .inl rfl
 |some v=>exact h01 v (Xr h)
theorem jcx{row:List Int}{c:Int}(h01:∀x∈row,x=0\/x=1)(hl:row.length<=6):0<=(U8 row c).sum/\(U8 row c).sum<=192:=by
 have h:=Em (l:=U8 row c) λx hx=>by
  obtain⟨k,hk,rfl⟩:=xr.mp hx;have hk2:=X5.mp (Xh.mp hk).1;have p:=p2k (k:=k) nofun
  rw[t0k];rcases Fp h01 k with e|e<;>rw[e]<;>omega
 have l:(U8 row c).length<=6:=by unfold U8 Vz;rw[xg];exact Xj (Th _ _) (by rw[Pa];exact hl)
 omega
theorem jke{row:List Int}(h01:∀x∈row,x=0\/x=1)(hl:row.length<=6):0<=(byL row).sum/\(byL row).sum<=192:=by
 have h:=Em (l:=byL row) λx hx=>by
  obtain⟨p,hp,rfl⟩:=xr.mp hx;obtain⟨a,k⟩:=p;have hm:=jS hp;have p:=p2k (k:=k) nofun
  show 0<=a*2^((k:Nat):Int).toNat/\a*2^((k:Nat):Int).toNat<=32;rw[Xc];have:=h01 a (by rw[hm.2.2];exact Xm _);rcases this with e|e<;>rw[e]<;>omega
 have l:(byL row).length<=6:=by unfold byL;rw[xg,df];exact hl
 omega
theorem ji1 {fu n:Nat} (hT:T "_law_bit" = a3 fL_bit) {row:List Int} {kd c:Int} (h01:∀x∈row,x=0\/x=1) (hl:1<=row.length/\row.length<=6):∃b:Int,(b=0\/b=1)/\evP fu G T (n+1) "_law_bit" [.lst (row.map D.int),.int kd,.int c]=.val (.int b):=by
 rw[jt (F:=fL_bit) hT rfl];simp only[fL_bit,Uz,enter];have kb:=jcx (c:=c) h01 hl.2;have bb:=jke h01 hl.2;have sl:(Vz row c).length<=6:=by unfold Vz;exact Xj (Th _ _) (by rw[Pa];exact hl.2)
 have get:∀k:Nat,k∈Vz row c->atI (row.map D.int) (0+(k:Int))=a3 (.int (row.getD k 0)):=λk hk=>Uv (X5.mp (Xh.mp hk).1);ext;rw[jw (l:=(Vz row c).map λ(k:Nat)=>D.int (0+(k:Int))) (by rfl) (by rw[jj];omega) ?_ (.inl rfl)];rotate_left
 .rw[Xc,Jv,Vz];refine Qd λk hk'=>?_;have hk:=X5.mp hk';have p:0<(2:Int)^(0+(k:Int)).toNat/\(2:Int)^(0+(k:Int)).toNat<=32:=by rw[t0k];exact p2k nofun
  refine Zz ?_ λ_=>?_
  .ext;simp only[Mq];ext
  .ext
 ext;rw[jw (l:=(U8 row c).map D.int) (by rfl) (by rw[xg];omega) ?_ (.inr (J3 _))];rotate_left
 .rw[U8,Xe];refine qb λk hk'=>z9 (by ext) ?_;have b:=Fp h01 k;have hk:=X5.mp (Xh.mp hk').1;ext;rw[get k hk'];ext;rfl
 ext;rw[jw (l:=(byL row).map D.int) (by rfl) (by simp only[Qg,xg,df];omega) ?_ (.inl rfl)];rotate_left
 .rw[byL,Xe,Qg,List.zipIdx_map,Xe];refine qb λq hq=>?_;obtain⟨a,k⟩:=q;have hm:=jS hq;have h1:=h01 a (by rw[hm.2.2];exact Xm _);show Jw _ _ _ _ (D.tup [.int (k:Int),.int a])=_;refine jb5 (by ext) ?_;ext;rfl
 ext;generalize (U8 row c).sum=kept at *;generalize (byL row).sum=byr at *;by_cases k1:kd=1
 .refine⟨if decide (c/64%(row.length:Int)<row.sum)=a6 then 1 else 0,by split<;>simp,?_⟩;ext;simp only[jdx];ext
 .by_cases k2:kd=2
  .refine⟨if decide ((byr+1)*(1+c%1000003)%2147483629/32%5=0)=a6 then 1 else 0,by split<;>simp,?_⟩;ext;simp only[Mq];ext
  .by_cases k3:kd=3
   .refine⟨(kept*kept+17*kept+69621)*(1+c%1000003)%2147483647/16%2,by omega,?_⟩;ext
   .by_cases k4:kd=4
    .refine⟨(((Vz row c).map λ(k:Nat)=>row.getD k 0).sum+c/64)%2,by omega,?_⟩;ext;rw[jw (l:=((Vz row c).map λ(k:Nat)=>row.getD k 0).map D.int) (by rfl) (by rw[xg];omega) ?_ (.inr (J3 _))]
     .ext
     .rw[Xe];refine qb λk hk'=>z9 (by ext) ?_;ext;rw[get k hk'];ext;rfl
    .refine⟨(byr*byr+48271)*(c%1000003+byr+1)%2147483647/64%2,by omega,?_⟩;ext
noncomputable def Bh(fu:Nat)(G:aj->Option D)(T:aj->Option Fi)(n:Nat)(row:List Int)(kd c:Int):Int:=match evP fu G T (n+1) "_law_bit" [.lst (row.map D.int),.int kd,.int c] with
 |.val (.int b)=>b
 |_=>0
theorem j1g {fu n:Nat} (hT:T "_law_bit" = a3 fL_bit) {row:List Int} {kd c:Int} (h01:∀x∈row,x=0\/x=1) (hl:1<=row.length/\row.length<=6):(Bh fu G T n row kd c=0\/Bh fu G T n row kd c=1)/\evP fu G T (n+1) "_law_bit" [.lst (row.map D.int),.int kd,.int c]=.val (.int (Bh fu G T n row kd c)):=by obtain⟨b,hb,e⟩:=ji1 (fu:=fu) (n:=n) (G:=G) hT h01 hl (kd:=kd) (c:=c);unfold Bh;rw[e];exact⟨hb,rfl⟩
theorem j49(m:Nat)(z:Int):∀x∈j6 2 m z,x=0\/x=1:=by
 intro x hx;obtain⟨i,hi⟩:=List.mem_iff_getElem?.mp hx;have hl:i<m:=by have:=(X8.mp hi).1;rw[jf]at this;exact this
 rw[Zi 2 hl]at hi;cases hi;omega
noncomputable def Zm(ns:List Int)(a most:Nat):Nat:=(1+qj ns a%(most:Int)).toNat
theorem Dt{ns:List Int}{a most:Nat}(h:1<=most/\most<=6):1<=Zm ns a most/\Zm ns a most<=most:=by unfold Zm;have h1:=Tw (qj ns a) (show(most:Int)≠0 by omega);have h2:=dq (qj ns a) (show(0:Int)<most by omega);omega
end
end KW
section
namespace K37
open PySem PySem.Spec PyProof.Rows L2
noncomputable def top(i:Nat):bp:=PySem.Challenge.pw_leastasks_k37_whole_depth_between.main.body.getD i (.Pass ⟨0,0,0,0⟩)
noncomputable def Y6:Sx:=(.seq (.expr (.call "refuse_wrong_size" (.cons (.var 0) .nil))) (.seq (.ret (.call "all_choices" (.cons (.bin .mul (.lst (.cons (.glob "ANSWERS") .nil)) (.var 0)) .nil))) .nop))
noncomputable def Wb:Fi:=⟨1,1,Y6,a4⟩
noncomputable def Z9:Sx:=(.seq (.ret (.call "number_of" (.cons (.var 0) (.cons (.blt .len (.cons (.glob "ANSWERS") .nil)) .nil)))) .nop)
noncomputable def Vw:Fi:=⟨1,1,Z9,a4⟩
noncomputable def Qw:Sx:=(.seq (.ret (.call "all_choices" (.cons (.comp [1] (.ite (.cmp .eq (.var 1) (.glob "NOT_TOLD")) (.glob "ANSWERS") (.tup (.cons (.var 1) .nil))) (.seq (.var 0)) .nil) .nil))) .nop)
noncomputable def fP_rows_in:Fi:=⟨1,2,Qw,a4⟩
noncomputable def Vk:Sx:=(.seq (.ret (.call "all_choices" (.cons (.comp [1] (.ite (.cmp .eq (.var 1) (.glob "NOT_TOLD")) (.glob "TELLINGS") (.tup (.cons (.var 1) .nil))) (.seq (.var 0)) .nil) .nil))) .nop)
noncomputable def Ug:Fi:=⟨1,2,Vk,a4⟩
noncomputable def Qh:Sx:=(.seq (.ife (.or (.cmp .lt (.var 1) (.lit (.int 0))) (.or (.cmp .ge (.var 1) (.blt .len (.cons (.var 0) .nil))) (.cmp .ne (.ix (.var 0) (.var 1)) (.glob "NOT_TOLD")))) (.seq .fail .nop) .nop) (.seq (.ret (.bin .add (.bin .add (.sl (.var 0) .nil (.cons (.var 1) .nil)) (.tup (.cons (.var 2) .nil))) (.sl (.var 0) (.cons (.bin .add (.var 1) (.lit (.int 1))) .nil) .nil))) .nop))
noncomputable def Zo:Fi:=⟨3,3,Qh,a4⟩
noncomputable def J1:Sx:=(.seq (.ife (.or (.cmp .lt (.var 0) (.glob "FEWEST_PLACES")) (.cmp .gt (.var 0) (.glob "MOST_PLACES"))) (.seq .fail .nop) .nop) .nop)
noncomputable def Q4:Fi:=⟨1,1,J1,a4⟩
noncomputable def J5:Sx:=(.seq (.set 1 (.lst (.cons (.tup .nil) .nil))) (.seq (.loop [2] (.seq (.var 0)) (.seq (.set 3 (.lst .nil)) (.seq (.loop [4] (.seq (.var 1)) (.seq (.ext 3 (.comp [5] (.bin .add (.var 4) (.tup (.cons (.var 5) .nil))) (.seq (.var 2)) .nil)) .nop)) (.seq (.mov 1 3) .nop)))) (.seq (.retV 1) .nop)))
noncomputable def fP_all_choices:Fi:=⟨1,6,J5,a4⟩
noncomputable def Zv:Sx:=(.seq (.set 2 (.lit (.int 0))) (.seq (.loop [3] (.seq (.var 0)) (.seq (.set 2 (.bin .add (.bin .mul (.var 2) (.var 1)) (.var 3))) .nop)) (.seq (.retV 2) .nop)))
noncomputable def Yp:Fi:=⟨2,4,Zv,a4⟩
noncomputable def Zw:Sx:=(.seq (.ret (.ix (.ix (.var 0) (.lit (.int 1))) (.call "row_number" (.cons (.var 1) .nil)))) .nop)
noncomputable def Yq:Fi:=⟨2,2,Zw,a4⟩
noncomputable def Z8:Sx:=(.seq (.set 2 (.call "counted_in" (.cons (.var 0) (.cons (.var 1) .nil)))) (.seq (.ife (.cmp .eq (.ix (.var 2) (.lit (.int 1))) (.lit (.int 0))) (.seq (.ret (.lit (.int 0))) .nop) .nop) (.seq (.ife (.cmp .eq (.ix (.var 2) (.lit (.int 0))) (.lit (.int 0))) (.seq (.ret (.lit (.int 1))) .nop) .nop) (.seq (.ret (.lit (.non))) .nop))))
noncomputable def Vv:Fi:=⟨2,3,Z8,a4⟩
noncomputable def Za:Sx:=(.seq (.set 2 (.comp [3] (.call "answer_to" (.cons (.var 0) (.cons (.var 3) .nil))) (.seq (.call "rows_in" (.cons (.var 1) .nil))) .nil)) (.seq (.ret (.tup (.cons (.meth .count (.var 2) (.cons (.lit (.int 0)) .nil)) (.cons (.meth .count (.var 2) (.cons (.lit (.int 1)) .nil)) .nil)))) .nop))
noncomputable def Vx:Fi:=⟨2,4,Za,a4⟩
noncomputable def Vl:Sx:=(.seq (.ret (.bin .mul (.tup (.cons (.glob "NOT_TOLD") .nil)) (.blt .len (.cons (.ix (.var 0) (.lit (.int 0))) .nil)))) .nop)
noncomputable def Uh:Fi:=⟨1,1,Vl,a4⟩
noncomputable def Q7:Sx:=(.seq (.set 2 (.call "all_choices" (.cons (.comp [3] (.tup (.cons (.var 3) (.cons (.glob "NOT_TOLD") .nil))) (.seq (.var 1)) .nil) .nil))) (.seq (.ret (.minK "size_of" (.comp [4] (.var 4) (.seq (.var 2)) (.cons (.not (.isN (.call "settled_by" (.cons (.var 0) (.cons (.var 4) .nil))))) .nil)))) .nop))
noncomputable def Zf:Fi:=⟨2,5,Q7,a4⟩
noncomputable def Jh:Sx:=(.seq (.ret (.blt .tuple (.cons (.comp [1] (.call "greatest_size" (.cons (.var 0) (.cons (.var 1) .nil))) (.seq (.glob "ANSWERS")) .nil) .nil))) .nop)
noncomputable def Z0:Fi:=⟨1,2,Jh,a4⟩
noncomputable def Y5:Sx:=(.seq (.ret (.bin .sub (.blt .len (.cons (.var 0) .nil)) (.meth .count (.var 0) (.cons (.glob "NOT_TOLD") .nil)))) .nop)
noncomputable def Wa:Fi:=⟨1,1,Y5,a4⟩
noncomputable def Q9:Sx:=(.seq (.set 2 (.comp [3] (.var 3) (.seq (.call "rows_of" (.cons (.blt .len (.cons (.ix (.var 0) (.lit (.int 0))) .nil)) .nil))) (.cons (.cmp .eq (.call "answer_to" (.cons (.var 0) (.cons (.var 3) .nil))) (.var 1)) .nil))) (.seq (.ret (.maxD (.comp [3] (.call "size_of" (.cons (.call "shortest_part" (.cons (.var 0) (.cons (.var 3) .nil))) .nil)) (.seq (.var 2)) .nil))) .nop))
noncomputable def Zh:Fi:=⟨2,4,Q9,a4⟩
noncomputable def Qx:Sx:=(.seq (.ife (.isN (.var 1)) (.seq (.ret (.bin .mul (.lst (.cons (.lit (.int 1)) .nil)) (.var 0))) .nop) .nop) (.seq (.ife (.or (.cmp .ne (.blt .len (.cons (.var 1) .nil)) (.var 0)) (.not (.call "all_between" (.cons (.var 1) (.cons (.glob "LEAST_PRICE") .nil))))) (.seq .fail .nop) .nop) (.seq (.ret (.blt .list (.cons (.var 1) .nil))) .nop)))
noncomputable def V7:Fi:=⟨2,2,Qx,a4⟩
noncomputable def Vb:Sx:=(.seq (.ret (.blt .all (.cons (.comp [2] (.and (.cmp .ge (.var 2) (.var 1)) (.cmp .le (.var 2) (.glob "GREATEST_NUMBER"))) (.seq (.var 0)) .nil) .nil))) .nop)
noncomputable def Cj:Fi:=⟨2,3,Vb,a4⟩
noncomputable def Qv:Sx:=(.seq (.ret (.call "least_table" (.cons (.var 0) (.cons (.call "worst_cost_of_ask" (.cons (.var 0) (.cons (.var 1) .nil))) .nil)))) .nop)
noncomputable def V6:Fi:=⟨2,2,Qv,a4⟩
noncomputable def J0:Sx:=(.seq (.set 2 (.call "prices_told" (.cons (.blt .len (.cons (.ix (.var 0) (.lit (.int 0))) .nil)) (.cons (.var 1) .nil)))) (.seq (.keep 2) (.seq (.retL "worst_cost_of_ask" [2]) .nop)))
noncomputable def Q3:Fi:=⟨2,3,J0,a4⟩
noncomputable def Qy:Sx:=(.seq (.ret (.dvals (.call "least_numbers" (.cons (.call "all_open" (.cons (.var 0) .nil)) (.cons (.var 0) (.cons (.var 1) .nil)))))) .nop)
noncomputable def V8:Fi:=⟨2,2,Qy,a4⟩
noncomputable def Q8:Sx:=(.seq (.retC "numbers_within" "least_numbers" (.var 0) (.var 1) [2]) .nop)
noncomputable def Zg:Fi:=⟨3,3,Q8,a4⟩
noncomputable def Ji:Sx:=(.nmake 3 4 5 (.seq (.call "parts_in" (.cons (.var 0) .nil))) (.not (.isN (.call "settled_by" (.cons (.var 1) (.cons (.var 4) .nil))))) (.ite (.var 5) (.lit (.int 0)) (.callV 2 (.cons (.var 3) (.cons (.var 4) .nil)))))
noncomputable def Z1:Fi:=⟨3,6,Ji,a4⟩
noncomputable def Qi:Sx:=(.seq (.ret (.minT (.comp [3,4] (.tup (.cons (.callV 2 (.cons (.var 0) (.cons (.var 1) (.cons (.var 3) .nil)))) (.cons (.var 3) .nil))) (.enum (.var 1)) (.cons (.cmp .eq (.var 4) (.glob "NOT_TOLD")) .nil)))) .nop)
noncomputable def Zq:Fi:=⟨3,5,Qi,a4⟩
noncomputable def Jj:Sx:=(.seq (.ret (.comp [3] (.dget (.var 0) (.call "told_further" (.cons (.var 1) (.cons (.var 2) (.cons (.var 3) .nil))))) (.seq (.glob "ANSWERS")) .nil)) .nop)
noncomputable def Z2:Fi:=⟨3,4,Jj,a4⟩
noncomputable def Ye:Sx:=(.seq (.ife (.cmp .lt (.var 1) (.blt .len (.cons (.var 0) .nil))) (.seq (.ret (.ix (.var 0) (.var 1))) .nop) .nop) (.seq (.set 2 (.bin .add (.lit (.int 70001)) (.bin .mul (.bin .mul (.lit (.int 911)) (.var 1)) (.var 1)))) (.seq (.ife (.cmp .gt (.blt .len (.cons (.var 0) .nil)) (.lit (.int 0))) (.seq (.set 2 (.bin .add (.var 2) (.bin .mul (.bin .mod (.ix (.var 0) (.lit (.int 0))) (.lit (.int 9973))) (.bin .add (.bin .mul (.lit (.int 3)) (.var 1)) (.lit (.int 1)))))) .nop) .nop) (.seq (.retV 2) .nop))))
noncomputable def fL_cell:Fi:=⟨2,3,Ye,a4⟩
noncomputable def Wj:Sx:=(.seq (.set 2 (.lit (.str "mdkbvqhzcgrnapxolsiefwtyju"))) (.seq (.set 3 (.lst .nil)) (.seq (.mov 4 0) (.seq (.loop [5] (.range (.cons (.bin .mul (.var 1) (.blt .int (.cons (.cmp .ge (.var 0) (.bin .pow (.lit (.int 10)) (.lit (.int 18)))) .nil))) .nil)) (.seq (.set 6 (.bin .add (.lit (.int 1)) (.bin .mod (.var 4) (.lit (.int 8))))) (.seq (.set 4 (.bin .fdiv (.var 4) (.lit (.int 8)))) (.seq (.set 7 (.lit (.str ""))) (.seq (.loop [8] (.range (.cons (.var 6) .nil)) (.seq (.set 7 (.bin .add (.var 7) (.ix (.var 2) (.bin .mod (.var 4) (.lit (.int 26)))))) (.seq (.set 4 (.bin .fdiv (.var 4) (.lit (.int 26)))) .nop))) (.seq (.app 3 (.var 7)) .nop)))))) (.seq (.ife (.cmp .eq (.lset (.var 3)) (.var 1)) (.seq (.retV 3) .nop) .nop) (.seq (.ife (.cmp .lt (.bin .mod (.var 0) (.lit (.int 4))) (.lit (.int 2))) (.seq (.fgt 5) (.seq (.set 9 (.join "" (.comp [5] (.ix (.var 2) (.bin .mod (.bin .fdiv (.var 0) (.bin .add (.lit (.int 4)) (.bin .mul (.lit (.int 5)) (.var 5)))) (.lit (.int 26)))) (.range (.cons (.lit (.int 8)) .nil)) .nil))) (.seq (.set 10 (.bin .mod (.bin .fdiv (.var 0) (.lit (.int 8))) (.bin .sub (.lit (.int 9)) (.var 1)))) (.seq (.ife (.cmp .eq (.bin .mod (.var 0) (.lit (.int 4))) (.lit (.int 0))) (.seq (.fgt 5) (.seq (.ret (.comp [5] (.sl (.var 9) .nil (.cons (.bin .add (.bin .add (.var 10) (.var 5)) (.lit (.int 1))) .nil)) (.range (.cons (.var 1) .nil)) .nil)) .nop)) .nop) (.seq (.fgt 5) (.seq (.ret (.comp [5] (.sl (.var 9) (.cons (.bin .sub (.bin .sub (.bin .sub (.lit (.int 8)) (.var 10)) (.var 5)) (.lit (.int 1))) .nil) .nil) (.range (.cons (.var 1) .nil)) .nil)) .nop)))))) .nop) (.seq (.set 6 (.bin .mod (.bin .fdiv (.var 0) (.lit (.int 4))) (.lit (.int 8)))) (.seq (.fgt 5) (.seq (.set 11 (.join "" (.comp [5] (.ix (.var 2) (.bin .mod (.bin .add (.bin .add (.bin .fdiv (.var 0) (.lit (.int 32))) (.bin .mul (.bin .mul (.lit (.int 3)) (.var 5)) (.var 5))) (.var 5)) (.lit (.int 26)))) (.range (.cons (.var 6) .nil)) .nil))) (.seq (.set 12 (.bin .mod (.bin .fdiv (.var 0) (.lit (.int 512))) (.bin .add (.var 6) (.lit (.int 1))))) (.seq (.fgt 5) (.seq (.ret (.comp [5] (.bin .add (.bin .add (.sl (.var 11) .nil (.cons (.var 12) .nil)) (.ix (.var 2) (.bin .mod (.bin .add (.bin .fdiv (.var 0) (.lit (.int 9))) (.bin .mul (.lit (.int 7)) (.var 5))) (.lit (.int 26))))) (.sl (.var 11) (.cons (.var 12) .nil) .nil)) (.range (.cons (.var 1) .nil)) .nil)) .nop))))))))))))
noncomputable def Bb:Fi:=⟨2,13,Wj,a4⟩
noncomputable def Uz:Sx:=(.seq (.set 3 (.comp [4] (.var 4) (.range (.cons (.blt .len (.cons (.var 0) .nil)) .nil)) (.cons (.cmp .eq (.bin .mod (.bin .fdiv (.var 2) (.bin .shl (.lit (.int 1)) (.var 4))) (.lit (.int 2))) (.lit (.int 1))) .nil))) (.seq (.set 5 (.blt .sum (.cons (.comp [4] (.bin .shl (.ix (.var 0) (.var 4)) (.var 4)) (.seq (.var 3)) .nil) .nil))) (.seq (.set 6 (.blt .sum (.cons (.comp [4,7] (.bin .shl (.var 7) (.var 4)) (.enum (.var 0)) .nil) .nil))) (.seq (.ife (.cmp .eq (.var 1) (.lit (.int 1))) (.seq (.ret (.blt .int (.cons (.cmp .gt (.blt .sum (.cons (.var 0) .nil)) (.bin .mod (.bin .fdiv (.var 2) (.lit (.int 64))) (.blt .len (.cons (.var 0) .nil)))) .nil))) .nop) .nop) (.seq (.ife (.cmp .eq (.var 1) (.lit (.int 2))) (.seq (.set 8 (.bin .mod (.bin .mul (.bin .add (.var 6) (.lit (.int 1))) (.bin .add (.lit (.int 1)) (.bin .mod (.var 2) (.lit (.int 1000003))))) (.lit (.int 2147483629)))) (.seq (.ret (.blt .int (.cons (.cmp .eq (.bin .mod (.bin .fdiv (.var 8) (.lit (.int 32))) (.lit (.int 5))) (.lit (.int 0))) .nil))) .nop)) .nop) (.seq (.ife (.cmp .eq (.var 1) (.lit (.int 3))) (.seq (.set 8 (.bin .mul (.bin .add (.bin .add (.bin .mul (.var 5) (.var 5)) (.bin .mul (.lit (.int 17)) (.var 5))) (.lit (.int 69621))) (.bin .add (.lit (.int 1)) (.bin .mod (.var 2) (.lit (.int 1000003)))))) (.seq (.ret (.bin .mod (.bin .fdiv (.bin .mod (.var 8) (.lit (.int 2147483647))) (.lit (.int 16))) (.lit (.int 2)))) .nop)) .nop) (.seq (.ife (.cmp .eq (.var 1) (.lit (.int 4))) (.seq (.ret (.bin .mod (.bin .add (.blt .sum (.cons (.comp [4] (.ix (.var 0) (.var 4)) (.seq (.var 3)) .nil) .nil)) (.bin .fdiv (.var 2) (.lit (.int 64)))) (.lit (.int 2)))) .nop) .nop) (.seq (.set 8 (.bin .mul (.bin .add (.bin .mul (.var 6) (.var 6)) (.lit (.int 48271))) (.bin .add (.bin .add (.bin .mod (.var 2) (.lit (.int 1000003))) (.var 6)) (.lit (.int 1))))) (.seq (.ret (.bin .mod (.bin .fdiv (.bin .mod (.var 8) (.lit (.int 2147483647))) (.lit (.int 64))) (.lit (.int 2)))) .nop)))))))))
noncomputable def fL_bit:Fi:=⟨3,9,Uz,a4⟩
noncomputable def Vm:Sx:=(.seq (.set 3 (.bin .add (.lit (.int 1)) (.bin .mod (.call "_law_cell" (.cons (.var 0) (.cons (.var 1) .nil))) (.var 2)))) (.seq (.set 4 (.call "_law_words" (.cons (.call "_law_cell" (.cons (.var 0) (.cons (.bin .add (.var 1) (.lit (.int 1))) .nil))) (.cons (.var 3) .nil)))) (.seq (.set 5 (.bin .mod (.bin .fdiv (.call "_law_cell" (.cons (.var 0) (.cons (.var 1) .nil))) (.var 2)) (.lit (.int 5)))) (.seq (.set 6 (.call "_law_cell" (.cons (.var 0) (.cons (.bin .add (.var 1) (.lit (.int 2))) .nil)))) (.seq (.set 7 (.lst .nil)) (.seq (.loop [8] (.range (.cons (.bin .shl (.lit (.int 1)) (.var 3)) .nil)) (.seq (.set 9 (.comp [10] (.bin .mod (.bin .fdiv (.var 8) (.bin .shl (.lit (.int 1)) (.bin .sub (.bin .sub (.var 3) (.var 10)) (.lit (.int 1))))) (.lit (.int 2))) (.range (.cons (.var 3) .nil)) .nil)) (.seq (.app 7 (.ix (.lst (.cons (.call "_law_bit" (.cons (.var 9) (.cons (.var 5) (.cons (.var 6) .nil)))) (.cons (.bin .mod (.bin .fdiv (.var 6) (.bin .shl (.lit (.int 1)) (.var 8))) (.lit (.int 2))) .nil))) (.blt .int (.cons (.cmp .ge (.var 6) (.bin .pow (.lit (.int 10)) (.lit (.int 18)))) .nil)))) .nop))) (.seq (.ret (.tup (.cons (.blt .tuple (.cons (.var 4) .nil)) (.cons (.blt .tuple (.cons (.var 7) .nil)) .nil)))) .nop)))))))
noncomputable def Ui:Fi:=⟨3,11,Vm,a4⟩
noncomputable def Vc:Sx:=(.seq (.ife (.isi (.var 1) ["list","tuple"]) (.seq (.ife (.or (.cmp .ne (.isi (.var 0) ["list"]) (.isi (.var 1) ["list"])) (.not (.isi (.var 0) ["list","tuple"]))) (.seq (.ret (.lit (.bl a4))) .nop) .nop) (.seq (.set 2 (.comp [3] (.var 3) (.range (.cons (.blt .min (.cons (.blt .len (.cons (.var 0) .nil)) (.cons (.blt .len (.cons (.var 1) .nil)) .nil))) .nil)) (.cons (.not (.call "_law_same" (.cons (.ix (.var 0) (.var 3)) (.cons (.ix (.var 1) (.var 3)) .nil)))) .nil))) (.seq (.ret (.and (.cmp .eq (.blt .len (.cons (.var 0) .nil)) (.blt .len (.cons (.var 1) .nil))) (.cmp .eq (.var 2) (.lst .nil)))) .nop))) .nop) (.seq (.ife (.isN (.var 1)) (.seq (.ret (.isN (.var 0))) .nop) .nop) (.seq (.ife (.or (.cmp .ne (.isi (.var 0) ["bool"]) (.isi (.var 1) ["bool"])) (.cmp .ne (.isi (.var 0) ["str"]) (.isi (.var 1) ["str"]))) (.seq (.ret (.lit (.bl a4))) .nop) .nop) (.seq (.ret (.and (.isi (.var 0) ["int","str"]) (.cmp .eq (.var 0) (.var 1)))) .nop))))
noncomputable def fL_same:Fi:=⟨2,4,Vc,a4⟩
noncomputable def Uy:Sx:=(.seq (.set 2 (.lst .nil)) (.seq (.loop [3] (.range (.cons (.var 0) .nil)) (.seq (.app 2 (.bin .mod (.bin .fdiv (.var 1) (.bin .shl (.lit (.int 1)) (.bin .sub (.bin .sub (.var 0) (.var 3)) (.lit (.int 1))))) (.lit (.int 2)))) .nop)) (.seq (.ret (.blt .tuple (.cons (.var 2) .nil))) .nop)))
noncomputable def fL_row:Fi:=⟨2,4,Uy,a4⟩
noncomputable def Zb:Sx:=(.seq (.set 2 (.blt .len (.cons (.var 1) .nil))) (.seq (.set 3 (.lit (.non))) (.seq (.loop [4] (.range (.cons (.bin .shl (.lit (.int 1)) (.var 2)) .nil)) (.seq (.set 5 (.call "_law_row" (.cons (.var 2) (.cons (.var 4) .nil)))) (.seq (.ife (.cmp .eq (.blt .len (.cons (.comp [6] (.var 6) (.range (.cons (.var 2) .nil)) (.cons (.and (.cmp .lt (.ix (.var 1) (.var 6)) (.lit (.int 2))) (.cmp .ne (.ix (.var 1) (.var 6)) (.ix (.var 5) (.var 6)))) .nil)) .nil)) (.lit (.int 0))) (.seq (.ife (.and (.not (.isN (.var 3))) (.cmp .ne (.ix (.var 0) (.var 4)) (.var 3))) (.seq (.ret (.lit (.bl a4))) .nop) .nop) (.seq (.set 3 (.ix (.var 0) (.var 4))) .nop)) .nop) .nop))) (.seq (.ret (.lit (.bl a6))) .nop))))
noncomputable def Vy:Fi:=⟨2,7,Zb,a4⟩
noncomputable def Uc:Sx:=(.seq (.set 2 (.blt .len (.cons (.var 1) .nil))) (.seq (.mov 3 2) (.seq (.loop [4] (.range (.cons (.bin .shl (.lit (.int 1)) (.var 2)) .nil)) (.seq (.set 5 (.blt .tuple (.cons (.comp [6] (.ix (.lst (.cons (.lit (.int 2)) (.cons (.ix (.var 1) (.var 6)) .nil))) (.bin .band (.bin .shr (.var 4) (.var 6)) (.lit (.int 1)))) (.range (.cons (.var 2) .nil)) .nil) .nil))) (.seq (.ife (.and (.cmp .lt (.bin .sub (.var 2) (.meth .count (.var 5) (.cons (.lit (.int 2)) .nil))) (.var 3)) (.call "_law_one_answer" (.cons (.var 0) (.cons (.var 5) .nil)))) (.seq (.set 3 (.bin .sub (.var 2) (.meth .count (.var 5) (.cons (.lit (.int 2)) .nil)))) .nop) .nop) .nop))) (.seq (.retV 3) .nop))))
noncomputable def Ra:Fi:=⟨2,7,Uc,a4⟩
noncomputable def j4h:Sx:=(.seq (.set 1 (.ix (.lst (.cons (.lit (.int 4)) (.cons (.lit (.int 4)) (.cons (.lit (.int 4)) (.cons (.lit (.int 4)) (.cons (.lit (.int 4)) (.cons (.lit (.int 4)) (.cons (.lit (.int 4)) (.cons (.lit (.int 5)) .nil))))))))) (.bin .mod (.call "_law_cell" (.cons (.var 0) (.cons (.lit (.int 3)) .nil))) (.lit (.int 8))))) (.seq (.unp 2 3 (.call "_law_question" (.cons (.var 0) (.cons (.lit (.int 0)) (.cons (.var 1) .nil))))) (.seq (.ife (.cmp .eq (.bin .mod (.bin .fdiv (.call "_law_cell" (.cons (.var 0) (.cons (.lit (.int 3)) .nil))) (.lit (.int 8))) (.lit (.int 16))) (.lit (.int 0))) (.seq (.set 3 (.blt .tuple (.cons (.comp [4] (.bin .mod (.bin .fdiv (.call "_law_cell" (.cons (.var 0) (.cons (.lit (.int 3)) .nil))) (.lit (.int 128))) (.lit (.int 2))) (.seq (.var 3)) .nil) .nil))) .nop) .nop) (.seq (.set 5 (.lst (.cons (.lit (.int 0)) (.cons (.lit (.int 0)) .nil)))) (.seq (.loop [6,7] (.enum (.var 3)) (.seq (.put 5 (.var 7) (.blt .max (.cons (.ix (.var 5) (.var 7)) (.cons (.call "_law_fewest" (.cons (.var 3) (.cons (.call "_law_row" (.cons (.blt .len (.cons (.var 2) .nil)) (.cons (.var 6) .nil))) .nil))) .nil)))) .nop)) (.seq (.ife (.not (.call "_law_same" (.cons (.call "settling_sizes" (.cons (.tup (.cons (.var 2) (.cons (.var 3) .nil))) .nil)) (.cons (.tup (.cons (.ix (.var 5) (.lit (.int 0))) (.cons (.ix (.var 5) (.lit (.int 1))) .nil))) .nil)))) (.seq (.ret (.lit (.bl a4))) .nop) .nop) (.seq (.set 8 (.ix (.callD "worst_table" (.cons (.tup (.cons (.var 2) (.cons (.var 3) .nil))) .nil)) (.neg (.lit (.int 1))))) (.seq (.ret (.che (.blt .max (.cons (.var 5) .nil)) (.var 8) (.bin .mul (.ix (.var 5) (.lit (.int 0))) (.ix (.var 5) (.lit (.int 1)))))) .nop))))))))
noncomputable def j45:Fi:=⟨1,9,j4h,a4⟩
noncomputable def vy:Ex:=(.bin .add (.ix (.var 0) (.var 3)) (.blt .max (.cons (.call "numbers_behind" (.cons (.var 1) (.cons (.var 2) (.cons (.var 3) .nil)))) .nil)))
noncomputable def Jz:Fi:=⟨4,4,.ret vy,a6⟩
noncomputable def Q5:Ex:=(.ix (.call "cheapest_ask" (.cons (.var 1) (.cons (.var 2) (.cons (.var 0) .nil)))) (.lit (.int 0)))
noncomputable def Zd:Fi:=⟨3,3,.ret Q5,a6⟩
noncomputable def tbl:List (aj×Fi):=("rows_of",Wb)::("row_number",Vw)::("rows_in",fP_rows_in)::("parts_in",Ug)::("told_further",Zo)::("refuse_wrong_size",Q4)::("all_choices",fP_all_choices)::("number_of",Yp)::("answer_to",Yq)::("settled_by",Vv)::("counted_in",Vx)::("all_open",Uh)::("shortest_part",Zf)::("settling_sizes",Z0)::("size_of",Wa)::("greatest_size",Zh)::("prices_told",V7)::("all_between",Cj)::("worst_table",V6)::("worst_cost_of_ask",Q3)::("least_table",V8)::("least_numbers",Zg)::("numbers_within",Z1)::("cheapest_ask",Zq)::("numbers_behind",Z2)::("_law_cell",fL_cell)::("_law_words",Bb)::("_law_bit",fL_bit)::("_law_question",Ui)::("_law_same",fL_same)::("_law_row",fL_row)::("_law_one_answer",Vy)::("_law_fewest",Ra)::("law",j45)::("worst_cost_of_ask.<locals>.<lambda>",Jz)::("least_numbers.<locals>.<lambda>",Zd)::[]
noncomputable def T(x:aj):Option Fi:=tbl.lookup x
noncomputable def gs:List (aj×D):=[("FEWEST_PLACES",.int 1),("MOST_PLACES",.int 6),("ANSWERS",.tup [.int 0,.int 1]),("NOT_TOLD",.int 2),("TELLINGS",.tup [.int 0,.int 1,.int 2]),("LEAST_PRICE",.int 1),("GREATEST_NUMBER",.int 1000000)]
noncomputable def xs:List (aj×List D):=[]
noncomputable def qs:List aj:=[]
noncomputable abbrev G:aj->Option D:=Gof gs a4 xs qs
end K37
end
section
open PySem PySem.Spec PyProof.Rows L2
local macro_rules | `(tactic| walk_at "vis")=>`(tactic| first | exact Or.inl rfl | exact Or.inr (Or.inl rfl) | exact Or.inr (Or.inr rfl))
local macro_rules | `(tactic| walk_at "loc")=>`(tactic| first | exact Or.inl rfl | exact Or.inr rfl)
local macro_rules | `(tactic| walk_at "cap")=>`(tactic| repeat (first | exact rfl | refine ⟨_,_,rfl,by rfl,by rfl,by rfl,by rfl,?_⟩))
local macro_rules | `(tactic| walk_at "ts")=>`(tactic| first
 |exact Tr.int|exact Tr.bl|exact Tr.non|exact Tr.str
 |exact Tr.var (by rfl) (by walk_at "vis") (by decide) (by decide)|exact Tr.glob (by rfl) (by decide) (by decide)
 |refine Tr.bin ?_ ?_|refine Tr.neg ?_|refine Tr.cmp (by rfl) ?_ ?_|refine Tr.bcmp (by rfl) ?_ ?_|refine Tr.isN ?_|refine Tr.bisN ?_|refine Tr.isNN ?_|refine Tr.bisNN ?_
 |refine Tr.and ?_ ?_|refine Tr.or ?_ ?_|refine Tr.one ?_|refine Tr.not ?_
 |refine Tr.wand ?_ ?_|refine Tr.wor ?_ ?_|refine Tr.wand1 ?_|refine Tr.wor1 ?_|refine Tr.bw ?_|refine Tr.bnot ?_
 |refine Tr.ite ?_ ?_ ?_|exact Tr.nil|refine Tr.cons (by rfl) ?_ ?_|refine Tr.tup ?_|refine Tr.lst ?_
 |refine Tr.ix (by intro _ _;rfl) ?_ ?_|exact Tr.oN|refine Tr.oS ?_|refine Tr.sl ?_ ?_ ?_
 |refine Tr.che (by with_unfolding_all rfl) ?_ ?_ ?_|refine Tr.maxD (by rfl) (by rfl) (by rfl) ?_
 |refine Tr.callD (by decide) (by rfl) (by decide) (by rfl) (by rfl) ?_|refine Tr.max (by rfl) (by rfl) ?_|refine Tr.max1 (by rfl) (by rfl) ?_
 |refine Tr.call (by rfl) (by decide) (by rfl) (by rfl) ?_
 |refine Tr.callV (by rfl) (by walk_at "vis") (by decide) (by decide) (by rfl) (by rfl) ?_|refine Tr.dget (by intro _ _;rfl) ?_ ?_|refine Tr.dvals (by rfl) (by rfl) (by rfl) (by rfl) (by rfl) ?_|refine Tr.minT (by rfl) (by rfl) (by rfl) ?_
 |refine Tr.minK (by rfl) (by rfl) (by rfl) (by rfl) (by rfl) ?_|refine Tr.lset (by rfl) (by rfl) (by rfl) (by rfl) (by rfl) ?_|refine Tr.len (by rfl) ?_|refine Tr.all (by rfl) (by rfl) ?_|refine Tr.tuple (by rfl) ?_|refine Tr.list (by rfl) ?_|refine Tr.min (by rfl) (by rfl) ?_
 |refine Tr.sum (by rfl) (by rfl) ?_|refine Tr.intc (by rfl) ?_|refine Tr.join (by rfl) (by rfl) (by rfl) (by rfl) ?_|refine Tr.lset (by rfl) (by rfl) (by rfl) (by rfl) (by rfl) ?_|refine Tr.enum (by rfl) (by rfl) ?_
 |refine Tr.count (by rfl) (by rfl) (by rfl) ?_ ?_
 |refine Tr.isi1 (by decide) (by decide +kernel) (by rfl) (by rfl) (by decide) (by decide) (by rfl) ?_
 |refine Tr.isi2 (by decide) (by decide) (by decide +kernel) (by decide +kernel) (by rfl) (by rfl) (by rfl) (by decide) (by decide) (by decide) (by decide) (by rfl) ?_
 |exact Tr.c0|refine Tr.c1 ?_
 |refine Tr.comp1 (by rfl) (by rfl) (by rfl) (by rfl) (by rfl) (by intro _;rfl) ?_ ?_ ?_
 |refine Tr.comp2 (by rfl) (by decide) (by rfl) (by rfl) (by rfl) (by rfl) (by rfl) (by rfl) (by intro _;rfl) ?_ ?_ ?_
 |refine Tr.seq ?_|refine Tr.range (by rfl) ?_
 |refine Tr.bval (by intro _;rfl) ?_
 |refine Ts.nmake (by rfl) (by rfl) (by rfl) (by rfl) (by walk_at "loc") (by walk_at "loc") (by walk_at "loc") (by exact bq rfl) (by exact bq rfl) (by exact bq rfl) (by decide) (by decide) (by decide) (by decide) (by rfl) (by rfl) (by rfl) (by intro _;rfl) ?_ ?_ ?_
 |exact Ts.retL (by decide) (by rfl) (by rfl) (by rfl) (Eq.trans (by assumption) rfl) (by rfl) (by decide +kernel) (by walk_at "cap")
 |refine Ts.retC (by decide) (by rfl) (by rfl) (by rfl) (Eq.trans (by assumption) rfl) (by rfl) (by decide +kernel) (by walk_at "cap") (by rfl) (by decide) (by rfl) (by rfl) (by rfl) (by rfl) ?_ ?_
 |refine Ts.unp (by rfl) (by rfl) (by rfl) (by walk_at "loc") (by walk_at "loc") (by exact bq rfl) (by exact bq rfl) (by rfl) (by rfl) ?_
 |exact Ts.nil|refine Ts.fgt ?_|refine Ts.keep ?_|refine Ts.cons ?_ ?_|exact Ts.pass|exact Ts.doc|exact Ts.fail
 |exact Ts.mov (by rfl) (by rfl) (by walk_at "loc") (by exact bq rfl) (by walk_at "vis") (by decide) (by decide)
 |refine Ts.setC1 (by rfl) (by rfl) (by walk_at "loc") (by exact bq rfl) (by rfl) (by rfl) (by rfl) (by rfl) (by rfl) (by intro _;rfl) ?_ ?_ ?_
 |refine Ts.setC2 (by rfl) (by rfl) (by walk_at "loc") (by exact bq rfl) (by rfl) (by decide) (by rfl) (by rfl) (by rfl) (by rfl) (by rfl) (by rfl) (by intro _;rfl) ?_ ?_ ?_
 |refine Ts.set (by rfl) (by walk_at "loc") (by rfl) (by exact bq rfl) ?_
 |exact Ts.retV (by rfl) (by walk_at "vis") (by decide) (by decide)|refine Ts.ret ?_
 |refine Ts.ife ?_ ?_ ?_|refine Ts.for1 (by rfl) (by rfl) (by walk_at "loc") (by exact bq rfl) (by intro _;rfl) ?_ ?_
 |refine Ts.for2 (by rfl) (by decide) (by rfl) (by rfl) (by walk_at "loc") (by walk_at "loc") (by exact bq rfl) (by exact bq rfl) (by intro _;rfl) ?_ ?_
 |refine Ts.app (by rfl) (by walk_at "vis") (by decide) (by decide) (by rfl) (by rfl) (by rfl) (by rfl) ?_
 |refine Ts.ext (by rfl) (by walk_at "vis") (by decide) (by decide) (by rfl) (by rfl) (by rfl) (by rfl) ?_
 |refine Ts.put (by rfl) (by walk_at "vis") (by decide) (by decide) (by intro _;rfl) (by rfl) (by rfl) ?_ ?_
 |refine Ts.expr (by rfl) ?_
 |intro C s H fp pn
 |intro pn xe)
local macro_rules | `(tactic| walk_at "bnd")=>`(tactic| (intro _ _ _ _ _ _ us hl; first | (obtain ⟨_,e⟩:=us1 hl; subst e; rfl) | (obtain ⟨_,_,e⟩:=us2 hl; subst e; rfl) | (obtain ⟨_,_,_,e⟩:=us3 hl; subst e; rfl)))
local macro_rules | `(tactic| walk_at "bnk")=>`(tactic| (intro _ _ _ _ _ _ _ _ _ _ hK td; refine ⟨fun us hl=>?_,fun us hl=>?_,fun us v hl=>?_⟩; (first | (obtain ⟨_,e⟩:=us1 hl; subst e; exact PySem.W.binds_K hK rfl td rfl rfl rfl) | (obtain ⟨_,_,e⟩:=us2 hl; subst e; exact PySem.W.binds_K hK rfl td rfl rfl rfl)); (first | (obtain ⟨_,e⟩:=us1 (Nat.succ.inj hl); subst e; exact PySem.W.binds_K hK rfl td rfl rfl rfl) | (obtain ⟨_,_,e⟩:=us2 (Nat.succ.inj hl); subst e; exact PySem.W.binds_K hK rfl td rfl rfl rfl)); (first | (obtain ⟨_,e⟩:=us1 (Nat.succ.inj hl); subst e; exact PySem.W.binds_K hK rfl td rfl rfl rfl) | (obtain ⟨_,_,e⟩:=us2 (Nat.succ.inj hl); subst e; exact PySem.W.binds_K hK rfl td rfl rfl rfl))))
local macro_rules | `(tactic| walk_at "sc")=>`(tactic| exact ⟨rfl,rfl,rfl,by decide +kernel,rfl,by decide +kernel,by decide +kernel⟩)
local macro_rules | `(tactic| walk_at "lk")=>`(tactic| first | walk_at "sc" | walk_at "bnd" | decide)
local macro_rules | `(tactic| walk_at "scl")=>`(tactic| exact ⟨rfl,rfl,rfl,by decide +kernel,rfl,by decide +kernel,by decide +kernel,by decide +kernel,jcu⟩)
local macro_rules | `(tactic| walk_at "bndl")=>`(tactic| (intro _ _ _ _ us hl; first | (obtain ⟨_,_,e⟩:=us2 hl; subst e; rfl) | (obtain ⟨_,_,_,e⟩:=us3 hl; subst e; rfl)))
namespace K37
section
variable{P:av}{w:az}{K:k8m}{mg:k8p}{base:aD}
theorem j1p:TrT P w K mg base "rows_of" ["many"] (top 11) Y6:=by
 intro f cdv A outer s H E xe;unfold Y6
 repeat' (walk_at "ts")
theorem Dc:TrT P w K mg base "row_number" ["row"] (top 12) Z9:=by
 intro f cdv A outer s H E xe;unfold Z9
 repeat' (walk_at "ts")
theorem j1q:TrT P w K mg base "rows_in" ["part","told"] (top 13) Qw:=by
 intro f cdv A outer s H E xe;unfold Qw
 repeat' (walk_at "ts")
theorem Eh:TrT P w K mg base "parts_in" ["part","told"] (top 14) Vk:=by
 intro f cdv A outer s H E xe;unfold Vk
 repeat' (walk_at "ts")
theorem Oa:TrT P w K mg base "told_further" ["part","spot","answer"] (top 15) Qh:=by
 intro f cdv A outer s H E xe;unfold Qh
 repeat' (walk_at "ts")
theorem Um:TrT P w K mg base "refuse_wrong_size" ["many"] (top 16) J1:=by
 intro f cdv A outer s H E xe;unfold J1
 repeat' (walk_at "ts")
theorem Bo:TrT P w K mg base "all_choices" ["figures_by_spot","chosen","figures","longer","ahead","figure"] (top 17) J5:=by
 intro f cdv A outer s H E xe;unfold J5
 repeat' (walk_at "ts")
theorem Ia:TrT P w K mg base "number_of" ["figures","base","number","figure"] (top 18) Zv:=by
 intro f cdv A outer s H E xe;unfold Zv
 repeat' (walk_at "ts")
theorem Ib:TrT P w K mg base "answer_to" ["question","row"] (top 20) Zw:=by
 intro f cdv A outer s H E xe;unfold Zw
 repeat' (walk_at "ts")
theorem Fy:TrT P w K mg base "settled_by" ["question","part","counted"] (top 21) Z8:=by
 intro f cdv A outer s H E xe;unfold Z8
 repeat' (walk_at "ts")
theorem De:TrT P w K mg base "counted_in" ["question","part","answers","row"] (top 22) Za:=by
 intro f cdv A outer s H E xe;unfold Za
 repeat' (walk_at "ts")
theorem Ei:TrT P w K mg base "all_open" ["question"] (top 23) Vl:=by
 intro f cdv A outer s H E xe;unfold Vl
 repeat' (walk_at "ts")
theorem Mw:TrT P w K mg base "shortest_part" ["question","row","fitted","told","part"] (top 25) Q7:=by
 intro f cdv A outer s H E xe;unfold Q7
 repeat' (walk_at "ts")
theorem Wm:TrT P w K mg base "settling_sizes" ["question","answer"] (top 26) Jh:=by
 intro f cdv A outer s H E xe;unfold Jh
 repeat' (walk_at "ts")
theorem j1o:TrT P w K mg base "size_of" ["part"] (top 27) Y5:=by
 intro f cdv A outer s H E xe;unfold Y5
 repeat' (walk_at "ts")
theorem Mz:TrT P w K mg base "greatest_size" ["question","answer","rows","row"] (top 28) Q9:=by
 intro f cdv A outer s H E xe;unfold Q9
 repeat' (walk_at "ts")
theorem Bl:TrT P w K mg base "prices_told" ["many","prices"] (top 32) Qx:=by
 intro f cdv A outer s H E xe;unfold Qx
 repeat' (walk_at "ts")
theorem Bp:TrT P w K mg base "all_between" ["numbers","least","number"] (top 33) Vb:=by
 intro f cdv A outer s H E xe;unfold Vb
 repeat' (walk_at "ts")
theorem Bk:TrT P w K mg base "worst_table" ["question","prices"] (top 35) Qv:=by
 intro f cdv A outer s H E xe;unfold Qv
 repeat' (walk_at "ts")
theorem Ul (hl:Qt K "worst_cost_of_ask" = Ox (jr (top 36))):TrT P w K mg base "worst_cost_of_ask" ["question","prices","price_at"] (top 36) J0:=by
 intro f cdv A outer s H E xe;unfold J0
 repeat' (walk_at "ts")
theorem Bm:TrT P w K mg base "least_table" ["question","cost_of_ask"] (top 37) Qy:=by
 intro f cdv A outer s H E xe;unfold Qy
 repeat' (walk_at "ts")
theorem Mx (hl:Qt K "least_numbers" = Ox (jr (top 38))):TrT P w K mg base "least_numbers" ["whole_part","question","cost_of_ask"] (top 38) Q8:=by
 intro f cdv A outer s H E xe;unfold Q8
 repeat' (walk_at "ts")
theorem Wn:TrT P w K mg base "numbers_within" ["whole_part","question","number_unsettled","numbers","part","settled"] (top 39) Ji:=by
 intro f cdv A outer s H E xe;unfold Ji
 repeat' (walk_at "ts")
theorem Ob:TrT P w K mg base "cheapest_ask" ["numbers","part","cost_of_ask","spot","told"] (top 40) Qi:=by
 intro f cdv A outer s H E xe;unfold Qi
 repeat' (walk_at "ts")
theorem Wo:TrT P w K mg base "numbers_behind" ["numbers","part","spot","answer"] (top 41) Jj:=by
 intro f cdv A outer s H E xe;unfold Jj
 repeat' (walk_at "ts")
theorem j7q:TrT P w K mg base "_law_cell" ["_law_script","_law_k","_law_spare"] (top 43) Ye:=by
 intro f cdv A outer s H E xe;unfold Ye
 repeat' (walk_at "ts")
theorem j4u:TrT P w K mg base "_law_words" ["_law_cell_here","_law_many","_law_letters","_law_names","_law_rest","_law_k","_law_size","_law_name","_law_turn","_law_long","_law_start","_law_stem","_law_at"] (top 44) Wj:=by
 intro f cdv A outer s H E xe;unfold Wj
 repeat' (walk_at "ts")
theorem jba:TrT P w K mg base "_law_bit" ["_law_row_here","_law_kind","_law_cell_here","_law_some","_law_k","_law_kept","_law_by_row","_law_one","_law_mixed"] (top 45) Uz:=by
 intro f cdv A outer s H E xe;unfold Uz
 repeat' (walk_at "ts")
theorem Ej:TrT P w K mg base "_law_question" ["_law_script","_law_at","_law_most","_law_many","_law_places","_law_kind","_law_cell_here","_law_answers","_law_number","_law_row_here","_law_k"] (top 46) Vm:=by
 intro f cdv A outer s H E xe;unfold Vm
 repeat' (walk_at "ts")
theorem j7p:TrT P w K mg base "_law_same" ["_law_found","_law_due","_law_unlike","_law_k"] (top 47) Vc:=by
 intro f cdv A outer s H E xe;unfold Vc
 repeat' (walk_at "ts")
theorem jb9:TrT P w K mg base "_law_row" ["_law_many","_law_number","_law_row_here","_law_k"] (top 48) Uy:=by
 intro f cdv A outer s H E xe;unfold Uy
 repeat' (walk_at "ts")
theorem Df:TrT P w K mg base "_law_one_answer" ["_law_answers","_law_part","_law_many","_law_first","_law_number","_law_row_here","_law_k"] (top 49) Zb:=by
 intro f cdv A outer s H E xe;unfold Zb
 repeat' (walk_at "ts")
theorem j3k:TrT P w K mg base "_law_fewest" ["_law_answers","_law_row_here","_law_many","_law_least","_law_mask","_law_part","_law_k"] (top 50) Uc:=by
 intro f cdv A outer s H E xe;unfold Uc
 repeat' (walk_at "ts")
theorem jab:TrT P w K mg base "law" ["_law_script","_law_most","_law_places","_law_answers","_law_one","_law_sizes","_law_number","_law_answer","_law_last"] (top 51) j4h:=by
 intro f cdv A outer s H E xe;unfold j4h
 repeat' (walk_at "ts")
theorem Uo:TrL P w K mg base "worst_cost_of_ask" ["price_at","numbers","part","spot"] (lamT (top 36)) vy:=by
 intro a c cl A outer s H;unfold vy
 repeat' (walk_at "ts")
theorem O1:TrL P w K mg base "least_numbers" ["cost_of_ask","numbers","part"] (lamT (top 38)) Q5:=by
 intro a c cl A outer s H;unfold Q5
 repeat' (walk_at "ts")
end
set_option maxHeartbeats 0 in
theorem head {l:dB} {w:az} {K:k8m} {h:aD} {mg:k8p} {fa:aa} (X:K.In h) (Gn:h.Ns au mg) (hfa:mg "law" = a3 (.ref fa))
  (h0:Lf K "rows_of" (top 11))
  (h1:Lf K "row_number" (top 12))
  (h2:Lf K "rows_in" (top 13))
  (h3:Lf K "parts_in" (top 14))
  (h4:Lf K "told_further" (top 15))
  (h5:Lf K "refuse_wrong_size" (top 16))
  (h6:Lf K "all_choices" (top 17))
  (h7:Lf K "number_of" (top 18))
  (h8:Lf K "answer_to" (top 20))
  (h9:Lf K "settled_by" (top 21))
  (h10:Lf K "counted_in" (top 22))
  (h11:Lf K "all_open" (top 23))
  (h12:Lf K "shortest_part" (top 25))
  (h13:Lf K "settling_sizes" (top 26))
  (h14:Lf K "size_of" (top 27))
  (h15:Lf K "greatest_size" (top 28))
  (h16:Lf K "prices_told" (top 32))
  (h17:Lf K "all_between" (top 33))
  (h18:Lfd K "worst_table" (top 35))
  (h19:Lf K "worst_cost_of_ask" (top 36))
  (h20:Lf K "least_table" (top 37))
  (h21:Lf K "least_numbers" (top 38))
  (h22:Lf K "numbers_within" (top 39))
  (h23:Lf K "cheapest_ask" (top 40))
  (h24:Lf K "numbers_behind" (top 41))
  (h25:Lf K "_law_cell" (top 43))
  (h26:Lf K "_law_words" (top 44))
  (h27:Lf K "_law_bit" (top 45))
  (h28:Lf K "_law_question" (top 46))
  (h29:Lf K "_law_same" (top 47))
  (h30:Lf K "_law_row" (top 48))
  (h31:Lf K "_law_one_answer" (top 49))
  (h32:Lf K "_law_fewest" (top 50))
  (h33:Lf K "law" (top 51))
  (bz:bOk K=a6) {ts:List aa} (tz:tOk K ts=a6)
  {gt0:gO} {gt1:gO} {gt3:gO} {gt4:gO} {ga2:aa} {ga2n:Nat} {ga2s:Array (Option a8)} {gt5:gO} {gt7:gO} {gt8:gO} {gt9:gO} {ga6:aa} {ga6n:Nat} {ga6s:Array (Option a8)} {gt10:gO} {gt11:gO}
  (gn0:cy K au "FEWEST_PLACES" = a3 (a3 (.int 1 gt0))) (gn1:cy K au "MOST_PLACES" = a3 (a3 (.int 6 gt1))) (ga2l:K.lookup ga2=a3 ⟨.type "tuple",a7,.seq #[.int 0 gt3,.int 1 gt4] ga2n,ga2s⟩) (gn2:cy K au "ANSWERS" = a3 (a3 (.ref ga2))) (gn3:cy K au "NOT_TOLD" = a3 (a3 (.int 2 gt5))) (ga6l:K.lookup ga6=a3 ⟨.type "tuple",a7,.seq #[.int 0 gt7,.int 1 gt8,.int 2 gt9] ga6n,ga6s⟩) (gn4:cy K au "TELLINGS" = a3 (a3 (.ref ga6))) (gn5:cy K au "LEAST_PRICE" = a3 (a3 (.int 1 gt10))) (gn6:cy K au "GREATEST_NUMBER" = a3 (a3 (.int 1000000 gt11)))
  (exa:Iz K=a6)
  {fu n:Nat} (hlaw:∀ns:List Int,ns.length<=63->evP fu G T (n+1) "law" [.lst (ns.map D.int)]=.val (.bl a6)) :
  ∃fd:aQ,(∀(s:af)(v:a8),dA s fd ⟨[v],[]⟩ [("_law_script",v)])/\∀base:aD,K.In base->base.Ns au mg->FnOk l.prog w K mg base CX0 (lv (n+1)) fa fd ["_law_script"] (Ik K):=by
 have hL:=h33;obtain⟨f,oc,od,kV,dc,pm,an,cd,ct,sl,a,lk,c,k⟩:=hL;have e:=hfa.symm.trans (su X Gn a);cases e;refine⟨PySem.W.fnOf "law" "law" (v7 (top 51)) (jr (top 51)) (jb (top 51)) .none kV dc pm an cd ct,λs v=>.of_eq rfl,λbase hKb hNb=>?_⟩;have hT:∀x F,T x=a3 F->LkF l.prog w K mg base x F:=λx F hx=>by
  have all:∀p∈tbl,LkF l.prog w K mg base p.1 p.2:=by
   intro p hp;simp only[tbl,xn,dN,or_false]at hp;rcases hp with rfl|rfl|rfl|rfl|rfl|rfl|rfl|rfl|rfl|rfl|rfl|rfl|rfl|rfl|rfl|rfl|rfl|rfl|rfl|rfl|rfl|rfl|rfl|rfl|rfl|rfl|rfl|rfl|rfl|rfl|rfl|rfl|rfl|rfl|rfl|rfl
   .refine lkF (qi h0 X Gn j1p ["many"] ?_ rfl rfl ?_ ?_) rfl ?_<;>walk_at "lk"
   .refine lkF (qi h1 X Gn Dc ["row"] ?_ rfl rfl ?_ ?_) rfl ?_<;>walk_at "lk"
   .refine lkF (qi h2 X Gn j1q ["part"] ?_ rfl rfl ?_ ?_) rfl ?_<;>walk_at "lk"
   .refine lkF (qi h3 X Gn Eh ["part"] ?_ rfl rfl ?_ ?_) rfl ?_<;>walk_at "lk"
   .refine lkF (qi h4 X Gn Oa ["part","spot","answer"] ?_ rfl rfl ?_ ?_) rfl ?_<;>walk_at "lk"
   .refine lkF (qi h5 X Gn Um ["many"] ?_ rfl rfl ?_ ?_) rfl ?_<;>walk_at "lk"
   .refine lkF (qi h6 X Gn Bo ["figures_by_spot"] ?_ rfl rfl ?_ ?_) rfl ?_<;>walk_at "lk"
   .refine lkF (qi h7 X Gn Ia ["figures","base"] ?_ rfl rfl ?_ ?_) rfl ?_<;>walk_at "lk"
   .refine lkF (qi h8 X Gn Ib ["question","row"] ?_ rfl rfl ?_ ?_) rfl ?_<;>walk_at "lk"
   .refine lkF (qi h9 X Gn Fy ["question","part"] ?_ rfl rfl ?_ ?_) rfl ?_<;>walk_at "lk"
   .refine lkF (qi h10 X Gn De ["question","part"] ?_ rfl rfl ?_ ?_) rfl ?_<;>walk_at "lk"
   .refine lkF (qi h11 X Gn Ei ["question"] ?_ rfl rfl ?_ ?_) rfl ?_<;>walk_at "lk"
   .refine lkF (qi h12 X Gn Mw ["question","row"] ?_ rfl rfl ?_ ?_) rfl ?_<;>walk_at "lk"
   .refine lkF (qi h13 X Gn Wm ["question"] ?_ rfl rfl ?_ ?_) rfl ?_<;>walk_at "lk"
   .refine lkF (qi h14 X Gn j1o ["part"] ?_ rfl rfl ?_ ?_) rfl ?_<;>walk_at "lk"
   .refine lkF (qi h15 X Gn Mz ["question","answer"] ?_ rfl rfl ?_ ?_) rfl ?_<;>walk_at "lk"
   .refine lkF (qi h16 X Gn Bl ["many","prices"] ?_ rfl rfl ?_ ?_) rfl ?_<;>walk_at "lk"
   .refine lkF (qi h17 X Gn Bp ["numbers","least"] ?_ rfl rfl ?_ ?_) rfl ?_<;>walk_at "lk"
   .exact lkF (jge h18 X Gn Bk ["question","prices"] (by walk_at "sc") rfl rfl (by decide) (by walk_at "bnk")) rfl (by decide)
   .refine lkF (qi h19 X Gn (Ul (W5 h19)) ["question","prices"] ?_ rfl rfl ?_ ?_) rfl ?_<;>walk_at "lk"
   .refine lkF (qi h20 X Gn Bm ["question","cost_of_ask"] ?_ rfl rfl ?_ ?_) rfl ?_<;>walk_at "lk"
   .refine lkF (qi h21 X Gn (Mx (W5 h21)) ["whole_part","question","cost_of_ask"] ?_ rfl rfl ?_ ?_) rfl ?_<;>walk_at "lk"
   .refine lkF (qi h22 X Gn Wn ["whole_part","question","number_unsettled"] ?_ rfl rfl ?_ ?_) rfl ?_<;>walk_at "lk"
   .refine lkF (qi h23 X Gn Ob ["numbers","part","cost_of_ask"] ?_ rfl rfl ?_ ?_) rfl ?_<;>walk_at "lk"
   .refine lkF (qi h24 X Gn Wo ["numbers","part","spot"] ?_ rfl rfl ?_ ?_) rfl ?_<;>walk_at "lk"
   .refine lkF (qi h25 X Gn j7q ["_law_script","_law_k"] ?_ rfl rfl ?_ ?_) rfl ?_<;>walk_at "lk"
   .refine lkF (qi h26 X Gn j4u ["_law_cell_here","_law_many"] ?_ rfl rfl ?_ ?_) rfl ?_<;>walk_at "lk"
   .refine lkF (qi h27 X Gn jba ["_law_row_here","_law_kind","_law_cell_here"] ?_ rfl rfl ?_ ?_) rfl ?_<;>walk_at "lk"
   .refine lkF (qi h28 X Gn Ej ["_law_script","_law_at","_law_most"] ?_ rfl rfl ?_ ?_) rfl ?_<;>walk_at "lk"
   .refine lkF (qi h29 X Gn j7p ["_law_found","_law_due"] ?_ rfl rfl ?_ ?_) rfl ?_<;>walk_at "lk"
   .refine lkF (qi h30 X Gn jb9 ["_law_many","_law_number"] ?_ rfl rfl ?_ ?_) rfl ?_<;>walk_at "lk"
   .refine lkF (qi h31 X Gn Df ["_law_answers","_law_part"] ?_ rfl rfl ?_ ?_) rfl ?_<;>walk_at "lk"
   .refine lkF (qi h32 X Gn j3k ["_law_answers","_law_row_here"] ?_ rfl rfl ?_ ?_) rfl ?_<;>walk_at "lk"
   .refine lkF (qi h33 X Gn jab ["_law_script"] ?_ rfl rfl ?_ ?_) rfl ?_<;>walk_at "lk"
   .exact j65 (by decide +kernel) (W5 h19) rfl Uo ["numbers","part","spot"] (by walk_at "scl") rfl rfl rfl rfl (by walk_at "bndl")
   .exact j65 (by decide +kernel) (W5 h21) rfl O1 ["numbers","part"] (by walk_at "scl") rfl rfl rfl rfl (by walk_at "bndl")
  exact all (x,F) (lookup_mem hx)
 have bt:=jkf X Gn bz;have gl:∀x d,gs.lookup x=a3 d->∃u v,mg x=a3 u/\RelV v u/\∀H,Enc K H d v:=by
  intro x d hx;have hm:=lookup_mem hx;simp only[gs,xn,dN,or_false,Prod.mk.injEq]at hm;rcases hm with ⟨e1,e2⟩|⟨e1,e2⟩|⟨e1,e2⟩|⟨e1,e2⟩|⟨e1,e2⟩|⟨e1,e2⟩|⟨e1,e2⟩
  .subst e1 e2;exact⟨.int 1 gt0,.int 1,su X Gn gn0,⟨_,rfl⟩,λ_=>rfl⟩
  .subst e1 e2;exact⟨.int 6 gt1,.int 6,su X Gn gn1,⟨_,rfl⟩,λ_=>rfl⟩
  .subst e1 e2;exact⟨.ref ga2,.ref ga2,su X Gn gn2,rfl,λH=>⟨ga2,[.int 0,.int 1],rfl,.inr ⟨_,_,_,ga2l,rfl,rfl,rfl,(by show 2<=ar;decide),(.cons ⟨_,rfl⟩ (.cons ⟨_,rfl⟩ .nil))⟩,⟨_,_,rfl,rfl,⟨_,_,rfl,rfl,rfl⟩⟩⟩⟩
  .subst e1 e2;exact⟨.int 2 gt5,.int 2,su X Gn gn3,⟨_,rfl⟩,λ_=>rfl⟩
  .subst e1 e2;exact⟨.ref ga6,.ref ga6,su X Gn gn4,rfl,λH=>⟨ga6,[.int 0,.int 1,.int 2],rfl,.inr ⟨_,_,_,ga6l,rfl,rfl,rfl,(by show 3<=ar;decide),(.cons ⟨_,rfl⟩ (.cons ⟨_,rfl⟩ (.cons ⟨_,rfl⟩ .nil)))⟩,⟨_,_,rfl,rfl,⟨_,_,rfl,rfl,⟨_,_,rfl,rfl,rfl⟩⟩⟩⟩⟩
  .subst e1 e2;exact⟨.int 1 gt10,.int 1,su X Gn gn5,⟨_,rfl⟩,λ_=>rfl⟩
  .subst e1 e2;exact⟨.int 1000000 gt11,.int 1000000,su X Gn gn6,⟨_,rfl⟩,λ_=>rfl⟩
 have qn:∀f∈qs,∃fa,mg f=a3 (.ref fa)/\PySem.W.keepIn K (.ref fa)=a6:=by exact λf hf=>nomatch hf
 have tb:Tb l.prog w K mg base G:=jiu bt gl exa (λp hp=>nomatch hp) (λz=>by cases z) hKb hNb qn (λp hp=>nomatch hp) (jjq tz X Gn);exact jgf hT tb (F:=j45) (by rfl) rfl hfa (Nu lk c k) _ (by walk_at "sc") rfl rfl (jab _) hlaw
end K37
end
open PySem (Str sizeLine argBest)
open L2
namespace K37
open KL KW KV
theorem Iu:T "_law_cell" = a3 KL.fL_cell:=by rfl
theorem W8:T "all_choices" = a3 KL.fP_all_choices:=by rfl
theorem jdd:T "rows_in" = a3 KL.fP_rows_in:=by rfl
theorem jh0:T "_law_bit" = a3 KW.fL_bit:=by rfl
theorem gN:G "NOT_TOLD" = a3 (.int 2):=by rfl
theorem gA:G "ANSWERS" = a3 (.tup [.int 0,.int 1]):=by rfl
theorem gT:G "TELLINGS" = a3 (.tup [.int 0,.int 1,.int 2]):=by rfl
theorem Zi{b:Int}:∀{m i:Nat}{z:Int},i<m->(j6 b m z)[i]?=a3 (z/b^(m-1-i)%b)
 |m+1,0,z,_=>by rw[j6,List.getElem?_cons_zero];simp
 |m+1,i+1,z,h=>by rw[j6,dO,Zi nofun];congr 3;congr 1;omega
theorem j1v {fu n m:Nat} {z b:Int} (hm:m<=6) (hb:b=2\/b=3) (hz:0<=z/\z<b^m):evP fu G T (n+1) "number_of" [.tup ((j6 b m z).map .int),.int b]=.val (.int z):=by
 rw[jt (F:=Yp) (by rfl) rfl];simp only[Yp,Zv,enter];ext;have z0:z/b^m=0:=cM hz.1 hz.2;refine W0 (λi ρ=>∃s3,ρ=[.val (.tup ((j6 b m z).map .int)),.val (.int b),.val (.int (z/b^(m-i))),s3]) ⟨.un,by rw[l0,z0]⟩ ?_ ?_
 .rintro i d ρ hi ⟨s3,rfl⟩;obtain⟨v,hv,rfl⟩:=Oz hi;have hlt:i<m:=by have:=(X8.mp hv).1;rw[jf]at this;exact this
  rw[Zi hlt]at hv;cases hv;simp only[Qe];ext;refine⟨_,rfl,?_⟩;have e1:m-i=(m-1-i)+1:=by omega
  have e2:m-(i+1)=m-1-i:=by omega
  have e3:z/b^(m-i)*b+z/b^(m-1-i)%b=z/b^(m-(i+1)):=by rw[e1,e2,<-j10 z b nofun,l6];exact Int.mul_ediv_add_emod _ _
  rw[e3];exact⟨_,rfl⟩
 .rintro ρ' ⟨s3,rfl⟩;ext;simp[jf]
theorem j55 {n m:Nat} {z:Int} (h:1<=m/\m<=6) (hz:0<=z/\z<2^m):evP 1000 G T (n+2) "row_number" [ji (j6 2 m z)]=.val (.int z):=by
 rw[jt (F:=Vw) (by rfl) rfl];simp only[Vw,Z9,enter];ext;simp only[gA];ext;have e:evP 1000 G T (n+1) "number_of" [ji (j6 2 m z),.int 2]=.val (.int z):=j1v h.2 (.inl rfl) hz;have e2:(((0+1+1:Nat):Int))=2:=rfl
 first|rw[e]|(rw[e2,e])
 ext
noncomputable def qD(ws:List aj)(a:List Int):D:=.tup [.tup (ws.map D.str),.tup (a.map D.int)]
theorem j44{p:List Int}{k:Nat}(h:k<p.length):atI (p.map D.int) (k:Int)=a3 (.int (p.getD k 0)):=by
 have:=Uv h
 rwa [de]at this
theorem O9 {n m k:Nat} {ws:List aj} {a:List Int} (hm:1<=m/\m<=6) (ha:a.length=2^m) (hk:k<2^m):evP 1000 G T (n+3) "answer_to" [qD ws a,ji (j6 2 m (k:Int))]=.val (.int (a.getD k 0)):=by
 rw[jt (F:=Yq) (by rfl) rfl];simp only[Yq,Zw,enter,qD];have pc:((2^m:Nat):Int)=(2:Int)^m:=by simp
 have i1:atI [D.tup (ws.map D.str),.tup (a.map D.int)] 1=a3 (.tup (a.map D.int)):=rfl;ext;erw[i1,j55 (n:=n) hm nofun,j44 nofun]
theorem jho{l:List D}{k:Nat}(h:k<=l.length):cutD l a7 (a3 (k:Int))=l.take k:=by unfold cutD;rw[HT.sIx_none,HT.sIx_nat,eP,l0,k6 h]
theorem jhn{l:List D}{k:Nat}(h:k<=l.length):cutD l (a3 (k:Int)) a7=l.drop k:=by unfold cutD;rw[HT.sIx_none,HT.sIx_nat,k6 h,Te (by rw[Tn];omega)]
noncomputable def inL(p:List Int)(m:Nat):List Nat:=(ax (2^m)).filter λ(k:Nat)=>fits p (j6 2 m (k:Int))
noncomputable def cnt(a p:List Int)(m:Nat)(v:Int):Nat:=(inL p m).countP λ(k:Nat)=>a.getD k 0==v
theorem W6{p:List Int}{m:Nat}(hp:p.length=m)(hp3:∀t∈p,0<=t/\t<3):qp (p.map Ze)=(inL p m).map λ(k:Nat)=>j6 2 m (k:Int):=by rw[Q6,<-R9 hp3,hp,<-Oi,jU];rfl
theorem jdc{p:List Int}{m:Nat}(hp:p.length=m)(hp3:∀t∈p,0<=t/\t<3):1<=(inL p m).length/\(inL p m).length<=2^m:=by
 have h1:=congrArg cR (W6 hp hp3);rw[Q6,Yj,xg]at h1;constructor
 .rw[<-h1];exact Nat.one_le_two_pow
 .unfold inL;exact Xj (Th _ _) (by rw[Pa];exact xx _)
theorem j39{a:List Int}(h01:∀x∈a,x=0\/x=1):∀L:List Nat,(L.countP λ(k:Nat)=>a.getD k 0==0)+(L.countP λ(k:Nat)=>a.getD k 0==1)=L.length
 |[]=>rfl
 |k::L=>by
  have ih:=j39 h01 L;rw[Xq,Xq,X3]
  try dsimp only
  rcases Fp h01 k with e|e
  .rw[e,if_pos (by decide),if_neg (by decide)];omega
  .rw[e,if_neg (by decide),if_pos (by decide)];omega
theorem j16 {n m:Nat} {ws:List aj} {a p:List Int} (hm:1<=m/\m<=6) (ha:a.length=2^m) (hp:p.length=m) (hp3:∀t∈p,0<=t/\t<3):evP 1000 G T (n+4) "counted_in" [qD ws a,ji p]=.val (.tup [.int (cnt a p m 0),.int (cnt a p m 1)]):=by
 rw[jt (F:=Vx) (by rfl) rfl];simp only[Vx,Za,enter];have ri:evP 1000 G T (n+3) "rows_in" [ji p]=.fresh (jn (qp (p.map Ze))):=j1s (n:=n+1) jdd W8 gN gA nofun
 have as1:∀k:Nat,k<2^m->evP 1000 G T (n+3) "answer_to" [qD ws a,ji (j6 2 m (k:Int))]=.val (.int (a.getD k 0)):=λk hk=>O9 hm ha hk;have l:=jdc hp hp3;have p2:=j3r hm.2;have pc:((2^m:Nat):Int)=(2:Int)^m:=by simp
 have cn:∀v:Int,(((inL p m).map λ(k:Nat)=>D.int (a.getD k 0)).countP λe=>deq e (.int v))=cnt a p m v:=λv=>by rw[jW];rfl
 have dp:D.depL ((inL p m).map λ(k:Nat)=>D.int (a.getD k 0))<=90:=by
  have:=D.depL_of (ds:=(inL p m).map λ(k:Nat)=>D.int (a.getD k 0)) (n:=0) λd hd=>by obtain⟨x,_,rfl⟩:=xr.mp hd;simp[D.dep]
  omega
 ext;rw[ri,W6 hp hp3];ext;rw[jw (l:=(inL p m).map λ(k:Nat)=>D.int (a.getD k 0)) (by rfl) (by simp only[jn,xg];omega) ?_ (.inl rfl)];rotate_left
 .rw[jn,Xe];refine qb λk hk'=>z9 (by ext) ?_;have hk:=X5.mp (Xh.mp hk').1;ext;rw[dj,as1 k hk];ext
 ext;rw[j38 dp (by simp[D.dep]),j38 dp (by simp[D.dep]),cn,cn];ext
theorem Ez {n m:Nat} {ws:List aj} {a p:List Int} (hm:1<=m/\m<=6) (ha:a.length=2^m) (hp:p.length=m) (hp3:∀t∈p,0<=t/\t<3):evP 1000 G T (n+5) "settled_by" [qD ws a,ji p]=.val (if cnt a p m 1=0 then .int 0 else if cnt a p m 0=0 then .int 1 else .non):=by
 rw[jt (F:=Vv) (by rfl) rfl];simp only[Vv,Z8,enter];have i0:∀x y:D,atI [x,y] 0=a3 x:=λ_ _=>rfl;have i1:∀x y:D,atI [x,y] 1=a3 y:=λ_ _=>rfl;have c:=j16 (n:=n) (ws:=ws) hm ha hp hp3;ext;rw[c];ext;rw[i1];by_cases h1:cnt a p m 1=0
 .ext;rw[if_pos h1]
 .rw[if_neg h1];ext;rw[i0];by_cases h0:cnt a p m 0=0
  .ext;rw[if_pos h0]
  .ext;rw[if_neg h0]
noncomputable def j01(c0 c1:Nat):D:=if c1=0 then .int 0 else if c0=0 then .int 1 else .non
theorem Lr {n m:Nat} {ws:List aj} {a p:List Int} (hm:1<=m/\m<=6) (ha:a.length=2^m) (hp:p.length=m) (hp3:∀t∈p,0<=t/\t<3):evP 1000 G T (n+5) "settled_by" [.tup [.tup (ws.map D.str),.tup (a.map D.int)],ji p]=.val (j01 (cnt a p m 0) (cnt a p m 1)):=Ez hm ha hp hp3
noncomputable def Z6(m:Nat):List (List Int):=(ax (3^m)).map λn=>j6 3 m ((n:Nat):Int)
theorem O2(m:Nat):Z6 (m+1)=(Z6 m).map (0 :: ·)++(Z6 m).map (1 :: ·)++(Z6 m).map (2 :: ·):=by
 have e:3^(m+1)=3^m+3^m+3^m:=by rw[Tv];omega
 have pc:((3^m:Nat):Int)=(3:Int)^m:=by simp
 have hp:(3:Int)^m≠0:=ib (bY (by decide));have key:∀(c n:Nat),c<3->n<3^m->j6 3 (m+1) (((n:Nat):Int)+3^m*(c:Int))=(c:Int)::j6 3 m (n:Int):=λc n hc hn=>by
  rw[j6,Bd (by decide) _ _ (xx m)];congr 1;have h0:(n:Int)/3^m=0:=cM nofun (by rw[<-pc];omega)
  rw[eL _ _ hp,h0,de];omega
 unfold Z6;rw[e,gh,gh,Pq,Pq,Xe,Xe,Xe,Xe,Xe];congr 1
 .congr 1
  .apply Pu;intro n hn;have:=key 0 n (by decide) (X5.mp hn);simpa using this
  .apply Pu;intro n hn;have:=key 1 n (by decide) (X5.mp hn);show j6 3 (m+1) ((3^m+n:Nat):Int)=1::j6 3 m (n:Int);rw[show((3^m+n:Nat):Int)=(n:Int)+3^m*((1:Nat):Int)by rw[eG,pc];omega,this];rfl
 .apply Pu;intro n hn;have:=key 2 n (by decide) (X5.mp hn);show j6 3 (m+1) ((3^m+3^m+n:Nat):Int)=2::j6 3 m (n:Int);rw[show((3^m+3^m+n:Nat):Int)=(n:Int)+3^m*((2:Nat):Int)by rw[eG,eG,pc];omega,this];rfl
theorem jln{m:Nat}(h:m<=6):1<=3^m/\3^m<=729:=by
 have:m=0\/m=1\/m=2\/m=3\/m=4\/m=5\/m=6:=by omega
 rcases this with e|e|e|e|e|e|e<;>subst e<;>decide
theorem K7:∀{m:Nat}{p:List Int},p.length=m->(∀t∈p,0<=t/\t<3)->p∈Z6 m
 |0,p,h,_=>by have:p=[]:=List.length_eq_zero_iff.mp h;subst this;decide
 |m+1,[],h,_=>by cases h
 |m+1,t::p,h,h3=>by
  have ih:=K7 (m:=m) (p:=p) (by simpa using h) λx hx=>h3 x (xf _ hx);have ht:=h3 t (xq ..);rw[O2];have:t=0\/t=1\/t=2:=by omega
  rcases this with e|e|e<;>subst e
  .exact Xv _ (Xv _ (xr.mpr ⟨p,ih,rfl⟩))
  .exact Xv _ (Xb _ (xr.mpr ⟨p,ih,rfl⟩))
  .exact Xb _ (xr.mpr ⟨p,ih,rfl⟩)
theorem Yn:∀{m:Nat}{p:List Int},p∈Z6 m->p.length=m/\∀t∈p,0<=t/\t<3
 |0,p,h=>by
  have:p=[]:=by simpa [Z6,j6]using h
  subst this;exact⟨rfl,λt ht=>nomatch ht⟩
 |m+1,p,h=>by
  rw[O2]at h;have key:∀(c:Int),0<=c/\c<3->p∈(Z6 m).map (c :: ·)->p.length=m+1/\∀t∈p,0<=t/\t<3:=λc hc h=>by
   obtain⟨q,hq,rfl⟩:=xr.mp h;obtain⟨h1,h2⟩:=Yn hq;refine⟨by simp[h1],λt ht=>?_⟩;rcases xn.mp ht with e|ht
   .rw[e];exact hc
   .exact h2 t ht
  rcases Xy.mp h with h|h
  .rcases Xy.mp h with h|h
   .exact key 0 (by decide) h
   .exact key 1 (by decide) h
  .exact key 2 (by decide) h
theorem Kc(p:List Int):Qg (p.map D.int)=(ax p.length).map λ(s:Nat)=>D.tup [.int (s:Int),.int (p.getD s 0)]:=by
 refine sy λi=>?_;rw[Kd,X6,X6];by_cases h:i<p.length
 .rw[T3 h,kh h];simp[h]
 .rw[Pj nofun,Pj (by simp;omega)];rfl
noncomputable def stD(a p:List Int)(m:Nat):D:=j01 (cnt a p m 0) (cnt a p m 1)
theorem j8c(c:Int):∃most:Nat,(most=4\/most=5)/\atI [D.int 4,.int 4,.int 4,.int 4,.int 4,.int 4,.int 4,.int 5] (c%8)=a3 (.int (most:Int)):=by
 have h1:=Tw c (show(8:Int)≠0 by decide);have h2:=dq c (show(0:Int)<8 by decide);have:c%8=0\/c%8=1\/c%8=2\/c%8=3\/c%8=4\/c%8=5\/c%8=6\/c%8=7:=by omega
 rcases this with e|e|e|e|e|e|e|e<;>rw[e]
 .exact⟨4,.inl rfl,rfl⟩
 .exact⟨4,.inl rfl,rfl⟩
 .exact⟨4,.inl rfl,rfl⟩
 .exact⟨4,.inl rfl,rfl⟩
 .exact⟨4,.inl rfl,rfl⟩
 .exact⟨4,.inl rfl,rfl⟩
 .exact⟨4,.inl rfl,rfl⟩
 .exact⟨5,.inr rfl,rfl⟩
theorem Lj {n s:Nat} {p:List Int} {v:Int} (hl:p.length<=6) (hs:s<p.length) (h2:p.getD s 0=2):evP 1000 G T (n+1) "told_further" [ji p,.int s,.int v]=.val (ji (p.set s v)):=by
 rw[jt (F:=Zo) (by rfl) rfl];simp only[Zo,Qh,enter];have gi:=j44 hs;rw[h2]at gi;have lp:(p.map D.int).length=p.length:=xg ..;have w1:¬(HT.sIx (p.map D.int).length 0 a7=0/\HT.sIx (p.map D.int).length (p.map D.int).length (a3 (s:Int))=(p.map D.int).length):=by rw[HT.sIx_nat,lp];omega
 have e1:(s:Int)+1=((s+1:Nat):Int):=by omega
 have w2:¬(HT.sIx (p.map D.int).length 0 (a3 ((s+1:Nat):Int))=0/\HT.sIx (p.map D.int).length (p.map D.int).length a7=(p.map D.int).length):=by rw[HT.sIx_nat,lp];omega
 ext;rw[gi];ext;simp only[gN];ext;rw[j4x w1,e1,j4x w2,jho nofun,jhn nofun];ext;rw[ji,fB,if_pos hs];simp
theorem j0t:∀{p r:List Int}{s:Nat}{x:Int},p.length=r.length->s<p.length->p.getD s 0=2->x≠2->fits (p.set s x) r=(fits p r&&decide (x=r.getD s 0))
 |[],_,s,x,_,hs,_,_=>by simp at hs
 |_::_,[],_,_,h,_,_,_=>by simp at h
 |t::ts,y::ys,0,x,h,_,h2,hx=>by
  have:t=2:=by simpa using h2
  subst this;simp only[T8,fits,cY];by_cases e:x=y
  .subst e;simp[hx]
  .simp[hx,e]
 |t::ts,y::ys,s+1,x,h,hs,h2,hx=>by have ih:=j0t (p:=ts) (r:=ys) (s:=s) (x:=x) (by simpa using h) (by simpa using hs) (by simpa using h2) hx;simp only[t7,fits,eY,ih,Bool.and_assoc]
theorem jdw{a p:List Int}{m:Nat}(h01:∀x∈a,x=0\/x=1)(hp:p.length=m)(hp3:∀t∈p,0<=t/\t<3):cnt a p m 0+cnt a p m 1=2^(p.countP λt=>t==2):=by have h:=j39 h01 (inL p m);have h1:=congrArg cR (W6 hp hp3);rw[Q6,Yj,xg]at h1;unfold cnt;omega
theorem Lx:∀{p:List Int},(p.countP λt=>t==2)=0->zg (p.map Ze)=[p]
 |[],_=>rfl
 |t::ts,h=>by
  rw[Xq]at h;have h1:(ts.countP λt=>t==2)=0:=by omega
  have h2:t≠2:=λz=>by subst z;simp at h
  rw[Xa,zg,Lx h1];simp[Ze,h2]
theorem Ek{p:List Int}{m:Nat}(hp:p.length=m)(hp3:∀t∈p,0<=t/\t<3)(h0:(p.countP λt=>t==2)=0):∃k:Nat,k<2^m/\p=j6 2 m (k:Int)/\inL p m=[k]:=by
 have h:=W6 hp hp3;rw[Q6,Lx h0]at h;cases e:inL p m with
 |nil=>rw[e]at h;cases h
 |cons k r =>
  rw[e]at h;cases r with
  |cons j r=>simp at h
  |nil =>
   simp only[Xa,d4,List.cons.injEq,and_true]at h;have hk:k∈inL p m:=by rw[e];exact xq ..
   exact⟨k,X5.mp (Xh.mp hk).1,h,rfl⟩
theorem j6s{p:List Int}{s:Nat}{v:Int}(hs:s<p.length)(h2:p.getD s 0=2)(hv:v=0\/v=1):((p.set s v).countP λt=>t==2)+1=p.countP λt=>t==2:=by
 have g:p[s]=2:=by rw[kj,kh hs]at h2;exact h2
 have e:p=p.take s++2::p.drop (s+1):=by have:=i9 s p;rw[cg hs,g]at this;exact this.symm
 rw[fB,if_pos hs]
 conv=>rhs;rw[e]
 rw[iM,iM,Xq,Xq];have hv2:(v==2)=a4:=by rcases hv with h|h<;>subst h<;>rfl
 simp[hv2]
 try omega
noncomputable def ql(p:List Int)(m:Nat):List Nat:=(ax m).filter λ(k:Nat)=>decide (p.getD k 0=2)
theorem Oq:∀(p:List Int),(ql p p.length).length=p.countP λt=>t==2:=by
 intro p;unfold ql;rw[<-Tq];have:∀(p:List Int),(ax p.length).countP (λ(k:Nat)=>decide (p.getD k 0=2))=p.countP λt=>t==2:=by
  intro p;induction p with
  |nil=>rfl
  |cons t ts ih =>
   rw[X3,Td,Xq,jW,Xq,<-ih];congr 1
   try simp only[cY]
   try (by_cases h:t=2<;>simp[h])
 exact this p
noncomputable def Q0(t:Int):List Int:=if t=2 then[0,1,2] else[t]
theorem j09 {n:Nat} {p:List Int} (hp:p.length<=6):evP 1000 G T (n+2) "parts_in" [ji p]=.fresh (jn (qp (p.map Q0))):=by
 rw[jt (F:=Ug) (by rfl) rfl];simp only[Ug,Vk,enter];ext;rw[jw (l:=jn (p.map Q0)) (by rfl) ?_ ?_ (.inl rfl)]
 .ext;rw[Zu W8 (λf hf=>by obtain⟨t,_,rfl⟩:=xr.mp hf;unfold Q0;split<;>simp) (by rw[xg];exact hp)];ext
 .rw[xg];omega
 .rw[jn,Xe];refine qb λt _=>z9 (by ext) ?_;by_cases h:t=2
  .ext;simp only[gN];ext;simp only[gT];ext;simp[Q0,h]
  .ext;simp only[gN];ext;simp[Q0,h]
theorem W3:∀l:List Int,Ja (l.map D.int)=a6
 |[]=>rfl
 |_::l=>by rw[Xa,Ja,W3 l];rfl
theorem Ot(ks:List (List Int))(ns:List Int):noFn (.dct ks (ns.map D.int))=a6:=by rw[noFn,W3]
theorem j0e(l:List Int):noFn (.tup (l.map D.int))=a6:=by rw[noFn,W3]
theorem at0(a b:D):atI [a,b] 0=a3 a:=rfl
theorem at1(a b:D):atI [a,b] 1=a3 b:=rfl
noncomputable def qg:List Int->Int
 |[]=>0
 |d::ds=>d*3^ds.length+qg ds
theorem Y9:∀{p:List Int},(∀t∈p,0<=t/\t<3)->0<=qg p/\qg p<3^p.length
 |[],_=>⟨by decide,by decide⟩
 |d::ds,h=>by
  obtain⟨h1,h2⟩:=Y9 (p:=ds) λt ht=>h t (xf _ ht);have hd:=h d xq;have hp:(0:Int)<3^ds.length:=bY (by decide);rw[qg,X3,ia];have:d=0\/d=1\/d=2:=by omega
  rcases this with e|e|e<;>subst e<;>exact⟨by omega,by omega⟩
theorem j28:∀{p:List Int}{s:Nat}{c:Int},s<p.length->qg (p.set s c)=qg p+(c-p.getD s 0)*3^(p.length-1-s)
 |d::ds,0,c,_=>by rw[T8,qg,qg,X3,cY,show ds.length+1-1-0=ds.length by omega,Int.sub_mul];omega
 |d::ds,s+1,c,h=>by have:=j28 (p:=ds) (s:=s) (c:=c) (by simpa using h);rw[t7,qg,qg,Ph,X3,eY,this,show ds.length+1-1-(s+1)=ds.length-1-s by omega];omega
noncomputable def opB(a:List Int)(m:Nat)(p:List Int):Bool:=(stD a p m).isNon
theorem Dm{a p:List Int}{m:Nat}(h01:∀x∈a,x=0\/x=1)(hp:p.length=m)(hp3:∀t∈p,0<=t/\t<3)(h:opB a m p=a6):ql p m≠[]:=λe=>by
 subst hp;have o:=Oq p;rw[e]at o;have c:=jdw (a:=a) h01 rfl hp3;rw[<-o]at c;unfold opB stD j01 at h;have c:cnt a p p.length 0+cnt a p p.length 1=1:=c;split at h
 .cases h
 .split at h
  .cases h
  .omega
noncomputable def PK(p:List Int):List (List Int):=zg (p.map Q0)
theorem V3{t:Int}{p q:List Int}:q∈PK (t::p) ↔ ∃x∈Q0 t,∃r∈PK p,q=x::r:=by
 unfold PK;rw[Xa,zg,jF];constructor
 .rintro⟨x,hx,h⟩;obtain⟨r,hr,e⟩:=xr.mp h;exact⟨x,hx,r,hr,e.symm⟩
 .rintro⟨x,hx,r,hr,e⟩;exact⟨x,hx,xr.mpr ⟨r,hr,e.symm⟩⟩
theorem j2z{t x:Int}(h:x∈Q0 t):(t=2/\(x=0\/x=1\/x=2))\/(t≠2/\x=t):=by
 unfold Q0 at h;split at h
 .rename_i e;simp only[xn,dN,or_false]at h;exact .inl ⟨e,h⟩
 .rename_i e;exact .inr ⟨e,xj.mp h⟩
theorem j3t:∀{p q:List Int},(∀t∈p,0<=t/\t<3)->q∈PK p->q.length=p.length/\∀t∈q,0<=t/\t<3
 |[],q,_,h=>by have e:q=[]:=xj.mp h;rw[e];exact⟨rfl,λt ht=>nomatch ht⟩
 |t::p,q,h3,h=>by
  obtain⟨x,hx,r,hr,e⟩:=V3.mp h;obtain⟨h1,h2⟩:=j3t (λt ht=>h3 t (xf _ ht)) hr;have ht:=h3 t xq;subst e;refine⟨by rw[X3,X3,h1],λy hy=>?_⟩;rcases xn.mp hy with q|q
  .subst q;rcases j2z hx with ⟨_,z⟩|⟨_,z⟩<;>omega
  .exact h2 y q
theorem j5e:∀{p q:List Int}{s:Nat}{c:Int},q∈PK p->q.getD s 0=2->(c=0\/c=1)->q.set s c∈PK p
 |[],q,s,c,h,h2,_=>by have e:q=[]:=xj.mp h;rw[e]at h2;simp at h2
 |t::p,q,s,c,h,h2,hc=>by
  obtain⟨x,hx,r,hr,e⟩:=V3.mp h;subst e;cases s with
  |zero =>
   rw[cY]at h2;rw[T8];refine V3.mpr ⟨c,?_,r,hr,rfl⟩;rcases j2z hx with ⟨z,_⟩|⟨z,z2⟩
   .rw[z];unfold Q0;rw[if_pos rfl];rcases hc with q|q<;>rw[q]<;>simp
   .exact absurd (z2▸h2) z
  |succ s =>rw[eY]at h2;rw[t7];exact V3.mpr ⟨x,hx,_,j5e hr h2 hc,rfl⟩
theorem Ww:∀{p:List Int},(∀t∈p,0<=t/\t<3)->(PK p).Pairwise λx y=>qg x<qg y
 |[],_=>List.pairwise_singleton _ _
 |t::p,h3=>by
  have h3':∀t∈p,0<=t/\t<3:=λt ht=>h3 t (xf _ ht);have ih:=Ww h3';have bd:∀r∈PK p,0<=qg r/\qg r<3^p.length/\r.length=p.length:=λr hr=>by obtain⟨h1,h2⟩:=j3t h3' hr;obtain⟨b1,b2⟩:=Y9 h2;rw[h1]at b2;exact⟨b1,b2,h1⟩
  have one:∀c:Int,((PK p).map (c :: ·)).Pairwise λx y=>qg x<qg y:=λc=>by rw[fG];refine ih.imp_of_mem λ{x y} hx hy h=>?_;rw[qg,qg,(bd x hx).2.2,(bd y hy).2.2];omega
  have two:∀{c d:Int},c<d->∀x∈(PK p).map (c :: ·),∀y∈(PK p).map (d :: ·),qg x<qg y:=λ{c d} hcd x hx y hy=>by
   obtain⟨r,hr,rfl⟩:=xr.mp hx;obtain⟨r',hr',rfl⟩:=xr.mp hy;obtain⟨b1,b2,b3⟩:=bd r hr;obtain⟨d1,d2,d3⟩:=bd r' hr';show c*3^r.length+qg r<d*3^r'.length+qg r';rw[b3,d3];have:c*3^p.length+3^p.length<=d*3^p.length:=by have h:=fU (show c+1<=d by omega) (show(0:Int)<=3^p.length by exact ic (bY (by decide)));rw[lO,dG]at h;exact h
   omega
  by_cases e:t=2
  .have ek:PK (t::p)=(PK p).map (0 :: ·)++((PK p).map (1 :: ·)++(PK p).map (2 :: ·)):=by unfold PK;rw[Xa,zg,e];simp[Q0]
   rw[ek];refine List.pairwise_append.mpr ⟨one 0,List.pairwise_append.mpr ⟨one 1,one 2,two (by decide)⟩,λx hx y hy=>?_⟩;rcases Xy.mp hy with q|q
   .exact two (by decide) x hx y q
   .exact two (by decide) x hx y q
  .have ek:PK (t::p)=(PK p).map (t :: ·):=by unfold PK;rw[Xa,zg];simp[Q0,e]
   rw[ek];exact one t
theorem j84{p:List Int}(h3:∀t∈p,0<=t/\t<3):(PK p).Nodup:=(Ww h3).imp λh e=>by rw[e]at h;omega
theorem j85{p r:List Int}{i:Nat}(h3:∀t∈p,0<=t/\t<3)(hi:i<(PK p).length)(hr:r∈PK p)(hv:qg r<qg (PK p)[i]):r∈(PK p).take i:=by
 obtain⟨j,hj,rfl⟩:=Xw.mp hr;have hs:=List.pairwise_iff_getElem.mp (Ww h3);have:j<i:=by
  rcases i8 j i with q|q
  .exact q
  .rcases Nat.eq_or_lt_of_le q with q|q
   .subst q;omega
   .have:=hs i j hi hj q;omega
 exact Xw.mpr ⟨j,by rw[P0];omega,List.getElem_take⟩
theorem j11{f:List Int->D}:∀{ks:List (List Int)} {q:List Int},q∈ks->J6 ks (ks.map f) q=a3 (f q)
 |k::ks,q,h=>by
  rw[Xa,J6];by_cases e:k=q
  .rw[if_pos e,e]
  .rw[if_neg e];exact j11 ((xn.mp h).resolve_left λz=>e z.symm)
theorem j5g:∀{p:List Int},(PK p).length<=3^p.length
 |[]=>xx _
 |t::p=>by
  have ih:=j5g (p:=p);by_cases e:t=2
  .have ek:PK (t::p)=(PK p).map (0 :: ·)++((PK p).map (1 :: ·)++(PK p).map (2 :: ·)):=by unfold PK;rw[Xa,zg,e];simp[Q0]
   rw[ek,Xf,Xf,xg,xg,xg,X3,Tv];omega
  .have ek:PK (t::p)=(PK p).map (t :: ·):=by unfold PK;rw[Xa,zg];simp[Q0,e]
   rw[ek,xg,X3,Tv];omega
theorem j5t{f1 f2:En->Option D}{A B C:D}{L:List (List Int)}{W:List Int->Int}{op:List Int->Bool}(hm:L.length<=1000000)(nd:L.Nodup)
  (h1:∀(q:List Int)(s5:Sv),q∈L->f1 [.val A,.val B,.val C,.un,.val (.tup (q.map D.int)),s5]=a3 (.bl (!op q)))
  (h2:∀(i:Nat)(hi:i<L.length),f2 [.val A,.val B,.val C,.val (.dct (L.take i) (((L.take i).map W).map D.int)),.val (.tup (L[i].map D.int)),.val (.bl (!op L[i]))]=a3 (.int (W L[i]))) :
  ∀(r i:Nat)(s4 s5:Sv),i+r=L.length->Vh f1 f2 3 4 5 (jn (L.drop i)) [.val A,.val B,.val C,.un,s4,s5] (L.take i) ((L.take i).map W)=a3 (L,L.map W):=by
 intro r;induction r with
 |zero =>intro i s4 s5 e;rw[Nat.add_zero]at e;rw[List.drop_of_length_le nofun,Te nofun];rfl
 |succ r ih =>
  intro i s4 s5 e;have hi:i<L.length:=by omega
  have ed:L.drop i=L[i]::L.drop (i+1):=cg hi;have et:L.take (i+1)=L.take i++[L[i]]:=by rw[S7,kh hi];rfl
  have nc:(L.take i).contains L[i]=a4:=by
   have nd:=nd;rw[<-i9 i L,ed]at nd;have:=(List.nodup_append.mp nd).2.2;cases z:(L.take i).contains L[i] with
   |false=>rfl
   |true=>exact absurd rfl (this _ (by simpa using z) _ xq)
  have ll:(L.take i).length<ar:=lt_size (by rw[P0];omega);have g:=ih (i+1) (.val (.tup (L[i].map D.int))) (.val (.bl (!op L[i]))) nofun
  rw[et,Pq,Xa,d4]at g;rw[ed,jn,Xa,<-jn,Vh];simp only[ji,Je,T8,t7,h1 _ _ (Xm hi),h2 i hi];rw[if_pos ⟨nc,ll⟩];exact g
theorem j1i {n m:Nat} {ws:List aj} {a:List Int} (hm:1<=m/\m<=6) (hw:ws.length=m):evP 1000 G T (n+1) "all_open" [qD ws a]=.val (ji (ae m 2)):=by
 rw[jt (F:=Uh) (by rfl) rfl];simp only[Uh,Vl,enter,qD];ext;simp only[gN];ext;rw[at0];ext;rw[hw]
 first|rfl|simp[ji]
noncomputable def rsS(k:Nat)(c:List (List Nat))(s:Nat):List (List Nat):=c++(c.filter λS=>decide (S.length<k)).map (· ++ [s])
noncomputable def rsC(k:Nat)(os:List Nat):List (List Nat):=os.foldl (rsS k) [[]]
noncomputable def rsL(k:Nat)(os:List Nat):List (List Nat):=(rsC k os).drop 1
theorem jf2{k s:Nat}{c:List (List Nat)}{S:List Nat}(h:S∈rsS k c s):S∈c\/∃R∈c,R.length<k/\S=R++[s]:=by
 rcases Xy.mp h with h|h
 .exact .inl h
 .obtain⟨R,hR,e⟩:=xr.mp h;obtain⟨h1,h2⟩:=Xh.mp hR;exact .inr ⟨R,h1,of_decide_eq_true h2,e.symm⟩
theorem j2e{k:Nat}:∀{os:List Nat}{c:List (List Nat)},(∃r,c=[]::r/\∀S∈r,S≠[])->∃r,os.foldl (rsS k) c=[]::r/\∀S∈r,S≠[]
 |[],c,h=>h
 |s::os,c,⟨r,e,h⟩=>by
  refine j2e (os:=os) (c:=rsS k c s) ⟨r++(c.filter λS=>decide (S.length<k)).map (· ++ [s]),by rw[e];rfl,λS hS=>?_⟩;rcases Xy.mp hS with q|q
  .exact h S q
  .obtain⟨R,_,e⟩:=xr.mp q;rw[<-e];simp
theorem j53{k:Nat}:∀{os pre:List Nat}{c:List (List Nat)},(∀S∈c,S.Sublist pre/\S.length<=k)->∀S∈os.foldl (rsS k) c,S.Sublist (pre++os)/\S.length<=k
 |[],pre,c,h,S,hS=>by rw[Xu];exact h S hS
 |s::os,pre,c,h,S,hS=>by
  have:=j53 (os:=os) (pre:=pre++[s]) (c:=rsS k c s) (λR hR=>by
   rcases jf2 hR with q|⟨R',h1,h2,e⟩
   .exact⟨(h R q).1.trans (List.sublist_append_left ..),(h R q).2⟩
   .rw[e];exact⟨(h R' h1).1.append (cU _),by rw[Xf];exact h2⟩) S hS
  rwa [tu]at this
theorem Oh{k:Nat}{os:List Nat}:rsC k os=[]::rsL k os/\∀S∈rsL k os,S≠[]:=by obtain⟨r,e,h⟩:=j2e (k:=k) (os:=os) (c:=[[]]) ⟨[],rfl,λS hS=>nomatch hS⟩;have e':rsC k os=[]::r:=e;unfold rsL;rw[e'];exact⟨rfl,h⟩
theorem jf4{k:Nat}{os S:List Nat}(h:S∈rsC k os):S.Sublist os/\S.length<=k :=
 j53 (k:=k) (os:=os) (pre:=[]) (c:=[[]]) (λS hS=>by rw[xj.mp hS];exact⟨cU _,Ti _⟩) S h
theorem Bx{k:Nat}{os S:List Nat}(h:S∈rsL k os):S.Sublist os/\S.length<=k/\S≠[]:=by obtain⟨e,h2⟩:=Oh (k:=k) (os:=os);have:=jf4 (show S∈rsC k os by rw[e];exact xf _ h);exact⟨this.1,this.2,h2 S h⟩
theorem jf3{k:Nat}{os:List Nat}(hk:1<=k)(ho:os≠[]):rsL k os≠[]:=λz=>by
 obtain⟨e,_⟩:=Oh (k:=k) (os:=os);have grow:∀{os:List Nat}{c:List (List Nat)},c.length<=(os.foldl (rsS k) c).length:=λ{os}=>by
  induction os with
  |nil=>intro c;exact xx _
  |cons s os ih=>intro c;exact Xj (by unfold rsS;rw[Xf];omega) (ih (c:=rsS k c s))
 cases os with
 |nil=>exact ho rfl
 |cons s os =>
  have h:=grow (os:=os) (c:=rsS k [[]] s);have l:(rsS k [[]] s).length=2:=by simp[rsS,show 0<k from hk]
  have h':2<=(rsC k (s::os)).length:=by rw[<-l];exact h
  rw[e,z]at h';simp at h'
noncomputable def seF(qs:List (List Int))(s:Nat):List (List Int):=qs.map (·.set s 0)++qs.map (·.set s 1)
noncomputable def seL(p:List Int)(S:List Nat):List (List Int):=S.foldl seF [p]
def Beh(p:List Int)(S:List Nat)(q:List Int):Prop:=q.length=p.length/\∀j,j<p.length->(j∈S->q.getD j 0=0\/q.getD j 0=1)/\(j∉S->q.getD j 0=p.getD j 0)
theorem V5{p:List Int}{s j:Nat}{c:Int}(hs:s<p.length):(p.set s c).getD j 0=if s=j then c else p.getD j 0:=by
 rw[kj,cL];by_cases e:s=j
 .rw[if_pos e,if_pos e,if_pos hs];rfl
 .rw[if_neg e,if_neg e,kj]
theorem j0v{p q:List Int}(hl:q.length=p.length)(h:∀j,j<p.length->q.getD j 0=p.getD j 0):q=p:=by
 refine List.ext_getElem hl λj h1 h2=>?_;have:=h j h2
 rwa [kj,kj,kh h1,kh h2]at this
theorem j61{n:Nat}:∀{S:List Nat}{qs:List (List Int)} {q:List Int},(∀s∈S,s<n)->(∀p∈qs,p.length=n)->(q∈S.foldl seF qs ↔ ∃p∈qs,Beh p S q)
 |[],qs,q,_,hq=>by refine⟨λh=>⟨q,h,rfl,λj _=>⟨λz=>(nomatch z),λ_=>rfl⟩⟩,λ⟨p,hp,h1,h2⟩=>?_⟩;rw[j0v h1 λj hj=>(h2 j hj).2 (λz=>nomatch z)];exact hp
 |s::S,qs,q,hS,hq=>by
  have hs:=hS s xq;rw[Pz,j61 (n:=n) (S:=S) (qs:=seF qs s) (λt ht=>hS t (xf _ ht)) (λp hp=>by
   rcases Xy.mp hp with h|h<;>(obtain⟨r,hr,e⟩:=xr.mp h;rw[<-e,Ph];exact hq r hr))]
  constructor
  .rintro⟨p,hp,h1,h2⟩;have:∃r∈qs,∃c:Int,(c=0\/c=1)/\p=r.set s c:=by
    rcases Xy.mp hp with h|h<;>obtain⟨r,hr,e⟩:=xr.mp h
    .exact⟨r,hr,0,.inl rfl,e.symm⟩
    .exact⟨r,hr,1,.inr rfl,e.symm⟩
   obtain⟨r,hr,c,hc,rfl⟩:=this;rw[Ph]at h1 h2;have hl:=hq r hr;refine⟨r,hr,h1,λj hj=>⟨λhm=>?_,λhm=>?_⟩⟩
   .by_cases e:j∈S
    .exact(h2 j hj).1 e
    .have ej:j=s:=(xn.mp hm).resolve_right e;rw[(h2 j hj).2 e,V5 nofun,if_pos ej.symm];exact hc
   .rw[(h2 j hj).2 λz=>hm (xf _ z),V5 nofun,if_neg λz=>hm (by rw[z];exact xq)]
  .rintro⟨r,hr,h1,h2⟩;have hl:=hq r hr;have hc:=(h2 s nofun).1 xq;refine⟨r.set s (q.getD s 0),?_,by rw[Ph];exact h1,λj hj=>?_⟩
   .rcases hc with e|e<;>rw[e]
    .exact Xv _ (xr.mpr ⟨r,hr,rfl⟩)
    .exact Xb _ (xr.mpr ⟨r,hr,rfl⟩)
   .rw[Ph]at hj;refine⟨λhm=>(h2 j hj).1 (xf _ hm),λhm=>?_⟩;rw[V5 nofun];by_cases e:s=j
    .rw[if_pos e,e]
    .rw[if_neg e];exact(h2 j hj).2 λz=>(xn.mp z).elim (λz=>e z.symm) hm
theorem Dr{p q:List Int}{S:List Nat}(hS:∀s∈S,s<p.length):q∈seL p S↔Beh p S q:=by unfold seL;rw[j61 (n:=p.length) hS λr hr=>by rw[xj.mp hr]];exact⟨λ⟨r,hr,h⟩=>by rwa [xj.mp hr]at h,λh=>⟨p,xj.mpr rfl,h⟩⟩
theorem j4z:∀{S:List Nat}{qs:List (List Int)},qs≠[]->S.foldl seF qs≠[]
 |[],_,h=>h
 |s::S,qs,h=>j4z (S:=S) λz=>h (by unfold seF at z;exact List.map_eq_nil_iff.mp (List.append_eq_nil_iff.mp z).1)
theorem Li:∀{p q:List Int},q.length=p.length->(∀j,j<p.length->q.getD j 0<=p.getD j 0)->qg q<=qg p/\((∃j,j<p.length/\q.getD j 0<p.getD j 0)->qg q<qg p)
 |[],[],_,_=>⟨t6 _,λ⟨j,h,_⟩=>absurd h (gd _)⟩
 |[],_::_,h,_=>by cases h
 |_::_,[],h,_=>by cases h
 |x::p,y::q,hl,h=>by
  have hl':q.length=p.length:=by simpa using hl
  obtain⟨i1,i2⟩:=Li hl' λj hj=>by have:=h (j+1) (by rw[X3];omega);simpa using this
  have h0:y<=x:=by have:=h 0 (by simp);simpa using this
  have w:(0:Int)<3^p.length:=bY (by decide);have e:qg (y::q)=y*3^q.length+qg q:=rfl;have e':qg (x::p)=x*3^p.length+qg p:=rfl;rw[e,e',hl'];have hm:y*3^p.length<=x*3^p.length:=fU h0 (ic w);refine⟨by omega,λ⟨j,hj,hlt⟩=>?_⟩;cases j with
  |zero =>
   have hlt:y<x:=by simpa using hlt
   have:=Int.mul_lt_mul_of_pos_right hlt w;omega
  |succ j =>have:=i2 ⟨j,by rw[X3]at hj;omega,by simpa using hlt⟩;omega
theorem Ym{p:List Int}{m s:Nat}(h:s∈ql p m):s<m/\p.getD s 0=2:=by obtain⟨h1,h2⟩:=Xh.mp h;exact⟨X5.mp h1,of_decide_eq_true h2⟩
theorem Ms{p q:List Int}{S:List Nat}(h:Beh p S q)(hp3:∀t∈p,0<=t/\t<3):∀t∈q,0<=t/\t<3:=λt ht=>by
 obtain⟨j,hj,e⟩:=Xw.mp ht;have eq:q.getD j 0=t:=by rw[kj,kh hj,e];rfl
 have hj':j<p.length:=by rw[<-h.1];exact hj
 rw[<-eq];by_cases z:j∈S
 .have:=(h.2 j hj').1 z;omega
 .rw[(h.2 j hj').2 z];exact hp3 _ (by rw[kj,kh hj'];exact Xm hj')
theorem Cw{p q:List Int}{S:List Nat}(hne:S≠[])(hS:∀s∈S,s<p.length/\p.getD s 0=2)(h:Beh p S q):qg q<qg p:=by
 refine(Li h.1 λj hj=>?_).2 ?_
 .by_cases z:j∈S
  .have:=(h.2 j hj).1 z;have:=(hS j z).2;omega
  .rw[(h.2 j hj).2 z];exact t6 _
 .cases S with
  |nil=>exact absurd rfl hne
  |cons s S =>obtain⟨h1,h2⟩:=hS s xq;refine⟨s,h1,?_⟩;have:=(h.2 s h1).1 xq;omega
noncomputable def RpF(k:Nat)(a:List Int)(m:Nat):Nat->List Int->Int
 |0,_=>0
 |f+1,p=>if opB a m p=a6 then 1+Qz ((rsL k (ql p m)).map λS=>jg ((seL p S).map (RpF k a m f)))else 0
noncomputable def Rp(k:Nat)(a:List Int)(m:Nat)(p:List Int):Int:=RpF k a m (3^m) p
theorem Oj{k m:Nat}{p:List Int}{S:List Nat}(hp:p.length=m)(h:S∈rsL k (ql p m)):∀s∈S,s<p.length/\p.getD s 0=2:=λs hs=>by rw[hp];exact Ym ((Bx h).1.subset hs)
theorem j7i{k m:Nat}{a:List Int}:∀{f f':Nat}{p:List Int},p.length=m->(∀t∈p,0<=t/\t<3)->qg p<f->f<=f'->RpF k a m f p=RpF k a m f' p
 |0,f',p,_,h3,hv,_=>by have:=(Y9 h3).1;omega
 |f+1,0,p,_,_,_,h=>by omega
 |f+1,f'+1,p,hp,h3,hv,h=>by rw[RpF,RpF];congr 3;refine Pu λS hS=>?_;congr 1;have ok:=Oj hp hS;refine Pu λq hq=>?_;have b:=(Dr λs hs=>(ok s hs).1).mp hq;have:=Cw (Bx hS).2.2 ok b;exact j7i (by rw[b.1];exact hp) (Ms b h3) nofun nofun
theorem Vs{k m:Nat}{a p:List Int}(h:opB a m p=a4):Rp k a m p=0:=by
 unfold Rp;obtain⟨f,e⟩:∃f,3^m=f+1:=⟨3^m-1,by have:0<3^m:=lM (by decide);omega⟩
 rw[e,RpF,h];rfl
theorem Lg{k m:Nat}{a p:List Int}(hp:p.length=m)(h3:∀t∈p,0<=t/\t<3)(h:opB a m p=a6):Rp k a m p=1+Qz ((rsL k (ql p m)).map λS=>jg ((seL p S).map (Rp k a m))):=by
 obtain⟨f,e⟩:∃f,3^m=f+1:=⟨3^m-1,by have:0<3^m:=lM (by decide);omega⟩
 have hb:=(Y9 h3).2;rw[hp]at hb;have hb:qg p<((3^m:Nat):Int):=by simpa using hb
 show RpF k a m (3^m) p=_;have step:RpF k a m (3^m) p=1+Qz ((rsL k (ql p m)).map λS=>jg ((seL p S).map (RpF k a m f))):=by rw[e,RpF,if_pos h]
 rw[step];congr 2;refine Pu λS hS=>?_;congr 1;have ok:=Oj hp hS;refine Pu λq hq=>?_;have b:=(Dr λs hs=>(ok s hs).1).mp hq;have:=Cw (Bx hS).2.2 ok b;exact j7i (by rw[b.1];exact hp) (Ms b h3) nofun nofun
theorem Lb(m:Nat):∀t∈ae m (2:Int),0<=t/\t<3:=λt ht=>by rw[(Tt.mp ht).2];decide
theorem j04{k:Nat}:∀{os S R:List Nat}{c:List (List Nat)},R∈c->S.Sublist os->R.length+S.length<=k->R++S∈os.foldl (rsS k) c
 |[],S,R,c,hR,hs,_=>by rw[List.sublist_nil.mp hs,Xu];exact hR
 |s::os,S,R,c,hR,hs,hl=>by
  rw[Pz];cases hs with
  |cons _ h=>exact j04 (Xv _ hR) h hl
  |cons_cons _ h =>rename_i S';rw[X3]at hl;rw[List.append_cons];exact j04 (Xb _ (xr.mpr ⟨R,Xh.mpr ⟨hR,decide_eq_true nofun⟩,rfl⟩)) h (by rw[Xf,eF];omega)
theorem jbv{k:Nat}{os S:List Nat}(hs:S.Sublist os)(hl:S.length<=k)(hn:S≠[]):S∈rsL k os:=by have h:=j04 (k:=k) (R:=[]) (c:=[[]]) (xj.mpr rfl) hs (by simpa using hl);have h:S∈rsC k os:=h;rw[Oh.1]at h;exact(xn.mp h).resolve_left hn
theorem M9{α:Type}{L:List α}{f:α->Int}{B:Int}(hn:L≠[])(h:∀q∈L,f q<=B):jg (L.map f)<=B:=by obtain⟨q,hq,e⟩:=xr.mp (V4 (ns:=L.map f) (by simpa using hn)).1;rw[<-e];exact h q hq
theorem Dy{α:Type}{L:List α}{f:α->Int}{q:α}(h:q∈L):f q<=jg (L.map f) :=
 (V4 (ns:=L.map f) λz=>by rw[List.map_eq_nil_iff.mp z]at h;cases h).2 _ (xr.mpr ⟨q,h,rfl⟩)
theorem jbj{p:List Int}{S:List Nat}:seL p S≠[]:=j4z (by simp)
section
variable{k m:Nat}{a p:List Int}
theorem jkk:0<=Rp k a m p:=by
 have h:∀(f:Nat)(p:List Int),0<=RpF k a m f p:=λf=>by
  induction f with
  |zero=>intro p;exact t6 _
  |succ f ih =>
   intro p;rw[RpF];split
   .have:0<=Qz ((rsL k (ql p m)).map λS=>jg ((seL p S).map (RpF k a m f))):=by
     by_cases hn:rsL k (ql p m)=[]
     .rw[hn];exact t6 _
     .obtain⟨S,hS,e⟩:=xr.mp (Yo (ns:=(rsL k (ql p m)).map λS=>jg ((seL p S).map (RpF k a m f))) (by simpa using hn)).1;rw[<-e];obtain⟨q,hq⟩:=List.exists_mem_of_ne_nil _ (jbj (p:=p) (S:=S));exact l7 (ih q) (Dy hq)
    omega
   .exact t6 _
 exact h _ _
theorem jkl{S:List Nat}(hp:p.length=m)(h3:∀t∈p,0<=t/\t<3)(ho:opB a m p=a6)(hS:S∈rsL k (ql p m)):Rp k a m p<=1+jg ((seL p S).map (Rp k a m)):=by rw[Lg hp h3 ho];have:=(Yo (ns:=(rsL k (ql p m)).map λS=>jg ((seL p S).map (Rp k a m))) λz=>by rw[List.map_eq_nil_iff.mp z]at hS;cases hS).2 _ (xr.mpr ⟨S,hS,rfl⟩);omega
theorem jkm(hk:1<=k)(h01:∀x∈a,x=0\/x=1)(hp:p.length=m)(h3:∀t∈p,0<=t/\t<3)(ho:opB a m p=a6):∃S∈rsL k (ql p m),Rp k a m p=1+jg ((seL p S).map (Rp k a m)):=by have ne:=jf3 hk (Dm h01 hp h3 ho);obtain⟨S,hS,e⟩:=xr.mp (Yo (ns:=(rsL k (ql p m)).map λS=>jg ((seL p S).map (Rp k a m))) (by simpa using ne)).1;exact⟨S,hS,by rw[Lg hp h3 ho,<-e]⟩
theorem ji0{P:List Int->Prop}(h:∀p,p.length=m->(∀t∈p,0<=t/\t<3)->(∀q,q.length=m->(∀t∈q,0<=t/\t<3)->qg q<qg p->P q)->P p):∀p,p.length=m->(∀t∈p,0<=t/\t<3)->P p:=by
 have key:∀(N:Nat)(p:List Int),p.length=m->(∀t∈p,0<=t/\t<3)->qg p<N->P p:=λN=>by
  induction N with
  |zero=>intro p _ h3 hv;have:=(Y9 h3).1;omega
  |succ N ih=>intro p hp h3 hv;exact h p hp h3 λq hq q3 hl=>ih q hq q3 nofun
 intro p hp h3;exact key ((qg p).toNat+1) p hp h3 (by have:=(Y9 h3).1;omega)
theorem jj6{S:List Nat}(hp:p.length=m)(h3:∀t∈p,0<=t/\t<3)(hS:S∈rsL k (ql p m)){q:List Int}(hq:q∈seL p S):q.length=m/\(∀t∈q,0<=t/\t<3)/\qg q<qg p:=by have ok:=Oj hp hS;have b:=(Dr λs hs=>(ok s hs).1).mp hq;exact⟨by rw[b.1,hp],Ms b h3,Cw (Bx hS).2.2 ok b⟩
theorem ja6{s:Nat}(hp:p.length=m)(h3:∀t∈p,0<=t/\t<3)(ho:opB a m p=a6)(hs:s∈ql p m):Rp 1 a m p<=1+jg [Rp 1 a m (p.set s 0),Rp 1 a m (p.set s 1)] :=
 jkl hp h3 ho (jbv (List.singleton_sublist.mpr hs) (xx _) (by simp))
theorem jbg{s:Nat}{c:Int}(hc:c=0\/c=1)(h3:∀t∈p,0<=t/\t<3):∀t∈p.set s c,0<=t/\t<3:=λt ht=>by
 rcases List.mem_or_eq_of_mem_set ht with h|h
 .exact h3 t h
 .omega
theorem Kv(B:Int)(hB:0<=B):∀(S:List Nat)(p:List Int),p.length=m->(∀t∈p,0<=t/\t<3)->S.Nodup->(∀s∈S,s∈ql p m)->(∀q,Beh p S q->Rp 1 a m q<=B)->Rp 1 a m p<=(S.length:Int)+B
 |[],p,_,_,_,_,h=>by have:=h p ⟨rfl,λj _=>⟨λz=>(nomatch z),λ_=>rfl⟩⟩;simp only[T5];omega
 |s::S,p,hp,h3,hn,hS,h=>by
  cases ho:opB a m p with
  |false=>rw[Vs ho];omega
  |true =>
   obtain⟨n1,n2⟩:=Xn.mp hn;have hs:=hS s xq;obtain⟨s1,s2⟩:=Ym hs;have st:=ja6 hp h3 ho hs;have half:∀c:Int,(c=0\/c=1)->Rp 1 a m (p.set s c)<=(S.length:Int)+B:=λc hc=>by
    refine Kv B hB S (p.set s c) (by rw[Ph,hp]) (jbg hc h3) n2 (λt ht=>?_) λq hb=>h q ⟨by rw[hb.1,Ph],λj hj=>?_⟩
    .obtain⟨t1,t2⟩:=Ym (hS t (xf _ ht));refine Xh.mpr ⟨X5.mpr t1,decide_eq_true ?_⟩;rw[V5 nofun,if_neg λz=>n1 (by rw[z];exact ht)];exact t2
    .have b:=hb.2 j (by rw[Ph];exact hj);rw[V5 nofun]at b;refine⟨λhm=>?_,λhm=>?_⟩
     .by_cases z:j∈S
      .exact b.1 z
      .have ej:s=j:=((xn.mp hm).resolve_right z).symm;rw[b.2 z,if_pos ej];exact hc
     .rw[b.2 λz=>hm (xf _ z),if_neg λz=>hm (by rw[z];exact xq)]
   have h0:=half 0 (.inl rfl);have h1:=half 1 (.inr rfl);have:jg [Rp 1 a m (p.set s 0),Rp 1 a m (p.set s 1)]<=(S.length:Int)+B:=by
    refine M9 (L:=[p.set s 0,p.set s 1]) (f:=Rp 1 a m) (by simp) λq hq=>?_;rcases xn.mp hq with z|z
    .rw[z];exact h0
    .rw[xj.mp z];exact h1
   rw[X3];omega
end
theorem j25{n s:Nat}{p:List Int}{ks:List (List Int)}{ns:List Int}{x y:Int}(hl:p.length<=6)(hs:s<p.length)(h2:p.getD s 0=2)(hx:J6 ks (ns.map D.int) (p.set s 0)=a3 (.int x))(hy:J6 ks (ns.map D.int) (p.set s 1)=a3 (.int y)) :
  evP 1000 G T (n+2) "numbers_behind" [.dct ks (ns.map D.int),ji p,.int s]=.fresh ([x,y].map D.int):=by
 have t0:=Lj (n:=n) (v:=0) hl hs h2;have t1:=Lj (n:=n) (v:=1) hl hs h2;simp only[ji]at t0 t1 ⊢;rw[jt (F:=Z2) (by rfl) rfl];simp only[Z2,Jj,enter];ext;simp only[gA];ext;rw[jw (l:=[x,y].map D.int) (by rfl) (by decide) ?_ (.inr (J3 _))]
 .ext
 .rw[vz,z9 (d':=.int x) (by ext) (by ext;rw[t0];ext;rw[j33 hx])];rw[vz,z9 (d':=.int y) (by ext) (by ext;rw[t1];ext;rw[j33 hy])];rfl
theorem j6t{n s:Nat}{p pr:List Int}{ks:List (List Int)}{ns:List Int}{x y:Int}(hl:p.length<=6)(hs:s<p.length)(hr:s<pr.length)(h2:p.getD s 0=2)(hx:J6 ks (ns.map D.int) (p.set s 0)=a3 (.int x))(hy:J6 ks (ns.map D.int) (p.set s 1)=a3 (.int y)) :
  evP 1000 G T (n+3) (jx "worst_cost_of_ask") [.lst (pr.map D.int),.dct ks (ns.map D.int),ji p,.int s]=.lval (.int (pr.getD s 0+jg [x,y])):=by
 have b:=j25 (n:=n) hl hs h2 hx hy;have g:=j44 hr;rw[j30 (F:=Jz) (by rfl) rfl];simp only[Jz,vy,enter];ext;rw[g,b];ext;rw[show([D.int x,D.int y]:List D)=[x,y].map D.int from rfl,jjn (by simp)];ext
theorem j27(l:List (List Int))(h:∀k∈l,k.length=2):∀k,k<l.length->aL (Jg l) k<=k/\∀j,j<=k->(l.getD (aL (Jg l) k) []).getD 0 0<=(l.getD j []).getD 0 0:=by
 have two:∀i,i<l.length->∃a b,l.getD i []=[a,b]:=λi hi=>by
  have e:l.getD i []=l[i]:=by rw[kj,kh hi];rfl
  have hm:=h _ (Xm hi);rw[e]
  match l[i],hm with|[a,b],_=>exact⟨a,b,rfl⟩
 intro k;induction k with
 |zero=>exact λ_=>⟨xx _,λj hj=>by rw[Nat.le_zero.mp hj];exact t6 _⟩
 |succ k ih =>
  intro hk;obtain⟨h1,h2⟩:=ih nofun
  obtain⟨a,b,e1⟩:=two (k+1) hk;obtain⟨c,d,e2⟩:=two (aL (Jg l) k) nofun
  rw[aL];cases z:Jg l (k+1) (aL (Jg l) k) with
  |true =>
   rw[if_pos rfl];refine⟨xx _,λj hj=>?_⟩;have z:HT.lexLt (l.getD (k+1) []) (l.getD (aL (Jg l) k) [])=a6:=z;rw[e1,e2]at z;have z:a<=c:=by
    rw[HT.lexLt]at z;by_cases q:a=c
    .omega
    .rw[if_neg q]at z;have:=of_decide_eq_true z;omega
   rcases i8 j (k+1)with q|q
   .have:=h2 j nofun
    rw[e2]at this;rw[e1];exact l7 z this
   .rw[show j=k+1 by omega];exact t6 _
  |false =>
   rw[if_neg xm];refine⟨by omega,λj hj=>?_⟩;have z:HT.lexLt (l.getD (k+1) []) (l.getD (aL (Jg l) k) [])=a4:=z;rw[e1,e2]at z;have z:c<=a:=by
    rw[HT.lexLt]at z;by_cases q:a=c
    .omega
    .rw[if_neg q]at z;have:=of_decide_eq_false z;omega
   rcases i8 j (k+1)with q|q
   .exact h2 j nofun
   .rw[show j=k+1 by omega,e1,e2];exact z
theorem Ih{n:Nat}{p pr:List Int}{ks:List (List Int)}{ns:List Int}{V0 V1:Nat->Int}(hl:p.length<=6)(hr:pr.length=p.length)(ho:ql p p.length≠[])
  (hx:∀s,s<p.length->p.getD s 0=2->J6 ks (ns.map D.int) (p.set s 0)=a3 (.int (V0 s))/\J6 ks (ns.map D.int) (p.set s 1)=a3 (.int (V1 s))) :
  ∃s:Int,evP 1000 G T (n+4) "cheapest_ask" [.dct ks (ns.map D.int),ji p,.fn "worst_cost_of_ask" [.lst (pr.map D.int)]]=.val (.tup [.int (Qz ((ql p p.length).map λs=>pr.getD s 0+jg [V0 s,V1 s])),.int s]):=by
 let kk:List (List Int):=(ql p p.length).map λ(s:Nat)=>[pr.getD s 0+jg [V0 s,V1 s],(s:Int)]
 have kl:kk.length=(ql p p.length).length:=xg ..;have kp:0<(ql p p.length).length:=List.length_pos_iff.mpr ho;obtain⟨b1,b2⟩:=j27 kk (λk hk=>by obtain⟨s,_,e⟩:=xr.mp hk;rw[<-e];rfl) (kk.length-1) nofun
 have hi:aL (Jg kk) (kk.length-1)<kk.length:=by omega
 have hk:kk[aL (Jg kk) (kk.length-1)]?=a3 (kk.getD (aL (Jg kk) (kk.length-1)) []):=by rw[kj,kh hi];rfl
 obtain⟨s0,hs0,e0⟩:=xr.mp (Xr hk);have at':∀{t:Nat},t∈ql p p.length->t<p.length/\p.getD t 0=2:=λ{t} ht=>by obtain⟨h1,h2⟩:=Xh.mp ht;exact⟨X5.mp h1,of_decide_eq_true h2⟩
 have mn:Qz ((ql p p.length).map λs=>pr.getD s 0+jg [V0 s,V1 s])=pr.getD s0 0+jg [V0 s0,V1 s0]:=by
  refine Dq (xr.mpr ⟨s0,hs0,rfl⟩) λc hc=>?_;obtain⟨t,ht,rfl⟩:=xr.mp hc;obtain⟨j,hj,ej⟩:=Xw.mp ht;have q:=b2 j nofun
  rw[<-e0]at q;have e1:kk.getD j []=[pr.getD t 0+jg [V0 t,V1 t],(t:Int)]:=by rw[kj,X6,kh hj,ej];rfl
  rw[e1]at q;exact q
 refine⟨(s0:Int),?_⟩;rw[mn,jt (F:=Zq) (by rfl) rfl];simp only[Zq,Qi,enter,ji];ext;rw[jw (l:=kk.map λk=>D.tup (k.map D.int)) (by rfl) (by unfold Qg;rw[xg,df,xg];omega) ?_ (.inl rfl)];rotate_left
 .rw[Kc,Xe];refine Qd λs hs'=>?_;have hs:=X5.mp hs';refine j7m ?_ λhb=>?_
  .ext;simp only[gN];ext;simp only[Mq];ext
  .have h2:p.getD s 0=2:=of_decide_eq_true hb;obtain⟨h0,h1⟩:=hx s hs h2;have c:=j6t (n:=n) (pr:=pr) hl hs nofun h2 h0 h1;simp only[ji]at c;ext;rw[j9o (by rw[Ja,Ot,Ja,j0e];rfl)];simp only[dQ,cV];rw[c];ext;rfl
 ext;rw[jco hk,<-e0];ext
theorem j69{n:Nat}{p pr:List Int}{ks:List (List Int)}{ns:List Int}{V0 V1:Nat->Int}(hl:p.length<=6)(hr:pr.length=p.length)(ho:ql p p.length≠[])
  (hx:∀s,s<p.length->p.getD s 0=2->J6 ks (ns.map D.int) (p.set s 0)=a3 (.int (V0 s))/\J6 ks (ns.map D.int) (p.set s 1)=a3 (.int (V1 s))) :
  evP 1000 G T (n+5) (jx "least_numbers") [.fn "worst_cost_of_ask" [.lst (pr.map D.int)],.dct ks (ns.map D.int),ji p]=.lval (.int (Qz ((ql p p.length).map λs=>pr.getD s 0+jg [V0 s,V1 s]))):=by
 obtain⟨s,e⟩:=Ih (n:=n) hl hr ho hx;rw[j30 (F:=Zd) (by rfl) rfl];simp only[Zd,Q5,enter];ext;erw[e,at0]
theorem rep1(k:Nat):(ae k [D.int 1]).flatten=(ae k (1:Int)).map D.int:=by
 induction k with
 |zero=>rfl
 |succ k ih=>rw[pq,Tc,ih];rfl
theorem j59 {n m:Nat} (hm:m<=6):evP 1000 G T (n+1) "prices_told" [.int m,.non]=.fresh ((ae m (1:Int)).map D.int):=by rw[jt (F:=V7) (by rfl) rfl];simp only[V7,Qx,enter];ext;rw[Xc,rep1]
theorem j20 {n m:Nat} {ws:List aj} {a pr:List Int} {d:D} (hw:ws.length=m) (hp:evP 1000 G T (n+1) "prices_told" [.int m,d]=.fresh (pr.map D.int)) :
  evP 1000 G T (n+2) "worst_cost_of_ask" [qD ws a,d]=.val (.fn "worst_cost_of_ask" [.lst (pr.map D.int)]):=by
 rw[jt (F:=Q3) (by rfl) rfl];simp only[Q3,J0,enter,qD];ext;rw[at0];ext;rw[hw,hp];ext
theorem j2j:∀m:Nat,(PK (ae m 2)).getLast?=a3 (ae m 2)
 |0=>rfl
 |m+1=>by
  have ek:PK (ae (m+1) 2)=((PK (ae m 2)).map (0 :: ·)++(PK (ae m 2)).map (1 :: ·))++(PK (ae m 2)).map (2 :: ·):=by unfold PK;rw[pq,Xa,zg];simp[Q0]
  rw[ek,iu,iZ,j2j m,pq];rfl
theorem atL{t:List Int}{x:Int}(h:t.getLast?=a3 x):atI (t.map D.int) (-1)=a3 (.int x):=by
 have hn:t≠[]:=λe=>by rw[e]at h;cases h
 have hl:0<t.length:=List.length_pos_iff.mpr hn;unfold atI ixN;rw[xg,if_neg (by decide),if_pos nofun];show(t.map D.int)[_]?=_;rw[show(-1+(t.length:Int)).toNat=t.length-1 by omega,X6,<-List.getLast?_eq_getElem?,h];rfl
theorem j54:∀{os l:List Nat},os.foldl (rsS 1) ([]::l.map λs=>[s])=[]::(l++os).map λs=>[s]
 |[],l=>by rw[Xu];rfl
 |s::os,l=>by
  have e:rsS 1 ([]::l.map λs=>[s]) s=[]::(l++[s]).map λs=>[s]:=by
   have f:(l.map λs=>[s]).filter (λS:List Nat=>decide (S.length<1))=[]:=List.filter_eq_nil_iff.mpr λS hS=>by obtain⟨t,_,rfl⟩:=xr.mp hS;simp
   unfold rsS;rw[cF (by simp),f,Pq];rfl
  rw[Pz,e,j54,tu];rfl
theorem j2f{os:List Nat}:rsL 1 os=os.map λs=>[s]:=by have:rsC 1 os=[]::os.map λs=>[s]:=j54 (l:=[]);unfold rsL;rw[this];rfl
theorem ja7{a p:List Int}{m:Nat}(h01:∀x∈a,x=0\/x=1)(hp:p.length=m)(h3:∀t∈p,0<=t/\t<3)(h:opB a m p=a6) :
  Rp 1 a m p=Qz ((ql p m).map λs=>(ae m (1:Int)).getD s 0+jg [Rp 1 a m (p.set s 0),Rp 1 a m (p.set s 1)]):=by
 have ne:=Dm h01 hp h3 h;rw[Lg hp h3 h,j2f,Xe];obtain⟨m1,m2⟩:=Yo (ns:=(ql p m).map ((λS=>jg ((seL p S).map (Rp 1 a m))) ∘ λs=>[s])) (by simpa using ne);have one:∀s∈ql p m,(ae m (1:Int)).getD s 0=1:=λs hs=>by rw[kj,cE,if_pos (Ym hs).1];rfl
 refine(Dq ?_ λc hc=>?_).symm
 .obtain⟨s,hs,e⟩:=xr.mp m1;rw[<-e];exact xr.mpr ⟨s,hs,by rw[one s hs];rfl⟩
 .obtain⟨s,hs,rfl⟩:=xr.mp hc;rw[one s hs];have:=m2 _ (xr.mpr ⟨s,hs,rfl⟩);exact Int.add_le_add_left this 1
theorem j1m{n m:Nat}{ws:List aj}{a p:List Int}(hw:ws.length=m)(hm:1<=m/\m<=6)(ha:a.length=2^m)(h01:∀x∈a,x=0\/x=1)(hp:p.length=m)(hp3:∀t∈p,0<=t/\t<3) :
  evP 1000 G T (n+6) "numbers_within" [ji p,qD ws a,.fn "least_numbers" [.fn "worst_cost_of_ask" [.lst ((ae m (1:Int)).map D.int)]]]=.val (.dct (PK p) (((PK p).map (Rp 1 a m)).map D.int)):=by
 rw[jt (F:=Z1) (by rfl) rfl];simp only[Z1,Ji,enter];have pk:evP 1000 G T (n+5) "parts_in" [ji p]=.fresh (jn (PK p)):=by rw[j09 (n:=n+3) nofun,Q6];rfl
 have p3:=jln hm.2;have pl:=j5g (p:=p);rw[hp]at pl;have pok:∀q∈PK p,q.length=m/\∀t∈q,0<=t/\t<3:=λq hq=>by rw[<-hp];exact j3t hp3 hq
 have hd:=j5t (f1:=λρ=>stOf (ev (evP 1000 G T (n+5)) G (.not (.isN (.call "settled_by" (.cons (.var 1) (.cons (.var 4) .nil))))) ρ))
  (f2:=λρ=>stOf (ev (evP 1000 G T (n+5)) G (.ite (.var 5) (.lit (.int 0)) (.callV 2 (.cons (.var 3) (.cons (.var 4) .nil)))) ρ))
  (A:=ji p) (B:=qD ws a) (C:=.fn "least_numbers" [.fn "worst_cost_of_ask" [.lst ((ae m (1:Int)).map D.int)]]) (L:=PK p) (W:=Rp 1 a m) (op:=opB a m) nofun (j84 hp3)
  (λq s5 hq=>by
   have sp:evP 1000 G T (n+5) "settled_by" [.tup [.tup (ws.map D.str),.tup (a.map D.int)],ji q]=.val (stD a q m):=Lr (n:=n) hm ha (pok q hq).1 (pok q hq).2
   simp only[ji]at sp
   simp only[qD]
   ext
   rw[sp]
   ext
   simp only[opB])
  (λi hi=>by
   have hq:=Xm hi
   obtain⟨q1,q2⟩:=pok _ hq
   cases z:opB a m (PK p)[i] with
   |false =>
    simp only[Bool.not_false]
    ext
    rw[Vs z]
   |true =>
    simp only[Bool.not_true]
    have sub:∀(s:Nat)(c:Int),s<(PK p)[i].length->(PK p)[i].getD s 0=2->(c=0\/c=1)->J6 ((PK p).take i) (((((PK p).take i).map (Rp 1 a m))).map D.int) ((PK p)[i].set s c)=a3 (.int (Rp 1 a m ((PK p)[i].set s c))):=λs c hs h2 hc=>by
     rw[Xe]
     refine j11 (f:=λq=>D.int (Rp 1 a m q)) (j85 hp3 hi (j5e hq h2 hc) ?_)
     rw[j28 hs,h2]
     have:(0:Int)<3^((PK p)[i].length-1-s):=bY (by decide)
     rcases hc with e|e<;>subst e<;>omega
    have L:=j69 (n:=n) (p:=(PK p)[i]) (pr:=ae m 1) (ks:=(PK p).take i) (ns:=((PK p).take i).map (Rp 1 a m)) (V0:=λs=>Rp 1 a m ((PK p)[i].set s 0)) (V1:=λs=>Rp 1 a m ((PK p)[i].set s 1))
     nofun (by rw[ph,q1]) (by rw[q1];exact Dm h01 q1 q2 z) (λs hs h2=>⟨sub s 0 hs h2 (.inl rfl),sub s 1 hs h2 (.inr rfl)⟩)
    have wo:=ja7 h01 q1 q2 z
    rw[q1,<-wo]at L
    simp only[ji]at L
    ext
    rw[j9p (by rw[Ja,Ot,Ja,j0e];rfl)]
    simp only[dQ,cV]
    rw[L]
    ext)
  (PK p).length 0 .un .un (t8 _)
 have hi:ev (evP 1000 G T (n+5)) G (.seq (.call "parts_in" (.cons (.var 0) .nil))) [.val (ji p),.val (qD ws a),.val (.fn "least_numbers" [.fn "worst_cost_of_ask" [.lst ((ae m (1:Int)).map D.int)]]),.un,.un,.un]=a3 (.i (jn (PK p))):=by ext;rw[pk];ext
 have ru:=j52 (fu:=1000) (Γ:=evP 1000 G T (n+5)) (G:=G) (ρ:=[.val (ji p),.val (qD ws a),.val (.fn "least_numbers" [.fn "worst_cost_of_ask" [.lst ((ae m (1:Int)).map D.int)]]),.un,.un,.un]) (x:=3) (t:=4) (y:=5) ⟨by simp,by simp,by simp,by decide,by decide,by decide⟩ hi hd;exact congrArg fin ru
theorem j3f{n m:Nat}{ws:List aj}{a:List Int}(hw:ws.length=m)(hm:1<=m/\m<=6)(ha:a.length=2^m)(h01:∀x∈a,x=0\/x=1) :
  evP 1000 G T (n+9) "worst_table" [qD ws a,.non]=.val (.tup (((PK (ae m 2)).map (Rp 1 a m)).map D.int)):=by
 have nm:evP 1000 G T (n+7) "least_numbers" [ji (ae m 2),qD ws a,.fn "worst_cost_of_ask" [.lst ((ae m (1:Int)).map D.int)]]=.val (.dct (PK (ae m 2)) (((PK (ae m 2)).map (Rp 1 a m)).map D.int)):=by rw[jt (F:=Zg) (by rfl) rfl];simp only[Zg,Q8,enter];ext;rw[j1m (n:=n) hw hm ha h01 (ph ..) (Lb m),jc1 (Ot ..)];ext
 have tb:evP 1000 G T (n+8) "least_table" [qD ws a,.fn "worst_cost_of_ask" [.lst ((ae m (1:Int)).map D.int)]]=.val (.tup (((PK (ae m 2)).map (Rp 1 a m)).map D.int)):=by rw[jt (F:=V8) (by rfl) rfl];simp only[V8,Qy,enter];ext;erw[j1i (n:=n+6) hm hw,nm]
 rw[jt (F:=V6) (by rfl) rfl];simp only[V6,Qv,enter];ext;erw[j20 (n:=n+6) hw (j59 (n:=n+6) hm.2),tb]
theorem j1x{f:D->En->So}{ds:List D}{ρ:En}{g:En->So}{Q:Rc->Prop}(W:Nat->En->Prop)(h0:W 0 ρ)(hs:∀i d ρ,ds[i]?=a3 d->W i ρ->∃ρ',f d ρ=.next ρ'/\W (i+1) ρ')(hk:∀ρ',W ds.length ρ'->Q (fin (g ρ'))):Q (fin (Ws (vp f ds ρ) g)):=by
 obtain⟨ρ',e,w⟩:=Vn (f:=f) W (k:=0) (ds:=ds) (ρ:=ρ) h0 λi d ρ hi w=>by rw[t8]at w ⊢;exact hs i d ρ hi w
 rw[e];rw[t8]at w;exact hk ρ' w
theorem j6r:∀(ts acc:List aj),acc.Nodup->(ts.foldl ddS acc).length=acc.length+ts.length->(acc++ts).Nodup
 |[],acc,hn,_=>by rw[Xu];exact hn
 |v::ts,acc,hn,h=>by
  rw[Pz,X3]at h;have hl:=Ny ts (ddS acc v);by_cases e:acc.any (· == v)=a6
  .have ed:ddS acc v=acc:=if_pos e;rw[ed]at hl h;omega
  .have ed:ddS acc v=acc++[v]:=if_neg e;rw[ed]at h;have nv:v∉acc:=λz=>e (List.any_eq_true.mpr ⟨v,z,beq_self_eq_true v⟩);have:=j6r ts (acc++[v]) (by
    rw[List.nodup_append]
    exact⟨hn,by simp,λx hx y hy=>by rw[xj.mp hy];exact λz=>nv (z▸hx)⟩) (by rw[h,Xf,eF];omega)
   rw[tu]at this;exact this
theorem j9h{ns:List aj}(h:(dd ns).length=ns.length):ns.Nodup:=j6r ns [] eO (by rw[show([]:List aj).length=0 from rfl,t8];exact h)
theorem j7k {n m:Nat} {c:Int} (hm:1<=m/\m<=6):∃ws:List aj,(ws.Nodup/\ws.length=m)/\evP 1000 G T (n+1) "_law_words" [.int c,.int m]=.fresh (ws.map D.str):=by
 rw[jt (F:=Bb) (by rfl) rfl];simp only[Bb,Wj,enter];have ll:=jju;have tot:∀k:Bool,((m:Int)*(if k then 1 else 0)).toNat=if k then m else 0:=λk=>by cases k<;>simp
 ext;simp only[j18];ext;obtain⟨k,ek⟩:∃k:Bool,decide ((1000000000000000000:Int)<=c)=k:=⟨_,rfl⟩
 rw[ek];have kb:-4611686018427387904<=(m:Int)*(if k then 1 else 0)/\(m:Int)*(if k then 1 else 0)<4611686018427387904:=by cases k<;>simp<;>omega
 ext;rw[tot];refine j1x (Q:=λr=>∃ws:List aj,(ws.Nodup/\ws.length=m)/\r=.fresh (ws.map D.str)) (λi ρ=>∃(ns:List aj)(r:Int)(s5 s6 s7 s8:Sv),ns.length=i/\ρ=[.val (.int c),.val (.int m),.val (.str "mdkbvqhzcgrnapxolsiefwtyju"),.own (ns.map D.str),.val (.int r),s5,s6,s7,s8,.un,.un,.un,.un]) ⟨[],c,.un,.un,.un,.un,rfl,rfl⟩ ?_ ?_
 .rintro i d ρ hi ⟨ns,r,s5,s6,s7,s8,hl,rfl⟩;have hi2:i<7:=by have:=(X8.mp hi).1;rw[jj]at this;cases k<;>simp at this<;>omega
  simp only[Qe];ext;refine Ls (λj ρ=>∃(x:List Nat)(r2:Int)(s8:Sv),x.length=j/\ρ=[.val (.int c),.val (.int m),.val (.str "mdkbvqhzcgrnapxolsiefwtyju"),.own (ns.map D.str),.val (.int r2),.val d,.val (.int (1+r%8)),.val (.str (sL x)),s8,.un,.un,.un,.un]) ⟨[],r/8,s8,rfl,rfl⟩ ?_ ?_
  .rintro j e ρ hj ⟨x,r2,s8',hx,rfl⟩;have hj2:j<8:=by have:=(X8.mp hj).1;rw[jj]at this;omega
   have lx:(sL x).length=j:=by rw[J9,hx]
   simp only[Qe];ext;rw[Ir nofun];ext;have l1:(⟨#[lt (r2%26)]⟩:aj).length=1:=rfl;ext;refine⟨_,rfl,x++[lt (r2%26)],r2/26,.val e,by simp[hx],?_⟩;rw[show(⟨#[lt (r2%26)]⟩:aj)=sL [lt (r2%26)]from rfl,Yz]
  .rintro ρ2 ⟨x,r2,s8',hx,rfl⟩;ext;refine⟨_,rfl,ns++[sL x],r2,.val d,.val (.int (1+r%8)),.val (.str (sL x)),s8',by simp[hl],?_⟩;rw[Pq];rfl
 rintro ρ' ⟨ns,r,s5,s6,s7,s8,hl,rfl⟩;rw[jj]at hl;have nl:ns.length<=6:=by rw[hl];split<;>omega
 ext;rw[jcs nofun];by_cases hd:((dd ns).length:Int)=(m:Int)
 .have lm:ns.length=m:=by
   cases k with
   |true=>simpa using hl
   |false =>have:ns=[]:=List.eq_nil_of_length_eq_zero (by simpa using hl);subst this;have z:(dd []).length=0:=rfl;rw[z]at hd;omega
  ext;exact⟨ns,⟨j9h nofun,lm⟩,rfl⟩
 refine⟨Qj c m,⟨Ef hm.2,Kw _ _⟩,?_⟩;by_cases h:c%4<2
 .ext;rw[jw (l:=((Y4 c).map λx=>(⟨#[x]⟩:aj)).map D.str) (by rfl) (by rw[jj];decide) ?_ (.inl rfl)];rotate_left
  .rw[Jv,Y4,Xe,Xe];refine qb λk hk'=>z9 (by ext) ?_;have hk:=X5.mp hk';ext;rw[Ir nofun];ext;simp
  rw[j2t (Wz (by rw[Qn];decide)),Nk];have st:=jac (c:=c) hm.2;obtain⟨s,hs⟩:∃s:Nat,s=stN c m:=⟨_,rfl⟩
  have es:c/8%(9-(m:Int))=(s:Int):=by rw[hs];unfold stN;have:=Tw (c/8) (show(9-(m:Int))≠0 by omega);omega
  have lg:(sL (Y4 c)).length=8:=by rw[J9,Qn]
  by_cases h0:c%4=0
  .ext;rw[es,jw (l:=(Qj c m).map D.str) (by rfl) (by rw[jj];omega) ?_ (.inl rfl)]
   .ext
   .rw[Xc,Jv,Qj,Xe];refine qb λk hk'=>z9 (by ext) ?_;have hk:=X5.mp hk';ext;have e:(s:Int)+(0+(k:Int))+1=((s+k+1:Nat):Int):=by omega
    have hh:wrd c m k=(Y4 c).take (stN c m+k+1):=by unfold wrd;rw[if_pos h,if_pos h0]
    rw[e,Bt (by rw[Qn];omega)];simp only[dj,hh,hs]
  .ext;rw[es,jw (l:=(Qj c m).map D.str) (by rfl) (by rw[jj];omega) ?_ (.inl rfl)]
   .ext
   .rw[Xc,Jv,Qj,Xe];refine qb λk hk'=>z9 (by ext) ?_;have hk:=X5.mp hk';ext;have e:8-(s:Int)-(0+(k:Int))-1=((8-s-k-1:Nat):Int):=by omega
    have hh:wrd c m k=(Y4 c).drop (8-stN c m-k-1):=by unfold wrd;rw[if_pos h,if_neg h0]
    rw[e,Bu (by rw[Qn];omega)];simp only[dj,hh,hs]
 .have a:=jaw c;obtain⟨s,hs⟩:∃s:Nat,s=szN c:=⟨_,rfl⟩
  have es:c/4%8=(s:Int):=by rw[hs];unfold szN;omega
  obtain⟨q,hq⟩:∃q:Nat,q=atN c:=⟨_,rfl⟩
  have eq:c/512%((s:Int)+1)=(q:Int):=by rw[hq];unfold atN;have:=Tw (c/512) (show((s:Int)+1)≠0 by omega);rw[<-hs];omega
  ext;rw[es,jw (l:=((Vd c s).map λx=>(⟨#[x]⟩:aj)).map D.str) (by rfl) (by rw[jj];omega) ?_ (.inl rfl)];rotate_left
  .rw[Xc,Jv,Vd,Xe,Xe];refine qb λk hk'=>z9 (by ext) ?_;have hk:=X5.mp hk';ext;rw[Ir nofun];ext;simp
  rw[j2t (Wz (by rw[vf];omega)),Nk];have lg:(sL (Vd c s)).length=s:=by rw[J9,vf]
  ext;rw[eq,jw (l:=(Qj c m).map D.str) (by rfl) (by rw[jj];omega) ?_ (.inl rfl)]
  .ext
  .rw[Xc,Jv,Qj,Xe];refine qb λk hk'=>z9 (by ext) ?_;have hk:=X5.mp hk';ext;rw[Ir nofun];ext;rw[Bt (by rw[vf];omega),Bu (by rw[vf];omega)];have e1:(⟨#[lt ((c/9+7*(0+(k:Int)))%26)]⟩:aj)=sL [lt ((c/9+7*(0+(k:Int)))%26)]:=rfl;have l1:(sL ((Vd c s).take q)).length=q:=by rw[J9,P0,vf];omega
   have l2:(sL ((Vd c s).drop q)).length=s-q:=by rw[J9,Tn,vf]
   have l3:(sL [lt ((c/9+7*(0+(k:Int)))%26)]).length=1:=rfl;have l4:(sL ((Vd c s).take q)++sL [lt ((c/9+7*(0+(k:Int)))%26)]).length=q+1:=by rw[Yz,J9,Xf,P0,vf,X3,T5];omega
   rw[e1];ext;rw[Yz,Yz];simp only[dj,wrd,h,if_false,<-hs,<-hq,tu,List.singleton_append,de]
noncomputable def Yv(n:Nat)(ns:List Int)(a most:Nat):List Int :=
 (ax (2^Zm ns a most)).map λ(k:Nat)=>if decide ((1000000000000000000:Int)<=qj ns (a+2))=a6 then qj ns (a+2)/(1*2^(0+(k:Int)).toNat)%2 else Bh 1000 G T n (j6 2 (Zm ns a most) (0+(k:Int))) (qj ns a/(most:Int)%5) (qj ns (a+2))
theorem je7{n:Nat}{ns:List Int}{a most:Nat}(hm:1<=most/\most<=6):∀x∈Yv n ns a most,x=0\/x=1:=by
 intro x hx;obtain⟨k,_,rfl⟩:=xr.mp hx;have mb:=Dt (ns:=ns) (a:=a) hm;split
 .omega
 .exact(j1g jh0 (j49 _ _) (by rw[jf];omega)).1
theorem p2n{k:Nat}(h:k<64):0<(2:Int)^k/\(2:Int)^k<18446744073709551616:=by
 refine⟨bY (by decide),?_⟩;have h1:2^k<2^64:=Nat.pow_lt_pow_right (by decide) h;have h2:(2:Nat)^64=18446744073709551616:=by decide
 rw[h2]at h1;have h3:((2^k:Nat):Int)=(2:Int)^k:=by simp
 omega
theorem j1u{n:Nat}{ns:List Int}{a most:Nat}(ha:a<=50)(hm:1<=most/\most<=6):∃ws:List aj,(ws.Nodup/\ws.length=Zm ns a most) /\
  evP 1000 G T (n+2) "_law_question" [.lst (ns.map D.int),.int a,.int most]=.val (.tup [.tup (ws.map D.str),.tup ((Yv n ns a most).map D.int)]):=by
 rw[jt (F:=Ui) (by rfl) rfl];simp only[Ui,Vm,enter];have mb:=Dt (ns:=ns) (a:=a) hm;obtain⟨m,em⟩:∃m:Nat,m=Zm ns a most:=⟨_,rfl⟩
 have em2:1+qj ns a%(most:Int)=(m:Int):=by rw[em];unfold Zm;have h1:=Tw (qj ns a) (show(most:Int)≠0 by omega);omega
 rw[<-em]at mb;have p2:=j3r (m:=m) nofun
 have pc:((2^m:Nat):Int)=(2:Int)^m:=by simp
 have e3:(1*2^m:Int).toNat=2^m:=by rw[dG,<-pc];exact Xc _
 have c0:evP 1000 G T (n+1) "_law_cell" [.lst (ns.map D.int),.int a]=.val (.int (qj ns a)):=Ub Iu nofun
 have c1:evP 1000 G T (n+1) "_law_cell" [.lst (ns.map D.int),.int ((a:Int)+1)]=.val (.int (qj ns (a+1))):=Ub Iu (k:=a+1) nofun
 have c2:evP 1000 G T (n+1) "_law_cell" [.lst (ns.map D.int),.int ((a:Int)+2)]=.val (.int (qj ns (a+2))):=Ub Iu (k:=a+2) nofun
 obtain⟨ws,⟨wnd,wl⟩,we⟩:=j7k (n:=n) (c:=qj ns (a+1)) (m:=m) nofun
 refine⟨ws,⟨wnd,by rw[wl,em]⟩,?_⟩;ext;rw[c0];ext;rw[em2,c1];ext;erw[we,c0,c2,Xc];rw[e3];rw[Ow (λi=>[.val (.lst (ns.map D.int)),.val (.int a),.val (.int most),.val (.int m),.own (ws.map D.str),.val (.int (qj ns a/(most:Int)%5)),.val (.int (qj ns (a+2))),.own (((Yv n ns a most).take i).map D.int),if i=0 then .un else .val (.int ((i:Int)-1)),if i=0 then .un else .own ((j6 2 m ((i:Int)-1)).map D.int),.un]) (by simp)]
 .ext;rw[jj,Te (by simp[Yv,<-em])]
 .intro i d hi;obtain⟨h1,rfl⟩:=Yh hi;have hz:=j49 m (0+(i:Int));have hlz:=jf 2 m (0+(i:Int));obtain⟨hb,eb⟩:=j1g (fu:=1000) (n:=n) (G:=G) jh0 hz nofun (kd:=qj ns a/(most:Int)%5) (c:=qj ns (a+2))
  have lt64:2^m<=64:=by omega
  have pw:=p2n (k:=(0+(i:Int)).toNat) nofun
  have al:(Yv n ns a most).length=2^m:=by simp[Yv,<-em]
  have ag:(Yv n ns a most)[i]?=a3 (if decide ((1000000000000000000:Int)<=qj ns (a+2))=a6 then qj ns (a+2)/(1*2^(0+(i:Int)).toNat)%2 else Bh 1000 G T n (j6 2 m (0+(i:Int))) (qj ns a/(most:Int)%5) (qj ns (a+2))):=by unfold Yv;rw[<-em,X6,T3 h1];rfl
  simp only[Qe];ext;rw[jw (l:=(j6 2 m (0+(i:Int))).map D.int) (by rfl) (by rw[jj];omega) ?_ (.inl rfl)];rotate_left
  .have ed:j6 2 m (0+(i:Int))=(ax m).map λ(k:Nat)=>(0+(i:Int))/2^(m-1-k)%2:=by
    refine sy λk=>?_;by_cases hk:k<m
    .rw[Zi hk,X6,T3 hk];rfl
    .rw[Pj (by rw[jf];omega),Pj (by simp;omega)]
   rw[Xc,Jv,ed,Xe];refine qb λk hk'=>z9 (by ext) ?_;have hk:=X5.mp hk';have et:((m:Int)-(0+(k:Int))-1).toNat=m-1-k:=by omega
   have p:=p2k (k:=m-1-k) nofun
   rw[<-et]at p;ext;rw[et,dG];rfl
  ext;rw[j9m,eb];ext;rw[jcr rfl];simp only[j18];ext;have pick:∀(k:Bool)(x y:Int),atI [D.int x,.int y] (if k then 1 else 0)=a3 (.int (if k=a6 then y else x)):=λk x y=>by cases k<;>rfl
  rw[pick];ext;rw[S7,ag];simp
theorem jgz:T "_law_row" = a3 KL.fL_row:=by rfl
noncomputable def vl(a p:List Int)(m:Nat):Int:=if cnt a p m 1=0 then 0 else 1
theorem Rx{a p:List Int}{m:Nat}:(stD a p m).isNon=a4↔cnt a p m 1=0\/cnt a p m 0=0:=by
 unfold stD j01;by_cases h1:cnt a p m 1=0
 .rw[if_pos h1];exact⟨λ_=>.inl h1,λ_=>rfl⟩
 .rw[if_neg h1];by_cases h0:cnt a p m 0=0
  .rw[if_pos h0];exact⟨λ_=>.inr h0,λ_=>rfl⟩
  .rw[if_neg h0];exact⟨λz=>(by cases z),λz=>(z.elim (λz=>absurd z h1) λz=>absurd z h0)⟩
theorem Cq{a p:List Int}{m k:Nat}(hk:k<2^m)(hf:fits p (j6 2 m (k:Int))=a6):cnt a p m (a.getD k 0)≠0:=by unfold cnt;have:0<(inL p m).countP λ(j:Nat)=>a.getD j 0==a.getD k 0:=List.countP_pos_iff.mpr ⟨k,Xh.mpr ⟨X5.mpr hk,hf⟩,by simp⟩;omega
theorem Y8{a p:List Int}{m k:Nat}(h01:∀x∈a,x=0\/x=1)(hs:(stD a p m).isNon=a4)(hk:k<2^m)(hf:fits p (j6 2 m (k:Int))=a6):vl a p m=a.getD k 0:=by
 have hc:=Cq (a:=a) hk hf;unfold vl;rcases Fp h01 k with e|e
 .rw[e]at hc ⊢;rcases Rx.mp hs with z|z
  .rw[if_pos z]
  .exact absurd z hc
 .rw[e]at hc ⊢;rw[if_neg hc]
theorem Yi{m:Nat}{z:Int}:(j6 2 m z)∈Z6 m/\((j6 2 m z).countP λt=>t==2)=0:=by have h:=j49 m z;refine⟨K7 (jf 2 m z) λt ht=>by rcases h t ht with e|e<;>omega,?_⟩;rw[List.countP_eq_zero];intro t ht;rcases h t ht with e|e<;>subst e<;>decide
theorem j1t{a:List Int}{m:Nat}{z:Int}(h01:∀x∈a,x=0\/x=1):(stD a (j6 2 m z) m).isNon=a4:=by
 obtain⟨hp,h0⟩:=Yi (m:=m) (z:=z);obtain⟨h1,h2⟩:=Yn hp;obtain⟨k,hk,_,e⟩:=Ek h1 h2 h0;refine Rx.mpr ?_;unfold cnt;rw[e];rcases Fp h01 k with z|z
 .left;rw[Xq,jV,z];rfl
 .right;rw[Xq,jV,z];rfl
theorem Cd{p:List Int}{s:Nat}(hs:s<p.length):p.getD s 0∈p:=by rw[kj,kh hs];exact Xm _
theorem Lq {n:Nat} {p:List Int} (hl:p.length<=6):evP 1000 G T (n+1) "size_of" [ji p]=.val (.int ((p.length:Int)-(p.countP λt=>t==2:Nat))):=by
 rw[jt (F:=Wa) (by rfl) rfl];simp only[Wa,Y5,enter,ji];have dp:D.depL (p.map D.int)<=90:=by rw[Kf];omega
 ext;simp only[gN];ext;rw[Cp dp (by simp[D.dep]),We];ext
theorem jki{i j:Int}:binI .band i j=a3 (cf i j):=(rfl)
theorem j0l{f:D->En->So}{g:En->So}{r1 r2:Rc}{q:Nat->Bool}(W:Nat->En->Prop):∀{ds:List D}{k:Nat}{ρ:En},W k ρ ->
  (∀i d ρ,ds[i]?=a3 d->W (k+i) ρ->(q (k+i)=a6->f d ρ=.ret r1)/\(q (k+i)=a4->∃ρ',f d ρ=.next ρ'/\W (k+i+1) ρ'))->(∀ρ',W (k+ds.length) ρ'->fin (g ρ')=r2) ->
  fin (Ws (vp f ds ρ) g)=if ((ax ds.length).any λi=>q (k+i))=a6 then r1 else r2
 |[],k,ρ,w,_,hk=>by have:=hk ρ w;simpa [vp,Lw]using this
 |d::ds,k,ρ,w,hs,hk=>by
  obtain⟨h1,h2⟩:=hs 0 d ρ rfl w;rw[X3,Td,dF,kF];cases e:q (k+0) with
  |true =>rw[vp,h1 e,Bool.true_or,if_pos rfl];rfl
  |false =>
   obtain⟨ρ',e1,w'⟩:=h2 e;have ih:=j0l (r1:=r1) (r2:=r2) (q:=q) (g:=g) W (ds:=ds) (k:=k+1) (ρ:=ρ') w' (λi d ρ hi w=>by
    have:=hs (i+1) d ρ (by simpa using hi) (by rw[show k+(i+1)=k+1+i by omega];exact w)
    rw[show k+(i+1)=k+1+i by omega]at this
    exact this) (λρ' w=>hk ρ' (by rw[X3,show k+(ds.length+1)=k+1+ds.length by omega];exact w))
   rw[vp,e1,gH];have e2:((λi=>q (k+i)) ∘ Nat.succ)=λi=>q (k+1+i):=by
    funext i
    show q (k+(i+1))=q (k+1+i);rw[show k+(i+1)=k+1+i by omega]
   rw[e2];exact ih
theorem jgy{p:List Int}{m:Nat}(hp:p.length=m)(hp3:∀t∈p,0<=t/\t<3)(z:Int):(agL p (j6 2 m z) m).length=0↔fits p (j6 2 m z)=a6:=by
 have:=ja4 (p:=p) (r:=j6 2 m z) hp3 (by rw[jf];exact hp)
 rwa [hp]at this
noncomputable def fsI(a p:List Int)(m:Nat):Nat->Option Int
 |0=>a7
 |i+1=>if fits p (j6 2 m (i:Int))=a6 then a3 (a.getD i 0)else fsI a p m i
noncomputable def oD:Option Int->D
 |none=>.non
 |some v=>.int v
noncomputable def qI(a p:List Int)(m i:Nat):Bool:=fits p (j6 2 m (i:Int))&&(match fsI a p m i with|some v=>!decide (a.getD i 0=v)|none=>a4)
theorem Ce{a p:List Int}{m:Nat}:∀N:Nat,(∀i:Nat,i<N->qI a p m i=a4)->∀i:Nat,i<N->fits p (j6 2 m (i:Int))=a6->fsI a p m N=a3 (a.getD i 0)
 |0,_,i,hi,_=>by omega
 |N+1,h,i,hi,hf=>by
  unfold fsI;by_cases e:i=N
  .subst e;rw[if_pos hf]
  .have ih:=Ce N (λj hj=>h j nofun) i nofun hf;split
   .rename_i hN;have q:=h N nofun
    unfold qI at q;rw[hN,ih]at q;have:a.getD N 0=a.getD i 0:=by simpa using q
    rw[this]
   .exact ih
theorem jas{a p:List Int}{m:Nat}{v:Int}:∀N:Nat,(∀i:Nat,i<N->fits p (j6 2 m (i:Int))=a6->a.getD i 0=v)->fsI a p m N=a7\/fsI a p m N=a3 v
 |0,_=>.inl rfl
 |N+1,h=>by
  unfold fsI;split
  .rename_i hN;exact .inr (by rw[h N nofun hN])
  .exact jas N λi hi=>h i nofun
theorem Ff{a p:List Int}{m:Nat}{v:Int}(h:cnt a p m v≠0):∃k:Nat,k<2^m/\fits p (j6 2 m (k:Int))=a6/\a.getD k 0=v:=by unfold cnt at h;have:=List.countP_pos_iff.mp (Nat.pos_of_ne_zero h);obtain⟨k,hk,e⟩:=this;unfold inL at hk;obtain⟨h1,h2⟩:=Xh.mp hk;exact⟨k,X5.mp h1,h2,by simpa using e⟩
theorem jjg{a p:List Int}{m:Nat}(h01:∀x∈a,x=0\/x=1)(ha:a.length=2^m):((ax (2^m)).any λi=>qI a p m i)=(stD a p m).isNon:=by
 cases e:(stD a p m).isNon with
 |false =>
  rw[ja];intro i hi;have hlt:=X5.mp hi;have all:∃v,∀j:Nat,j<2^m->fits p (j6 2 m (j:Int))=a6->a.getD j 0=v:=by
   rcases Rx.mp e with z|z
   .exact⟨0,λj hj hf=>by
     have q:=Cq (a:=a) hj hf
     rcases h01 _ (Cd (p:=a) (s:=j) nofun)with y|y
     .exact y
     .rw[y]at q;exact absurd z q⟩
   .exact⟨1,λj hj hf=>by
     have q:=Cq (a:=a) hj hf
     rcases h01 _ (Cd (p:=a) (s:=j) nofun)with y|y
     .rw[y]at q;exact absurd z q
     .exact y⟩
  obtain⟨v,hv⟩:=all;unfold qI;cases f:fits p (j6 2 m (i:Int)) with
  |false=>simp
  |true =>
   rcases jas (a:=a) (p:=p) (m:=m) (v:=v) i (λj hj=>hv j nofun)with q|q
   .rw[q];simp
   .rw[q,hv i hlt f];simp
 |true =>
  cases z:(ax (2^m)).any λi=>qI a p m i with
  |true=>rfl
  |false =>
   have no:∀i:Nat,i<2^m->qI a p m i=a4:=λi hi=>by have:=List.any_eq_false.mp z i (X5.mpr hi);simpa using this
   have e':¬(cnt a p m 1=0\/cnt a p m 0=0):=λh=>by rw[Rx.mpr h]at e;cases e
   obtain⟨k1,b1,f1,v1⟩:=Ff (a:=a) (p:=p) (m:=m) (v:=1) λh=>e' (.inl h);obtain⟨k0,b0,f0,v0⟩:=Ff (a:=a) (p:=p) (m:=m) (v:=0) λh=>e' (.inr h);have s1:=Ce (2^m) no k1 b1 f1;have s0:=Ce (2^m) no k0 b0 f0;rw[s1,v1,v0]at s0;cases s0
theorem Dn{n m:Nat}{a p:List Int}(hm:1<=m/\m<=6)(ha:a.length=2^m)(h01:∀x∈a,x=0\/x=1)(hp:p.length=m)(hp3:∀t∈p,0<=t/\t<3) :
  evP 1000 G T (n+2) "_law_one_answer" [.tup (a.map D.int),ji p]=.val (.bl (!(stD a p m).isNon)):=by
 rw[jt (F:=Vy) (by rfl) rfl];simp only[Vy,Zb,enter];have p2:=j3r hm.2;have pc:((2^m:Nat):Int)=(2:Int)^m:=by simp
 have e3:(1*2^m:Int).toNat=2^m:=by rw[dG,<-pc];exact Xc _
 ext;simp only[ji];ext;erw[hp,Xc];rw[e3];refine(j0l (q:=qI a p m) (k:=0) (r1:=.val (.bl a4)) (r2:=.val (.bl a6)) (λi ρ=>∃s4 s5,ρ=[.val (.tup (a.map D.int)),.val (.tup (p.map D.int)),.val (.int m),.val (oD (fsI a p m i)),s4,s5,.un]) ⟨.un,.un,rfl⟩ ?_ ?_).trans ?_
 .rintro i d ρ hi ⟨s4,s5,rfl⟩;rw[t8]at *;obtain⟨hlt,rfl⟩:=Yh hi;have ei:(0+(i:Int))=(i:Int):=by omega
  rw[ei];have rs:evP 1000 G T (n+1) "_law_row" [.int m,.int (i:Int)]=.val (ji (j6 2 m (i:Int))):=j05 jgz hm.2;have iff:=jgy hp hp3 (i:Int);have hl:=jf 2 m (i:Int);have aglen:(agL p (j6 2 m (i:Int)) m).length<=6:=by unfold agL;exact Xj (Th _ _) (by rw[Pa];omega)
  have comp:vz (Jw [6] (ev (evP 1000 G T (n+1)) G (.cons (.and (.cmp .lt (.ix (.var 1) (.var 6)) (.lit (.int 2))) (.cmp .ne (.ix (.var 1) (.var 6)) (.ix (.var 5) (.var 6)))) .nil)) (ev (evP 1000 G T (n+1)) G (.var 6))
    [.val (.tup (a.map D.int)),.val (.tup (p.map D.int)),.val (.int m),.val (oD (fsI a p m i)),.val (.int (i:Int)),.val (ji (j6 2 m (i:Int))),.un]) (upto 0 m)=a3 ((agL p (j6 2 m (i:Int)) m).map λ(k:Nat)=>D.int (0+(k:Int))):=by
   rw[Jv];refine Qd λk hk=>?_;have hk':k<m:=X5.mp hk;refine Zz (b:=decide (p.getD k 0<2)&&decide (p.getD k 0≠(j6 2 m (i:Int)).getD k 0)) ?_ λ_=>by ext
   have g1:=Uv (p:=p) (k:=k) nofun
   have g2:=Uv (p:=j6 2 m (i:Int)) (k:=k) nofun
   by_cases c1:p.getD k 0<2
   .by_cases c2:p.getD k 0=(j6 2 m (i:Int)).getD k 0
    .ext;simp only[g1];ext;simp only[g1,g2];ext;rw[decide_eq_true c1,decide_eq_false (λh:p.getD k 0≠_=>h c2)];rfl
    .ext;simp only[g1];ext;simp only[g1,g2];ext;rw[decide_eq_true c1,decide_eq_true (show p.getD k 0≠_ from c2)];rfl
   .ext;simp only[g1];ext;rw[decide_eq_false c1];rfl
  have gi:=j44 (p:=a) (k:=i) nofun
  simp only[Qe];by_cases hf:fits p (j6 2 m (i:Int))=a6
  .have h0:=iff.mpr hf;cases ef:fsI a p m i with
   |none =>
    rw[ef]at comp;have qf:qI a p m i=a4:=by unfold qI;rw[ef,hf];rfl
    refine⟨λz=>(by rw[qf]at z;cases z),λ_=>?_⟩;ext;rw[rs];ext;rw[Xc,jw (l:=_) (by rfl) (by rw[jj];omega) comp (.inl rfl)];simp only[oD];ext;rw[gi];ext;refine⟨_,rfl,.val (.int (i:Int)),.val (ji (j6 2 m (i:Int))),?_⟩;unfold fsI;rw[if_pos hf]
   |some v =>
    rw[ef]at comp;by_cases hv:a.getD i 0=v
    .have qf:qI a p m i=a4:=by unfold qI;rw[ef,hf];show(a6 && !decide (a.getD i 0=v))=a4;rw[decide_eq_true hv];rfl
     refine⟨λz=>(by rw[qf]at z;cases z),λ_=>?_⟩;ext;rw[rs];ext;rw[Xc,jw (l:=_) (by rfl) (by rw[jj];omega) comp (.inl rfl)];simp only[oD];ext;erw[gi,gi];refine⟨_,rfl,.val (.int (i:Int)),.val (ji (j6 2 m (i:Int))),?_⟩;unfold fsI;rw[if_pos hf]
    .have qf:qI a p m i=a6:=by unfold qI;rw[ef,hf];show(a6 && !decide (a.getD i 0=v))=a6;rw[decide_eq_false hv];rfl
     refine⟨λ_=>?_,λz=>(by rw[qf]at z;cases z)⟩;ext;rw[rs];ext;rw[Xc,jw (l:=_) (by rfl) (by rw[jj];omega) comp (.inl rfl)];simp only[oD];ext;rw[gi];ext
  .have h0:(agL p (j6 2 m (i:Int)) m).length≠0:=λh=>hf (iff.mp h);have qf:qI a p m i=a4:=by unfold qI;simp[hf]
   refine⟨λz=>(by rw[qf]at z;cases z),λ_=>?_⟩;ext;rw[rs];ext;rw[Xc,jw (l:=_) (by rfl) (by rw[jj];omega) comp (.inl rfl)];ext;refine⟨_,rfl,.val (.int (i:Int)),.val (ji (j6 2 m (i:Int))),?_⟩;rw[show fsI a p m (i+1)=fsI a p m i from if_neg hf]
 .rintro ρ' ⟨s4,s5,rfl⟩;ext
 .rw[jj];have:=jjg (p:=p) h01 ha;simp only[t8]at *;rw[this];cases(stD a p m).isNon<;>rfl
noncomputable def mkP(r:List Int)(u:Nat):List Int:=(ax r.length).map λ(k:Nat)=>if u.testBit k=a6 then r.getD k 0 else 2
noncomputable def szP(p:List Int):Int:=(p.length:Int)-(p.countP λt=>t==2:Nat)
noncomputable def ahead:Option (List Int)->List Int->Bool
 |none,_=>a6
 |some b,p=>decide (szP p<szP b) || (decide (szP p=szP b)&&HT.lexLt p b)
noncomputable def bst(a r:List Int)(m:Nat):Nat->Option (List Int)
 |0=>a7
 |i+1=>if (ahead (bst a r m i) (mkP r i) && !(stD a (mkP r i) m).isNon)=a6 then a3 (mkP r i)else bst a r m i
noncomputable def oP:Option (List Int)->D
 |none=>.non
 |some b=>.tup (b.map D.int)
theorem je3:∀u:Fin 64,∀k:Fin 6,cf ((u.val:Int)/2^k.val) 1=if u.val.testBit k.val=a6 then 1 else 0:=by decide +kernel
theorem Yb(r:List Int)(u:Nat):(mkP r u).length=r.length:=by simp[mkP]
theorem jal{m k u:Nat}:∀t∈mkP (j6 2 m (k:Int)) u,0<=t/\t<3:=λt ht=>by
 unfold mkP at ht;obtain⟨j,hj,e⟩:=xr.mp ht;have hr:=(Yn (Yi (m:=m) (z:=(k:Int))).1).2;split at e
 .rw[<-e];exact hr _ (Cd (X5.mp hj))
 .omega
theorem j1f{a r:List Int}{m:Nat}:∀{i:Nat}{b:List Int},bst a r m i=a3 b->∃u,u<i/\b=mkP r u/\(stD a b m).isNon=a4
 |0,b,h=>by cases h
 |i+1,b,h=>by
  unfold bst at h;split at h
  .rename_i z;cases h;rw[Xg]at z;exact⟨i,T9 _,rfl,by simpa using z.2⟩
  .obtain⟨u,h1,h2⟩:=j1f h;exact⟨u,by omega,h2⟩
theorem Wy:∀{x y z:List Int},HT.lexLt x y=a6->HT.lexLt y z=a6->HT.lexLt x z=a6
 |[],[],_,h,_=>by cases h
 |[],_::_,[],_,h=>by cases h
 |[],_::_,_::_,_,_=>rfl
 |_::_,[],_,h,_=>by cases h
 |_::_,_::_,[],_,h=>by cases h
 |x::xs,y::ys,z::zs,h1,h2=>by
  rw[HT.lexLt_cons]at h1 h2 ⊢;by_cases e1:x=y
  .subst e1;rw[if_pos rfl]at h1;by_cases e2:x=z
   .rw[if_pos e2]at h2 ⊢;exact Wy h1 h2
   .rw[if_neg e2]at h2 ⊢;exact h2
  .rw[if_neg e1]at h1;have h1:x<y:=by simpa using h1
   by_cases e2:y=z
   .subst e2;rw[if_neg e1];simpa using h1
   .rw[if_neg e2]at h2;have h2:y<z:=by simpa using h2
    rw[if_neg nofun];simp;omega
theorem j2r:∀x:List Int,HT.lexLt x x=a4
 |[]=>rfl
 |x::xs=>by rw[HT.lexLt_cons,if_pos rfl];exact j2r xs
def lt(x y:List Int):Prop:=szP x<szP y\/(szP x=szP y/\HT.lexLt x y=a6)
theorem j1j{b p:List Int}:ahead (a3 b) p=a6↔lt p b:=by unfold ahead lt;simp
theorem j63{x y z:List Int}(h1:lt x y)(h2:lt y z):lt x z:=by
 unfold lt at *;rcases h1 with h1|⟨h1,l1⟩<;>rcases h2 with h2|⟨h2,l2⟩
 .exact .inl nofun
 .exact .inl nofun
 .exact .inl nofun
 .exact .inr ⟨by omega,Wy l1 l2⟩
noncomputable def zr:List Int->List (List Int)
 |[]=>[[]]
 |t::r=>(zr r).map (t :: ·)++(zr r).map (2 :: ·)
theorem Ci:∀r:List Int,zg (r.map λt=>[t,2])=zr r
 |[]=>rfl
 |t::r=>by rw[Xa,zg,Ci r];simp[zr]
theorem Ou(t:Int)(r:List Int)(u:Nat):mkP (t::r) u=(if u.testBit 0=a6 then t else 2)::mkP r (u/2):=by unfold mkP;rw[X3,Td,Xa,Xe];congr 1;refine Pu λk _=>?_;show(if u.testBit (k+1)=a6 then(t::r).getD (k+1) 0 else 2)=_;rw[Nat.testBit_succ];rfl
theorem Qs:∀{r q:List Int},q∈zr r->∃u,u<2^r.length/\q=mkP r u
 |[],q,h=>⟨0,by simp,by simpa [zr,mkP]using h⟩
 |t::r,q,h=>by
  have p1:2^(t::r).length=2*2^r.length:=by rw[X3,Tv,eA]
  rcases Xy.mp h with h|h
  .obtain⟨q',hq,e⟩:=xr.mp h;obtain⟨u,hu,e'⟩:=Qs hq;refine⟨2*u+1,by omega,?_⟩;rw[Ou,<-e,e',show(2*u+1)/2=u by omega,if_pos (by simp[jQ])]
  .obtain⟨q',hq,e⟩:=xr.mp h;obtain⟨u,hu,e'⟩:=Qs hq;refine⟨2*u,by omega,?_⟩;rw[Ou,<-e,e',show(2*u)/2=u by omega,if_neg (by simp[jQ])]
theorem Yc:∀{r:List Int}{u:Nat},mkP r u∈zr r
 |[],u=>by simp[zr,mkP]
 |t::r,u=>by
  rw[Ou];unfold zr;split
  .exact Xv _ (xr.mpr ⟨_,Yc,rfl⟩)
  .exact Xb _ (xr.mpr ⟨_,Yc,rfl⟩)
theorem W9:∀{r:List Int},(∀t∈r,t<2)->(zr r).Pairwise λx y=>HT.lexLt x y=a6
 |[],_=>by simp[zr]
 |t::r,h=>by
  have ih:=W9 (r:=r) λx hx=>h x (xf _ hx);have cons:∀c:Int,((zr r).map (c :: ·)).Pairwise λx y=>HT.lexLt x y=a6:=λc=>by rw[fG];exact ih.imp λh=>by rw[HT.lexLt_cons,if_pos rfl];exact h
  unfold zr;refine List.pairwise_append.mpr ⟨cons t,cons 2,λx hx y hy=>?_⟩;obtain⟨x',_,rfl⟩:=xr.mp hx;obtain⟨y',_,rfl⟩:=xr.mp hy;have ht:=h t (xq ..);rw[HT.lexLt_cons,if_neg nofun];simpa using ht
theorem j6l{r x y:List Int}(hr:∀t∈r,t<2)(hx:x∈zr r)(hy:y∈zr r)(h:x≠y):lt x y\/lt y x:=by
 unfold lt;by_cases h1:szP x<szP y
 .exact .inl (.inl h1)
 .by_cases h2:szP y<szP x
  .exact .inr (.inl h2)
  .have e:szP x=szP y:=by omega
   have key:HT.lexLt x y=a6\/HT.lexLt y x=a6:=by
    have:=W9 hr;obtain⟨i,hi,ei⟩:=Xw.mp hx;obtain⟨j,hj,ej⟩:=Xw.mp hy;rcases jD i j with c|c|c
    .left;rw[<-ei,<-ej];exact List.pairwise_iff_getElem.mp this i j hi hj c
    .subst c;exact absurd (ei.symm.trans ej) h
    .right;rw[<-ei,<-ej];exact List.pairwise_iff_getElem.mp this j i hj hi c
   exact key.elim (λk=>.inl (.inr ⟨e,k⟩)) λk=>.inr (.inr ⟨e.symm,k⟩)
theorem Rn{a r:List Int}{m:Nat}(hr:∀t∈r,t<2):∀N u:Nat,u<N->(stD a (mkP r u) m).isNon=a4->∃b,bst a r m N=a3 b/\(mkP r u=b\/lt b (mkP r u))
 |0,u,h,_=>by omega
 |N+1,u,h,hs=>by
  have step:bst a r m (N+1)=if (ahead (bst a r m N) (mkP r N) && !(stD a (mkP r N) m).isNon)=a6 then a3 (mkP r N)else bst a r m N:=rfl;rw[step];by_cases e:u=N
  .subst e;cases eb:bst a r m u with
   |none=>exact⟨_,by rw[if_pos (by simp[ahead,hs])],.inl rfl⟩
   |some b =>
    cases ea:ahead (a3 b) (mkP r u) with
    |true=>exact⟨_,by rw[if_pos (by simp[hs])],.inl rfl⟩
    |false =>
     refine⟨b,by rw[if_neg (by simp)],?_⟩;by_cases q:mkP r u=b
     .exact .inl q
     .obtain⟨v,_,ev,_⟩:=j1f eb;rcases j6l hr (Yc (u:=u)) (ev▸Yc (u:=v)) q with z|z
      .rw[j1j.mpr z]at ea;cases ea
      .exact .inr z
  .obtain⟨b,eb,hb⟩:=Rn hr N u nofun hs;rw[eb];by_cases c:(ahead (a3 b) (mkP r N) && !(stD a (mkP r N) m).isNon)=a6
   .rw[if_pos c];rw[Xg]at c;have l:=j1j.mp c.1;refine⟨_,rfl,.inr ?_⟩;rcases hb with hb|hb
    .rw[hb];exact l
    .exact j63 l hb
   .rw[if_neg c];exact⟨b,rfl,hb⟩
theorem j0h{kf:D->Option Int}:∀{l:List D}{b:D}{k:Int},(∀d∈l,∃k,kf d=a3 k)->∃d,Vi kf b k l=a3 d
 |[],b,k,_=>⟨b,rfl⟩
 |x::l,b,k,h=>by
  obtain⟨kx,ex⟩:=h x (xq ..);unfold Vi;rw[ex];dsimp only;split
  .exact j0h λd hd=>h d (xf _ hd)
  .exact j0h λd hd=>h d (xf _ hd)
theorem jcn{kf:D->Option Int}{L:List (List Int)}(hk:∀p∈L,kf (ji p)=a3 (szP p))(hs:L.Pairwise λx y=>HT.lexLt x y=a6){b:List Int}(hb:b∈L)(hl:∀q∈L,q=b\/lt b q):Nf kf (jn L)=a3 (ji b):=by
 have ex:∃d,Nf kf (jn L)=a3 d:=by
  cases L with
  |nil=>cases hb
  |cons x L =>
   show ∃d,(match kf (ji x)with|some k=>Vi kf (ji x) k (jn L)|none=>a7)=a3 d;rw[hk x (xq ..)];exact j0h λd hd=>by obtain⟨p,hp,rfl⟩:=xr.mp hd;exact⟨_,hk p (xf _ hp)⟩
 obtain⟨d,hd⟩:=ex;obtain⟨g,i,hg,hi,fl⟩:=j0i hd;have at_:∀{j:Nat}{e:D},(jn L)[j]?=a3 e->∃q,L[j]?=a3 q/\e=ji q:=λ{j e} h=>by
  unfold jn at h;rw[X6]at h;cases q:L[j]? with
  |none=>rw[q]at h;cases h
  |some q'=>rw[q]at h;cases h;exact⟨q',rfl,rfl⟩
 obtain⟨p,hp,e⟩:=at_ hi;subst e;have gs:∀{j:Nat}{q:List Int},L[j]?=a3 q->g j=szP q:=λ{j q} h=>by have z:=hg j (ji q) (by unfold jn;rw[X6,h];rfl);rw[hk q (Xr h)]at z;exact(aw z).symm
 have ll:(jn L).length=L.length:=by unfold jn;rw[xg]
 by_cases pb:p=b
 .rw[hd,pb]
 exfalso;obtain⟨j,hj,ej⟩:=Xw.mp hb;have hj':L[j]?=a3 b:=by rw[kh hj,ej]
 have hil:=(X8.mp hp).1;have ei:=(X8.mp hp).2;have f1:=fl j nofun
 rw[gs hp,gs hj']at f1;rcases hl p (Xr hp)with z|z
 .exact pb z
 .unfold lt at z;rcases z with z|⟨z,zl⟩
  .omega
  .rcases jD i j with c|c|c
   .have s:=List.pairwise_iff_getElem.mp hs i j hil hj c;rw[ei,ej]at s;have:=Wy zl s;rw[j2r]at this;cases this
   .subst c;rw[hp]at hj';exact pb (aw hj')
   .have:=f1.2 c;omega
theorem By{m k:Nat}:∀t∈j6 2 m (k:Int),t<2:=λt ht=>by
 have h0:=(Yi (m:=m) (z:=(k:Int))).2;have h3:=(Yn (Yi (m:=m) (z:=(k:Int))).1).2 t ht;have:=List.countP_eq_zero.mp h0 t ht;have:t≠2:=by simpa using this
 omega
theorem Va{a:List Int}{m k:Nat}(h01:∀x∈a,x=0\/x=1):∃b,bst a (j6 2 m (k:Int)) m (2^m)=a3 b/\b∈zr (j6 2 m (k:Int))/\(stD a b m).isNon=a4/\∀q∈zr (j6 2 m (k:Int)),(stD a q m).isNon=a4->q=b\/lt b q:=by
 have rl:=jf 2 m (k:Int);have full:j6 2 m (k:Int)∈zr (j6 2 m (k:Int)):=by
  have:∀r:List Int,r∈zr r:=λr=>by
   induction r with
   |nil=>simp[zr]
   |cons t r ih=>exact Xv _ (xr.mpr ⟨r,ih,rfl⟩)
  exact this _
 obtain⟨u,hu,eu⟩:=Qs full;rw[rl]at hu;obtain⟨b,eb,_⟩:=Rn (a:=a) (r:=j6 2 m (k:Int)) (m:=m) By (2^m) u hu (eu▸j1t h01);obtain⟨v,_,ev,es⟩:=j1f eb;refine⟨b,eb,ev▸Yc,es,λq hq hs=>?_⟩;obtain⟨w,hw,ew⟩:=Qs hq;rw[rl]at hw;obtain⟨b',eb',h⟩:=Rn (a:=a) (r:=j6 2 m (k:Int)) (m:=m) By (2^m) w hw (ew▸hs);rw[eb]at eb';cases eb';rw[ew];exact h
theorem Ly{n m k:Nat}{ws:List aj}{a:List Int}(hm:1<=m/\m<=6)(ha:a.length=2^m)(h01:∀x∈a,x=0\/x=1) :
  evP 1000 G T (n+6) "shortest_part" [qD ws a,ji (j6 2 m (k:Int))]=.val (oP (bst a (j6 2 m (k:Int)) m (2^m))):=by
 obtain⟨b,eb,hb,hbs,hbl⟩:=Va (a:=a) (m:=m) (k:=k) h01;have hr:=By (m:=m) (k:=k);have r3:∀u,∀t∈mkP (j6 2 m (k:Int)) u,0<=t/\t<3:=λu=>jal;rw[eb];have rl:=jf 2 m (k:Int);generalize j6 2 m (k:Int)=r at *;rw[jt (F:=Zf) (by rfl) rfl];simp only[Zf,Q7,enter];have ch:=Zu (fu:=1000) (G:=G) (n:=n+4) W8 (fs:=r.map λt=>[t,2]) (λf hf=>by obtain⟨t,_,rfl⟩:=xr.mp hf;simp) (by rw[xg];omega);rw[Q6,Ci]at ch;have fl:(zr r).length<=64:=by
  have:∀r:List Int,(zr r).length=2^r.length:=λr=>by
   induction r with
   |nil=>rfl
   |cons t r ih=>simp[zr,ih,Tv];omega
  rw[this,rl];have:m=0\/m=1\/m=2\/m=3\/m=4\/m=5\/m=6:=by omega
  rcases this with rfl|rfl|rfl|rfl|rfl|rfl|rfl<;>decide
 ext;simp only[ji];ext;rw[jw (l:=jn (r.map λt=>[t,2])) (by rfl) (by rw[xg];omega) ?_ (.inl rfl)];rotate_left
 .unfold jn;rw[Xe];refine qb λt ht=>z9 (by ext) ?_;ext;simp only[gN];ext;rfl
 ext;rw[ch];ext;simp only[jdg];ext;rw[jw (l:=jn ((zr r).filter λp=>!(stD a p m).isNon)) (by rfl) (by unfold jn;rw[xg];omega) ?_ (.inr (O4 _))];rotate_left
 .unfold jn;refine Qd λp hp=>?_;obtain⟨u,_,eu⟩:=Qs hp;have st:=Lr (n:=n) (ws:=ws) hm ha (p:=p) (by rw[eu,Yb,rl]) (eu▸r3 u);refine Zz ?_ λ_=>?_
  .ext;simp only[qD];ext;rw[st];ext;rfl
  .ext
 ext;have mk:M8 (evP 1000 G T (n+5)) "size_of" (a3 (.v (.o (jn ((zr r).filter λp=>!(stD a p m).isNon)))))=a3 (.v (.t (ji b))):=by
  unfold M8;simp only[Rk.d];rw[jcn (L:=(zr r).filter λp=>!(stD a p m).isNon) (b:=b) (λp hp=>?_) ((W9 hr).filter _) (Xh.mpr ⟨hb,by simp[hbs]⟩) (λq hq=>?_)]
  .rfl
  .obtain⟨u,_,eu⟩:=Qs (Xh.mp hp).1;rw[Lq (n:=n+4) (p:=p) (by rw[eu,Yb,rl];exact hm.2)];rfl
  .obtain⟨h1,h2⟩:=Xh.mp hq;exact hbl q h1 (by simpa using h2)
 rw[mk];ext;rfl
theorem jk6:T "_law_same" = a3 KL.fL_same:=by rfl
def Mo(p r q:List Int):Prop:=q.length=p.length/\∀j,j<p.length->(p.getD j 0≠2->q.getD j 0=p.getD j 0)/\(p.getD j 0=2->q.getD j 0=2\/q.getD j 0=r.getD j 0)
noncomputable def dfn(m:Nat)(p q:List Int):Nat:=(ax m).countP λj=>decide (p.getD j 0=2/\q.getD j 0≠2)
theorem Nz{A B C:Nat->Bool}:∀{l:List Nat},(∀j∈l,(if A j=a6 then 1 else 0)=(if B j=a6 then 1 else 0)+(if C j=a6 then 1 else 0))->l.countP A=l.countP B+l.countP C
 |[],_=>rfl
 |x::l,h=>by have h0:=h x xq;rw[Xq,Xq,Xq,Nz λj hj=>h j (xf _ hj),h0];omega
theorem Kg{A B:Nat->Bool}:∀{l:List Nat},(∀j∈l,A j=a6->B j=a6)->l.countP A<=l.countP B/\((∃j∈l,A j=a4/\B j=a6)->l.countP A<l.countP B)
 |[],_=>⟨xx _,λ⟨_,h,_⟩=>nomatch h⟩
 |x::l,h=>by
  obtain⟨i1,i2⟩:=Kg (A:=A) (B:=B) (l:=l) λj hj=>h j (xf _ hj);have h0:=h x xq;rw[Xq,Xq];refine⟨?_,λ⟨j,hj,a,b⟩=>?_⟩
  .cases e:A x with
   |false=>simp;omega
   |true=>rw[h0 e];simp;omega
  .rcases xn.mp hj with z|z
   .rw[<-z,a,b];simp;omega
   .have:=i2 ⟨j,z,a,b⟩;cases e:A x with
    |false=>simp;omega
    |true=>rw[h0 e];simp;omega
theorem Rw{m:Nat}{p r q:List Int}(hp:p.length=m)(h:Mo p r q):szP q=szP p+(dfn m p q:Int):=by
 have hq:q.length=m:=by rw[h.1,hp]
 have op:=Oq p;have oq:=Oq q;have e:(ax m).countP (λk=>decide (p.getD k 0=2))=(ax m).countP (λk=>decide (q.getD k 0=2))+dfn m p q:=by
  unfold dfn;refine Nz λj hj=>?_;obtain⟨h1,h2⟩:=h.2 j (by rw[hp];exact X5.mp hj);by_cases z:p.getD j 0=2
  .by_cases y:q.getD j 0=2<;>simp only[z,y,decide_true,decide_false,if_true,true_and,ne_eq,not_true,not_false_eq_true,Xp,if_false]
  .have e:=h1 z;have y:¬q.getD j 0=2:=by rw[e];exact z
   simp only[z,y,decide_false,Xp,if_false,false_and]
 unfold ql at op oq;rw[<-Tq,hp]at op;rw[<-Tq,hq]at oq;unfold szP;rw[hp,hq,<-op,<-oq];omega
section
variable{a:List Int}{m:Nat}
theorem both{p:List Int}(h:opB a m p=a6):(∃k:Nat,k<2^m/\fits p (j6 2 m (k:Int))=a6/\a.getD k 0=0)/\∃k:Nat,k<2^m/\fits p (j6 2 m (k:Int))=a6/\a.getD k 0=1:=by
 unfold opB stD j01 at h;split at h
 .cases h
 .split at h
  .cases h
  .rename_i h1 h0;exact⟨Ff h0,Ff h1⟩
theorem jbf(h01:∀x∈a,x=0\/x=1){p q:List Int}(hc:opB a m p=a4)(h:∀k:Nat,k<2^m->fits q (j6 2 m (k:Int))=a6->fits p (j6 2 m (k:Int))=a6):opB a m q=a4:=by
 cases ho:opB a m q with
 |false=>rfl
 |true =>obtain⟨⟨k,k1,k2,k3⟩,⟨l,l1,l2,l3⟩⟩:=both ho;have e1:=Y8 h01 hc k1 (h k k1 k2);have e2:=Y8 h01 hc l1 (h l l1 l2);rw[e1,k3]at e2;rw[l3]at e2;cases e2
theorem low(h01:∀x∈a,x=0\/x=1){r:List Int}(hr:r.length=m)(r01:∀t∈r,t=0\/t=1):∀p,p.length=m->(∀t∈p,0<=t/\t<3)->fits p r=a6->∃q,Mo p r q/\opB a m q=a4/\szP q<=szP p+Rp 1 a m p:=by
 refine ji0 λp hp h3 ih hf=>?_;cases ho:opB a m p with
 |false=>exact⟨p,⟨rfl,λj _=>⟨λ_=>rfl,λz=>.inl z⟩⟩,ho,by rw[Vs ho];omega⟩
 |true =>
  obtain⟨S,hS,e⟩:=jkm (xx 1) h01 hp h3 ho;have hS':=hS;rw[j2f]at hS';obtain⟨s,hs,rfl⟩:=xr.mp hS';obtain⟨s1,s2⟩:=Ym hs;have rs:r.getD s 0∈r:=by rw[kj,kh nofun];exact Xm _
  have c01:=r01 _ rs;have hq:p.set s (r.getD s 0)∈seL p [s]:=by show _∈[p.set s 0,p.set s 1];rcases c01 with z|z<;>rw[z]<;>simp
  obtain⟨q1,q2,q3⟩:=jj6 hp h3 hS hq;have f':fits (p.set s (r.getD s 0)) r=a6:=by rw[j0t (by rw[hp,hr]) nofun s2 nofun,hf];simp
  obtain⟨t,⟨m1,m2⟩,m3,m4⟩:=ih _ q1 q2 q3 f';have cs:((p.set s (r.getD s 0)).countP λt=>t==2)+1=p.countP λt=>t==2:=j6s nofun s2 c01;have le:=Dy (f:=Rp 1 a m) hq;refine⟨t,⟨by rw[m1,Ph],λj hj=>?_⟩,m3,?_⟩
  .have b:=m2 j (by rw[Ph];exact hj);rw[V5 nofun]at b;by_cases z:s=j
   .rw[if_pos z]at b;subst z;exact⟨λy=>absurd s2 y,λ_=>.inr (b.1 nofun)⟩
   .rw[if_neg z]at b;exact b
  .have e1:szP (p.set s (r.getD s 0))=szP p+1:=by unfold szP;rw[Ph];have:((p.set s (r.getD s 0)).countP λt=>t==2)+1=p.countP λt=>t==2:=cs;omega
   omega
def CB(a:List Int)(m:Nat)(p:List Int)(v:Int)(c:Nat):Prop:=∀k:Nat,k<2^m->fits p (j6 2 m (k:Int))=a6->a.getD k 0=v->∃q,Mo p (j6 2 m (k:Int)) q/\opB a m q=a4/\szP q<=szP p+c
noncomputable def mgL(m:Nat)(q t:List Int):List Int:=(ax m).map λj=>if q.getD j 0=2 then t.getD j 0 else q.getD j 0
theorem j0j{q t:List Int}{j:Nat}(h:j<m):(mgL m q t).getD j 0=if q.getD j 0=2 then t.getD j 0 else q.getD j 0:=by unfold mgL;rw[kj,X6,T3 h];rfl
theorem j60{q t:List Int}:(mgL m q t).length=m:=by unfold mgL;rw[xg,Pa]
theorem Vj{p:List Int}{k:Nat}(hp:p.length=m):fits p (j6 2 m (k:Int))=a6 ↔ ∀j,j<m->p.getD j 0=2\/p.getD j 0=(j6 2 m (k:Int)).getD j 0:=by rw[Ba (by rw[hp,jf]),hp]
theorem further(h01:∀x∈a,x=0\/x=1){p q t:List Int}{S:List Nat}{k:Nat}(hp:p.length=m)(hS:∀s∈S,s<p.length/\p.getD s 0=2)(hb:Beh p S q)(hf:fits q (j6 2 m (k:Int))=a6)(hk:k<2^m)
  (hM:Mo p (j6 2 m (k:Int)) t) (hc:opB a m t=a4):Mo q (j6 2 m (k:Int)) (mgL m q t)/\opB a m (mgL m q t)=a4/\dfn m q (mgL m q t)<=dfn m p t/\((∃j∈S,t.getD j 0≠2)->dfn m q (mgL m q t)<dfn m p t):=by
 have hq:q.length=m:=by rw[hb.1,hp]
 have ht:t.length=m:=by rw[hM.1,hp]
 have out:∀j,j<m->q.getD j 0=2->p.getD j 0=2:=λj hj z=>by
  by_cases y:j∈S
  .exact(hS j y).2
  .rw[<-(hb.2 j nofun).2 y];exact z
 have cp:=Kg (l:=ax m) (A:=λj=>decide (q.getD j 0=2/\(mgL m q t).getD j 0≠2)) (B:=λj=>decide (p.getD j 0=2/\t.getD j 0≠2)) λj hj hA=>by have hj:=X5.mp hj;obtain⟨z1,z2⟩:=of_decide_eq_true hA;rw[j0j hj,if_pos z1]at z2;exact decide_eq_true ⟨out j hj z1,z2⟩
 refine⟨⟨by rw[j60,hq],λj hj=>?_⟩,?_,cp.1,λ⟨j,hj,tj⟩=>cp.2 ⟨j,X5.mpr (by have:=(hS j hj).1;omega),?_,decide_eq_true ⟨(hS j hj).2,tj⟩⟩⟩
 .rw[hq]at hj;rw[j0j hj];refine⟨λz=>by rw[if_neg z],λz=>?_⟩;rw[if_pos z];exact(hM.2 j nofun).2 (out j hj z)
 .refine jbf h01 hc λw hw hfw=>?_;rw[Vj j60]at hfw;rw[Vj ht];intro j hj;have g:=hfw j hj;rw[j0j hj]at g;by_cases z:q.getD j 0=2
  .rw[if_pos z]at g;exact g
  .rw[if_neg z]at g;by_cases y:t.getD j 0=2
   .exact .inl y
   .right
    have gq:=(Vj hq).mp hf j hj;have e1:=gq.resolve_left z;have e2:=g.resolve_left z;by_cases x:p.getD j 0=2
    .have e3:=((hM.2 j nofun).2 x).resolve_left y;rw[e3,<-e1,e2]
    .have e3:=(hM.2 j nofun).1 x;have nS:j∉S:=λh=>x (hS j h).2;rw[e3,<-(hb.2 j nofun).2 nS,e2]
 .have b:=(hb.2 j (hS j hj).1).1 hj;exact decide_eq_false λ⟨z,_⟩=>by omega
theorem clash(h01:∀x∈a,x=0\/x=1){t u:List Int}{k l:Nat}(ht:t.length=m)(hu:u.length=m)(t3:∀x∈t,0<=x/\x<3)(u3:∀x∈u,0<=x/\x<3)(ct:opB a m t=a4)(cu:opB a m u=a4)(hk:k<2^m)(hl:l<2^m)(fk:fits t (j6 2 m (k:Int))=a6)(fl:fits u (j6 2 m (l:Int))=a6)
  (ak:a.getD k 0=0) (al:a.getD l 0=1):∃j,j<m/\t.getD j 0≠2/\u.getD j 0≠2/\t.getD j 0≠u.getD j 0:=by
 refine bU λhn=>?_;have hn:∀j,j<m->t.getD j 0=2\/u.getD j 0=2\/t.getD j 0=u.getD j 0:=λj hj=>by
  by_cases h1:t.getD j 0=2
  .exact .inl h1
  .by_cases h2:u.getD j 0=2
   .exact .inr (.inl h2)
   .by_cases h3:t.getD j 0=u.getD j 0
    .exact .inr (.inr h3)
    .exact absurd ⟨j,hj,h1,h2,h3⟩ hn
 let w:List Int:=(ax m).map λj=>if t.getD j 0≠2 then t.getD j 0 else if u.getD j 0≠2 then u.getD j 0 else 0
 have wl:w.length=m:=by simp[w]
 have wg:∀j,j<m->w.getD j 0=if t.getD j 0≠2 then t.getD j 0 else if u.getD j 0≠2 then u.getD j 0 else 0:=λj hj=>by rw[kj,X6,T3 hj];rfl
 have mem:∀{v:List Int}{j:Nat},v.length=m->j<m->v.getD j 0∈v:=λ{v j} hv hj=>by rw[kj,kh nofun];exact Xm _
 have w3:∀x∈w,0<=x/\x<2:=λx hx=>by
  obtain⟨j,hj,e⟩:=Xw.mp hx;have e':w.getD j 0=x:=by rw[kj,kh hj,e];rfl
  rw[wl]at hj;rw[<-e',wg j hj];have q1:=t3 _ (mem ht hj);have q2:=u3 _ (mem hu hj);split
  .omega
  .split
   .omega
   .omega
 obtain⟨i,hi,e,_⟩:=Ek (m:=m) (p:=w) wl (λx hx=>by have:=w3 x hx;omega) (List.countP_eq_zero.mpr λx hx=>by have:=w3 x hx;simp;omega);have ft:fits t (j6 2 m (i:Int))=a6:=(Vj ht).mpr λj hj=>by
  rw[<-e,wg j hj];by_cases h1:t.getD j 0=2
  .exact .inl h1
  .right;rw[if_pos h1]
 have fu:fits u (j6 2 m (i:Int))=a6:=(Vj hu).mpr λj hj=>by
  rw[<-e,wg j hj];by_cases h2:u.getD j 0=2
  .exact .inl h2
  .right
   by_cases h1:t.getD j 0=2
   .rw[if_neg (λz=>z h1),if_pos h2]
   .rw[if_pos h1];rcases hn j hj with z|z|z
    .exact absurd z h1
    .exact absurd z h2
    .exact z.symm
 have v1:=Y8 h01 ct hk fk;have v2:=Y8 h01 ct hi ft;have v3:=Y8 h01 cu hl fl;have v4:=Y8 h01 cu hi fu;rw[v1,ak]at v2;rw[v3,al]at v4;omega
theorem j5x{p r q:List Int}(hp:p.length=m)(hr:r.length=m)(p3:∀x∈p,0<=x/\x<3)(r3:∀x∈r,x=0\/x=1)(h:Mo p r q):∀x∈q,0<=x/\x<3:=λx hx=>by
 obtain⟨j,hj,e⟩:=Xw.mp hx;have e':q.getD j 0=x:=by rw[kj,kh hj,e];rfl
 have hj':j<p.length:=by rw[<-h.1];exact hj
 rw[<-e'];obtain⟨h1,h2⟩:=h.2 j hj';by_cases z:p.getD j 0=2
 .rcases h2 z with y|y
  .omega
  .have:=r3 (r.getD j 0) (by rw[kj,kh nofun];exact Xm _);omega
 .rw[h1 z];exact p3 _ (by rw[kj,kh hj'];exact Xm _)
theorem j3p{k:Nat}:∀x∈j6 2 m (k:Int),x=0\/x=1:=λx hx=>by have:=By x hx;have:=(Yn (Yi (m:=m) (z:=(k:Int))).1).2 x hx;omega
theorem j2p{p q:List Int}{k:Nat}(hp:p.length=m)(hf:fits p (j6 2 m (k:Int))=a6)(h:Mo p (j6 2 m (k:Int)) q):fits q (j6 2 m (k:Int))=a6:=(Vj (by rw[h.1,hp])).mpr λj hj=>by
 obtain⟨h1,h2⟩:=h.2 j nofun
 by_cases z:p.getD j 0=2
 .exact h2 z
 .rw[h1 z];exact(Vj hp).mp hf j hj
theorem up(h01:∀x∈a,x=0\/x=1)(c1:Nat):∀(c0:Nat)(p:List Int),p.length=m->(∀t∈p,0<=t/\t<3)->CB a m p 0 c0->CB a m p 1 c1->Rp 1 a m p<=c0*c1
 |0,p,hp,h3,h0,_=>by
  cases ho:opB a m p with
  |false=>rw[Vs ho];simp
  |true =>
   exfalso;obtain⟨⟨k,k1,k2,k3⟩,_⟩:=both ho;obtain⟨q,m1,m2,m3⟩:=h0 k k1 k2 k3;have z:=Rw hp m1;have d0:dfn m p q=0:=by omega
   have e:q=p:=j0v m1.1 λj hj=>by
    obtain⟨g1,g2⟩:=m1.2 j hj;by_cases y:p.getD j 0=2
    .have:=List.countP_eq_zero.mp d0 j (X5.mpr nofun);have:¬(p.getD j 0=2/\q.getD j 0≠2):=by simpa using this
     rw[y];exact bU λw=>this ⟨y,w⟩
    .exact g1 y
   rw[e,ho]at m2;cases m2
 |c0+1,p,hp,h3,h0,h1=>by
  cases ho:opB a m p with
  |false=>rw[Vs ho];exact ko nofun nofun
  |true =>
   obtain⟨_,⟨l,l1,l2,l3⟩⟩:=both ho;obtain⟨u,u1,u2,u4⟩:=h1 l l1 l2 l3;have zu:=Rw hp u1;have ul:u.length=m:=by rw[u1.1,hp]
   let S:List Nat:=(ax m).filter λj=>decide (p.getD j 0=2/\u.getD j 0≠2)
   have Sl:S.length=dfn m p u:=by simp only[S];rw[<-Tq];rfl
   have Sm:∀{s:Nat},s∈S->s<m/\p.getD s 0=2/\u.getD s 0≠2:=λ{s} hs=>by obtain⟨g1,g2⟩:=Xh.mp hs;exact⟨X5.mp g1,of_decide_eq_true g2⟩
   have hS:∀s∈S,s<p.length/\p.getD s 0=2:=λs hs=>⟨by rw[hp];exact(Sm hs).1,(Sm hs).2.1⟩
   have ch:=Kv (a:=a) ((c0:Int)*c1) (ko nofun nofun) S p hp h3 (List.filter_sublist.nodup jE) (λs hs=>Xh.mpr ⟨X5.mpr (Sm hs).1,decide_eq_true (Sm hs).2.1⟩) (λq hb=>?_)
   .have:(S.length:Int)<=c1:=by omega
    rw[show((c0+1:Nat):Int)=(c0:Int)+1 by omega,lO,dG];omega
   .have hq:q.length=m:=by rw[hb.1,hp]
    have fp:∀{k:Nat},fits q (j6 2 m (k:Int))=a6->fits p (j6 2 m (k:Int))=a6:=λ{k} hf=>(Vj hp).mpr λj hj=>by
     by_cases y:j∈S
     .exact .inl (hS j y).2
     .rw[<-(hb.2 j nofun).2 y];exact(Vj hq).mp hf j hj
    refine up h01 c1 c0 q hq (Ms hb h3) (λk k1 k2 k3=>?_) λk k1 k2 k3=>?_
    .obtain⟨t,t1,t2,t4⟩:=h0 k k1 (fp k2) k3;obtain⟨f1,f2,_,f4⟩:=further h01 hp hS hb k2 k1 t1 t2;have zt:=Rw hp t1;have zf:=Rw hq f1;obtain⟨j,j1,j2,j3,j4⟩:=clash h01 (by rw[t1.1,hp]) ul (j5x hp (jf ..) h3 j3p t1) (j5x hp (jf ..) h3 j3p u1) t2 u2 k1 l1 (j2p hp (fp k2) t1) (j2p hp l2 u1) k3 l3;have pj:p.getD j 0=2:=bU λw=>j4 (by rw[(t1.2 j nofun).1 w,(u1.2 j nofun).1 w]);have lt:=f4 ⟨j,Xh.mpr ⟨X5.mpr j1,decide_eq_true ⟨pj,j3⟩⟩,j2⟩;exact⟨_,f1,f2,by omega⟩
    .obtain⟨t,t1,t2,t4⟩:=h1 k k1 (fp k2) k3;obtain⟨f1,f2,f3,_⟩:=further h01 hp hS hb k2 k1 t1 t2;have zt:=Rw hp t1;have zf:=Rw hq f1;exact⟨_,f1,f2,by omega⟩
end
noncomputable def cz(a:List Int)(m k:Nat):Int:=match bst a (j6 2 m (k:Int)) m (2^m) with
 |some b=>szP b
 |none=>0
noncomputable def lw(a r:List Int)(m:Nat):Nat->Int
 |0=>m
 |i+1=>if szP (mkP r i)<lw a r m i/\(stD a (mkP r i) m).isNon=a4 then szP (mkP r i)else lw a r m i
theorem Br(p:List Int):0<=szP p/\szP p<=p.length:=by unfold szP;have:=List.countP_le_length (p:=λt:Int=>t==2) (l:=p);omega
theorem jam{a r:List Int}{m:Nat}:∀N:Nat,(lw a r m N=m\/∃u,u<N/\(stD a (mkP r u) m).isNon=a4/\lw a r m N=szP (mkP r u))/\∀u,u<N->(stD a (mkP r u) m).isNon=a4->lw a r m N<=szP (mkP r u)
 |0=>⟨.inl rfl,λu h=>absurd h (gd _)⟩
 |N+1=>by
  obtain⟨h1,h2⟩:=jam (a:=a) (r:=r) (m:=m) N;rw[lw];split
  .rename_i h;refine⟨.inr ⟨N,by omega,h.2,rfl⟩,λu hu hc=>?_⟩;by_cases e:u=N
   .rw[e];exact t6 _
   .have:=h2 u nofun hc;omega
  .rename_i h;refine⟨h1.elim .inl λ⟨u,q1,q2,q3⟩=>.inr ⟨u,by omega,q2,q3⟩,λu hu hc=>?_⟩;by_cases e:u=N
   .rw[e]at hc ⊢;exact bU λw=>h ⟨by omega,hc⟩
   .exact h2 u nofun hc
theorem jjo{a:List Int}{m k:Nat}(h01:∀x∈a,x=0\/x=1):lw a (j6 2 m (k:Int)) m (2^m)=cz a m k:=by
 obtain⟨b,eb,hb,hc,hl⟩:=Va (a:=a) (m:=m) (k:=k) h01;obtain⟨h1,h2⟩:=jam (a:=a) (r:=j6 2 m (k:Int)) (m:=m) (2^m);obtain⟨u,hu,e⟩:=Qs hb;have rl:=jf 2 m (k:Int);rw[rl]at hu;have le:=h2 u hu (e▸hc);rw[<-e]at le;have ez:cz a m k=szP b:=by unfold cz;rw[eb]
 rw[ez];have bl:b.length=m:=by rw[e,Yb,rl]
 have bb:=(Br b).2;rcases h1 with z|⟨v,v1,v2,v3⟩
 .omega
 .rcases hl _ (Yc (u:=v)) v2 with z|z
  .rw[v3,z]
  .unfold lt at z;rcases z with z|z<;>omega
theorem j1y{n m k:Nat}{a:List Int}(hm:1<=m/\m<=6)(ha:a.length=2^m)(h01:∀x∈a,x=0\/x=1) :
  evP 1000 G T (n+3) "_law_fewest" [.tup (a.map D.int),ji (j6 2 m (k:Int))]=.val (.int (cz a m k)):=by
 rw[<-jjo h01];obtain⟨r,er⟩:∃r,r=j6 2 m (k:Int):=⟨_,rfl⟩
 have rl:r.length=m:=by rw[er,jf]
 have r3:∀u,∀t∈mkP r u,0<=t/\t<3:=λu=>er▸jal;rw[<-er];rw[jt (F:=Ra) (by rfl) rfl];simp only[Ra,Uc,enter];have p2:=j3r hm.2;have pc:((2^m:Nat):Int)=(2:Int)^m:=by simp
 have e3:(1*2^m:Int).toNat=2^m:=by rw[dG,<-pc];exact Xc _
 ext;simp only[ji];ext;erw[rl,Xc];rw[e3];refine W0 (λi ρ=>∃s4 s5,ρ=[.val (.tup (a.map D.int)),.val (.tup (r.map D.int)),.val (.int m),.val (.int (lw a r m i)),s4,s5,.un]) ⟨.un,.un,rfl⟩ ?_ ?_
 .rintro i d ρ hi ⟨s4,s5,rfl⟩;obtain⟨hlt,rfl⟩:=Yh hi;have ei:(0+(i:Int))=(i:Int):=by omega
  rw[ei];have pl:=Yb r i;have one:=Dn (n:=n) hm ha h01 (p:=mkP r i) (by rw[pl,rl]) (r3 i);have comp:vz (Jw [6] (ev (evP 1000 G T (n+2)) G .nil) (ev (evP 1000 G T (n+2)) G (.ix (.lst (.cons (.lit (.int 2)) (.cons (.ix (.var 1) (.var 6)) .nil))) (.bin .band (.bin .shr (.var 4) (.var 6)) (.lit (.int 1)))))
    [.val (.tup (a.map D.int)),.val (.tup (r.map D.int)),.val (.int m),.val (.int (lw a r m i)),.val (.int (i:Int)),s5,.un]) (upto 0 m)=a3 ((mkP r i).map D.int):=by
   rw[Jv];unfold mkP;rw[rl,Xe];refine qb λk hk=>z9 (by ext) ?_;have hk':k<m:=X5.mp hk;have g1:=Uv (p:=r) (k:=k) nofun
   have bt:=je3 ⟨i,by omega⟩ ⟨k,by omega⟩;have ek:(0+(k:Int)).toNat=k:=by omega
   ext;simp only[g1,jki,ek];ext;rw[show cf ((i:Int)/2^k) 1=if i.testBit k=a6 then 1 else 0 from bt];show _=a3 (W.v (Rk.e (D.int (if i.testBit k=a6 then r.getD k 0 else 2))));cases i.testBit k<;>rfl
  have dp:D.depL ((mkP r i).map D.int)<=90:=by rw[Kf];omega
  have szp:szP (mkP r i)=(m:Int)-((mkP r i).countP λt=>t==2:Nat):=by unfold szP;rw[pl,rl]
  have one':evP 1000 G T (n+2) "_law_one_answer" [.tup (a.map D.int),.tup ((mkP r i).map D.int)]=.val (.bl (!(stD a (mkP r i) m).isNon)):=one;have step:lw a r m (i+1)=if szP (mkP r i)<lw a r m i/\(stD a (mkP r i) m).isNon=a4 then szP (mkP r i)else lw a r m i:=rfl;simp only[Qe];ext;rw[Xc,jw (l:=_) (by rfl) (by rw[jj];omega) comp (.inl rfl)];ext;rw[Cp dp (by simp[D.dep]),We];ext;rw[step,szp];by_cases c:(m:Int)-((mkP r i).countP λt=>t==2:Nat)<lw a r m i
  .ext;rw[one'];cases es:(stD a (mkP r i) m).isNon with
   |true =>ext;rw[if_neg (λz=>by cases z.2)];exact⟨_,rfl,_,_,rfl⟩
   |false =>ext;rw[Cp dp (by simp[D.dep]),We];ext;rw[if_pos ⟨c,trivial⟩];exact⟨_,rfl,_,_,rfl⟩
  .ext;rw[if_neg (λz=>c z.1)];exact⟨_,rfl,_,_,rfl⟩
 .rintro ρ' ⟨s4,s5,rfl⟩;rw[jj];ext
noncomputable def szL(a:List Int)(m:Nat)(v:Int)(N:Nat):List Int:=((ax N).filter λ(k:Nat)=>decide (a.getD k 0=v)).map (cz a m)
theorem j4b{a:List Int}{m k:Nat}:0<=cz a m k:=by
 unfold cz;split
 .exact(Br _).1
 .exact t6 _
theorem K8{l:List Int}{x:Int}(hl:∀y∈l,0<=y)(hx:0<=x):jg (l++[x])=if x>jg l then x else jg l:=by
 cases l with
 |nil =>show x=if x>0 then x else 0;split<;>omega
 |cons y l =>
  obtain⟨h1,h2⟩:=V4 (ns:=y::l) (by simp);refine Ds ?_ λb hb=>?_
  .split
   .simp
   .exact Xv _ h1
  .rcases Xy.mp hb with z|z
   .have:=h2 b z;split<;>omega
   .rw[xj.mp z];split<;>omega
theorem El{a:List Int}{m N:Nat}{v:Int}:∀y∈szL a m v N,0<=y:=λy hy=>by obtain⟨k,_,rfl⟩:=xr.mp hy;exact j4b
theorem j4v{a:List Int}{m N:Nat}{v:Int}(h:a.getD N 0=v):szL a m v (N+1)=szL a m v N++[cz a m N]:=by unfold szL;rw[jR,cB,Pq];rw[show[N].filter (λ(k:Nat)=>decide (a.getD k 0=v))=[N]from cF (decide_eq_true h)];rfl
theorem j2b{a:List Int}{m N:Nat}{v:Int}(h:¬a.getD N 0=v):szL a m v (N+1)=szL a m v N:=by unfold szL;rw[jR,cB];rw[show[N].filter (λ(k:Nat)=>decide (a.getD k 0=v))=[]from dP λz=>h (of_decide_eq_true z),Xu]
theorem gF:G "FEWEST_PLACES" = a3 (.int 1):=by rfl
theorem gM:G "MOST_PLACES" = a3 (.int 6):=by rfl
theorem j57 {fu n:Nat} {m:Int} (h:1<=m/\m<=6):evP fu G T (n+1) "refuse_wrong_size" [.int m]=.val .non:=by rw[jt (F:=Q4) (by rfl) rfl];simp only[Q4,J1,enter];ext;simp only[gF];ext;simp only[gM];ext
theorem jbw {fu n m:Nat} (h:1<=m/\m<=6):evP fu G T (n+2) "rows_of" [.int m]=.fresh (jn (Jx m)):=by
 rw[jt (F:=Wb) (by rfl) rfl];simp only[Wb,Y6,enter];ext;rw[j57 (n:=n) nofun];ext;simp only[gA];have hrep:(ae (m:Int).toNat [D.tup [.int 0,.int 1]]).flatten=jn (ae m [0,1]):=by
  rw[Xc];have:∀k:Nat,(ae k [D.tup [.int 0,.int 1]]).flatten=jn (ae k [0,1]):=by
   intro k;induction k with
   |zero=>rfl
   |succ k ih=>rw[pq,Tc,ih];rfl
  exact this m
 ext;rw[hrep,Zu W8 (λf hf=>by rw[(Tt.mp hf).2];decide) (by rw[ph];omega)];ext;have hc:qp (ae m [0,1])=Jx m:=by
  rw[Q6];have:∀k:Nat,zg (ae k [0,1])=Jx k:=by
   intro k;induction k with
   |zero=>rfl
   |succ k ih=>rw[pq,zg,ih,Jx];simp
  exact this m
 rw[hc]
theorem Ov:∀{l:List (List Int)} {q:List Int},q∈zg l↔q.length=l.length/\∀j,j<l.length->q.getD j 0∈l.getD j []
 |[],q=>by rw[zg,xj];exact⟨λe=>by rw[e];exact⟨rfl,λj h=>absurd h (gd _)⟩,λh=>List.length_eq_zero_iff.mp h.1⟩
 |f::l,q=>by
  rw[zg,jF];constructor
  .rintro⟨x,hx,h⟩;obtain⟨r,hr,rfl⟩:=xr.mp h;obtain⟨h1,h2⟩:=Ov.mp hr;refine⟨by rw[X3,X3,h1],λj hj=>?_⟩;cases j with
   |zero=>simpa using hx
   |succ j=>have:=h2 j (by rw[X3]at hj;omega);simpa using this
  .rintro⟨h1,h2⟩;cases q with
   |nil=>cases h1
   |cons x r =>refine⟨x,by have:=h2 0 (by simp);simpa using this,xr.mpr ⟨r,Ov.mpr ⟨by simpa using h1,λj hj=>?_⟩,rfl⟩⟩;have:=h2 (j+1) (by rw[X3];omega);simpa using this
theorem j1r{n m k:Nat}{ws:List aj}{a:List Int}(hm:1<=m/\m<=6)(ha:a.length=2^m)(h01:∀x∈a,x=0\/x=1) :
  ∃b,evP 1000 G T (n+6) "shortest_part" [qD ws a,ji (j6 2 m (k:Int))]=.val (ji b)/\evP 1000 G T (n+6) "size_of" [ji b]=.val (.int (cz a m k)):=by
 obtain⟨b,eb,hb,hc,hl⟩:=Va (a:=a) (m:=m) (k:=k) h01;obtain⟨u,hu,e⟩:=Qs hb;have bl:b.length=m:=by rw[e,Yb,jf]
 refine⟨b,?_,?_⟩
 .rw[Ly (n:=n) hm ha h01,eb];rfl
 .rw[Lq (n:=n+5) nofun];unfold cz;rw[eb];rfl
theorem Vu{n m:Nat}{ws:List aj}{a:List Int}{v:Int}(hw:ws.length=m)(hm:1<=m/\m<=6)(ha:a.length=2^m)(h01:∀x∈a,x=0\/x=1) :
  evP 1000 G T (n+7) "greatest_size" [qD ws a,.int v]=.val (.int (jg (szL a m v (2^m)))):=by
 have rok:evP 1000 G T (n+6) "rows_of" [.int m]=.fresh (jn (Jx m)):=jbw (n:=n+4) hm;have p2:=cT (show 0<2 by decide) hm.2;have fl:=Th (λ(k:Nat)=>decide (a.getD k 0=v)) (ax (2^m));rw[Pa]at fl;rw[jt (F:=Zh) (by rfl) rfl];simp only[Zh,Q9,enter];erw[show qD ws a=.tup [.tup (ws.map D.str),.tup (a.map D.int)]from rfl,at0];rw[hw,rok];ext;rw[jw (l:=((ax (2^m)).filter λ(k:Nat)=>decide (a.getD k 0=v)).map λ(k:Nat)=>ji (j6 2 m (k:Int))) (by rfl) (by rw[jn,xg,Wt];omega) ?_ (.inl rfl)];rotate_left
 .rw[jn,<-Oi,Xe];refine Qd λk hk=>Zz ?_ λhb=>?_
  .have an:=O9 (n:=n+3) (ws:=ws) hm ha (X5.mp hk);simp only[qD]at an;simp only[dj];ext;rw[an];ext;simp only[Mq];ext
  .ext;rfl
 ext;rw[jw (l:=(szL a m v (2^m)).map D.int) (by rfl) (by rw[xg];omega) ?_ (.inr (J3 _))]
 .ext
 .unfold szL;rw[Xe];refine qb λk hk=>z9 (by ext) ?_;obtain⟨b,e1,e2⟩:=j1r (n:=n) (k:=k) (ws:=ws) hm ha h01;simp only[qD]at e1;ext;rw[e1];ext;rw[e2];rfl
theorem j3l{n m:Nat}{ws:List aj}{a:List Int}(hw:ws.length=m)(hm:1<=m/\m<=6)(ha:a.length=2^m)(h01:∀x∈a,x=0\/x=1) :
  evP 1000 G T (n+8) "settling_sizes" [qD ws a]=.val (.tup [.int (jg (szL a m 0 (2^m))),.int (jg (szL a m 1 (2^m)))]):=by
 have g0:=Vu (n:=n) (v:=0) hw hm ha h01;have g1:=Vu (n:=n) (v:=1) hw hm ha h01;rw[jt (F:=Z0) (by rfl) rfl];simp only[Z0,Jh,enter];ext;simp only[gA];ext;rw[jw (l:=[.int (jg (szL a m 0 (2^m))),.int (jg (szL a m 1 (2^m)))]) (by rfl) (by simp) ?_ (.inl rfl)]
 .ext
 .refine qb (L:=[(0:Int),1]) (h:=D.int) (g:=λv=>D.int (jg (szL a m v (2^m)))) λv hv=>z9 (by ext) ?_;have g:=Vu (n:=n) (v:=v) hw hm ha h01;ext;rw[g];ext
theorem j5y{m:Nat}{r q:List Int}(hr:r.length=m):Mo (ae m 2) r q↔q.length=m/\∀j,j<m->q.getD j 0=2\/q.getD j 0=r.getD j 0:=by
 have g:∀j,j<m->(ae m (2:Int)).getD j 0=2:=λj hj=>by rw[kj,cE,if_pos hj];rfl
 unfold Mo;rw[ph];refine and_congr_right λ_=>forall_congr' λj=>forall_congr' λhj=>?_;rw[g j hj];exact⟨λh=>h.2 rfl,λh=>⟨λz=>absurd rfl z,λ_=>h⟩⟩
theorem j2x{r q:List Int}:q∈zr r↔q.length=r.length/\∀j,j<r.length->q.getD j 0=2\/q.getD j 0=r.getD j 0:=by
 rw[<-Ci,Ov,xg];refine and_congr_right λ_=>forall_congr' λj=>forall_congr' λhj=>?_;have e:(r.map λt=>[t,2]).getD j []=[r.getD j 0,2]:=by rw[kj,X6,kh hj,kj,kh hj];rfl
 rw[e];simp only[xn,dN,or_false];exact⟨λh=>h.symm,λh=>h.symm⟩
theorem j2a(m:Nat):szP (ae m 2)=0:=by
 unfold szP;have:(ae m (2:Int)).countP (λt=>t==2)=m:=by rw[List.countP_eq_length.mpr λt ht=>by rw[(Tt.mp ht).2];rfl,ph]
 rw[ph,this];omega
section
variable{a:List Int}{m:Nat}
theorem jhm(h01:∀x∈a,x=0\/x=1)(k:Nat):cz a m k<=Rp 1 a m (ae m 2):=by
 obtain⟨b,eb,hb,hc,hl⟩:=Va (a:=a) (m:=m) (k:=k) h01;have rl:=jf 2 m (k:Int);obtain⟨q,q1,q2,q3⟩:=low h01 rl j3p (ae m 2) (ph ..) (Lb m) ((Vj (ph ..)).mpr λj hj=>.inl (by rw[kj,cE,if_pos hj];rfl));have hq:=(j5y rl).mp q1;have hf:q∈zr (j6 2 m (k:Int)):=j2x.mpr (by rw[rl];exact hq);have ez:cz a m k=szP b:=by unfold cz;rw[eb]
 rw[j2a]at q3;rw[ez];rcases hl q hf q2 with z|z
 .rw[<-z];omega
 .unfold lt at z;rcases z with z|z<;>omega
theorem jav(h01:∀x∈a,x=0\/x=1)(v:Int):CB a m (ae m 2) v (jg (szL a m v (2^m))).toNat:=λk k1 _ k3=>by
 obtain⟨b,eb,hb,hc,hl⟩:=Va (a:=a) (m:=m) (k:=k) h01;have rl:=jf 2 m (k:Int);have hf:=j2x.mp hb;rw[rl]at hf;refine⟨b,(j5y rl).mpr hf,hc,?_⟩;have ez:cz a m k=szP b:=by unfold cz;rw[eb]
 have le:cz a m k<=jg (szL a m v (2^m)):=Dy (f:=cz a m) (Xh.mpr ⟨X5.mpr k1,decide_eq_true k3⟩);have:=(Br b).1;rw[j2a,<-ez];omega
theorem Ng{v:Int}:0<=jg (szL a m v (2^m)):=by
 cases h:szL a m v (2^m) with
 |nil=>exact t6 _
 |cons x l =>have:=(V4 (ns:=x::l) (by simp)).1;rw[<-h]at this ⊢;exact El _ this
theorem between(h01:∀x∈a,x=0\/x=1):jg (szL a m 0 (2^m))<=Rp 1 a m (ae m 2)/\jg (szL a m 1 (2^m))<=Rp 1 a m (ae m 2)/\Rp 1 a m (ae m 2)<=jg (szL a m 0 (2^m))*jg (szL a m 1 (2^m)):=by
 have lo:∀v:Int,jg (szL a m v (2^m))<=Rp 1 a m (ae m 2):=λv=>by
  by_cases h:(ax (2^m)).filter (λ(k:Nat)=>decide (a.getD k 0=v))=[]
  .unfold szL;rw[h];exact jkk
  .exact M9 h λk _=>jhm h01 k
 refine⟨lo 0,lo 1,?_⟩;have u:=up h01 _ _ (ae m 2) (ph ..) (Lb m) (jav h01 0) (jav h01 1)
 rwa [fc Ng,fc Ng]at u
end
theorem j62{a:List Int}{m:Nat}(h01:∀x∈a,x=0\/x=1)(v:Int):jg (szL a m v (2^m))<=m:=by
 by_cases h:(ax (2^m)).filter (λ(k:Nat)=>decide (a.getD k 0=v))=[]
 .unfold szL;rw[h];show(0:Int)<=m;omega
 .refine M9 h λk _=>?_;obtain⟨b,eb,hb,hc,hl⟩:=Va (a:=a) (m:=m) (k:=k) h01;obtain⟨u,hu,e⟩:=Qs hb;have bl:b.length=m:=by rw[e,Yb,jf]
  have:=(Br b).2;unfold cz;rw[eb];show szP b<=m;omega
noncomputable def j4g:Sx:=(.seq (.set 5 (.lst (.cons (.lit (.int 0)) (.cons (.lit (.int 0)) .nil)))) (.seq (.loop [6,7] (.enum (.var 3)) (.seq (.put 5 (.var 7) (.blt .max (.cons (.ix (.var 5) (.var 7)) (.cons (.call "_law_fewest" (.cons (.var 3) (.cons (.call "_law_row" (.cons (.blt .len (.cons (.var 2) .nil)) (.cons (.var 6) .nil))) .nil))) .nil)))) .nop)) (.seq (.ife (.not (.call "_law_same" (.cons (.call "settling_sizes" (.cons (.tup (.cons (.var 2) (.cons (.var 3) .nil))) .nil)) (.cons (.tup (.cons (.ix (.var 5) (.lit (.int 0))) (.cons (.ix (.var 5) (.lit (.int 1))) .nil))) .nil)))) (.seq (.ret (.lit (.bl a4))) .nop) .nop) (.seq (.set 8 (.ix (.callD "worst_table" (.cons (.tup (.cons (.var 2) (.cons (.var 3) .nil))) .nil)) (.neg (.lit (.int 1))))) (.seq (.ret (.che (.blt .max (.cons (.var 5) .nil)) (.var 8) (.bin .mul (.ix (.var 5) (.lit (.int 0))) (.ix (.var 5) (.lit (.int 1)))))) .nop)))))
theorem Ln{ns:List Int}{most m:Nat}{ws:List aj}{a:List Int}{s4:Sv}(wl:ws.length=m)(hm:1<=m/\m<=6)(al:a.length=2^m)(a01:∀x∈a,x=0\/x=1) :
  fin (run 1000 (evP 1000 G T 12) G j4g [.val (.lst (ns.map D.int)),.val (.int most),.val (.tup (ws.map D.str)),.val (.tup (a.map D.int)),s4,.un,.un,.un,.un])=.val (.bl a6):=by
 have p2:=cT (show 0<2 by decide) hm.2;have ss:=j3l (n:=4) wl hm al a01;have wt:=j3f (n:=3) wl hm al a01;have la:atI (((PK (ae m 2)).map (Rp 1 a m)).map D.int) (-1)=a3 (.int (Rp 1 a m (ae m 2))):=atL (by rw[iZ,j2j];rfl);obtain⟨b1,b2,b3⟩:=between (m:=m) a01;simp only[qD]at ss wt;unfold j4g;ext;rw[Kc];refine W0 (λi ρ=>∃s6 s7,ρ=[.val (.lst (ns.map D.int)),.val (.int most),.val (.tup (ws.map D.str)),.val (.tup (a.map D.int)),s4,.own [.int (jg (szL a m 0 i)),.int (jg (szL a m 1 i))],s6,s7,.un]) ⟨.un,.un,rfl⟩ ?_ ?_
 .rintro i d ρ hi ⟨s6,s7,rfl⟩;have hi':i<a.length:=by have:=(X8.mp hi).1;rw[xg,Pa]at this;exact this
  rw[X6,T3 hi']at hi;cases hi;have rs:evP 1000 G T 12 "_law_row" [.int m,.int (i:Int)]=.val (ji (j6 2 m (i:Int))):=j05 jgz hm.2;have fw:=j1y (n:=9) (k:=i) hm al a01;have ai:a.getD i 0=0\/a.getD i 0=1:=a01 _ (by rw[kj,kh hi'];exact Xm _);have x0:∀x y:D,ixN [x,y].length 0=a3 0:=λ_ _=>rfl;have x1:∀x y:D,ixN [x,y].length 1=a3 1:=λ_ _=>rfl;simp only[je4];rcases ai with e|e
  .erw[e,at0];rw[wl,rs];ext;rw[fw];ext;rw[j58 (x0 _ _),<-K8 El j4b,<-j4v e];ext;refine⟨_,rfl,.val (.int (i:Int)),.val (.int 0),?_⟩;rw[j2b (v:=1) nofun]
  .erw[e,at1];rw[wl,rs];ext;rw[fw];ext;rw[j58 (x1 _ _),<-K8 El j4b,<-j4v e];ext;refine⟨_,rfl,.val (.int (i:Int)),.val (.int 1),?_⟩;rw[j2b (v:=0) nofun]
 .rintro ρ ⟨s6,s7,rfl⟩;rw[xg,Pa,al];have sm:evP 1000 G T 12 "_law_same" [.tup [.int (jg (szL a m 0 (2^m))),.int (jg (szL a m 1 (2^m)))],.tup [.int (jg (szL a m 0 (2^m))),.int (jg (szL a m 1 (2^m)))]]=.val (.bl a6):=j51 jk6 1 (n:=10) (by simp[D.dep,D.depL]) (by simp[Z7,Vo]);ext;rw[ss];ext;rw[at0,at1];ext;erw[sm,wt,la];have mx:=jjm (ns:=[jg (szL a m 0 (2^m)),jg (szL a m 1 (2^m))]) (by simp);simp only[Xa,d4]at mx;rw[mx,at0,at1];have n0:=Ng (a:=a) (m:=m) (v:=0);have n1:=Ng (a:=a) (m:=m) (v:=1);have s0:=j62 (m:=m) a01 0;have s1:=j62 (m:=m) a01 1;ext;have l1:jg [jg (szL a m 0 (2^m)),jg (szL a m 1 (2^m))]<=Rp 1 a m (ae m 2):=by
   refine M9 (L:=[jg (szL a m 0 (2^m)),jg (szL a m 1 (2^m))]) (f:=λx=>x) (by simp) λq hq=>?_;rcases xn.mp hq with z|z
   .rw[z];exact b1
   .rw[xj.mp z];exact b2
  rw[decide_eq_true l1,decide_eq_true b3];rfl
noncomputable def depth:Nat:=12
theorem lawTrue:∀ns:List Int,ns.length<=63->evP 1000 G T (depth+1) "law" [.lst (ns.map D.int)]=.val (.bl a6):=by
 intro ns hns;rw[jt (F:=j45) (by rfl) rfl];simp only[j45,j4h,enter,depth];obtain⟨most,hmost,gm⟩:=j8c (qj ns 3);have mo:1<=most/\most<=6:=by omega
 have hm:=Dt (ns:=ns) (a:=0) (most:=most) mo;obtain⟨ws,⟨nd,wl⟩,qs⟩:=j1u (n:=10) (ns:=ns) (a:=0) (most:=most) (by decide) mo;have a01:=je7 (n:=10) (ns:=ns) (a:=0) (most:=most) mo;obtain⟨m,em⟩:∃m:Nat,m=Zm ns 0 most:=⟨_,rfl⟩
 have al:(Yv 10 ns 0 most).length=2^m:=by simp[Yv,<-em]
 rw[<-em]at hm wl;generalize Yv 10 ns 0 most=a at *;have hm6:1<=m/\m<=6:=by omega
 have c3:evP 1000 G T 12 "_law_cell" [.lst (ns.map D.int),.int 3]=.val (.int (qj ns 3)):=Ub Iu (k:=3) nofun
 generalize qj ns 3=c at *;have qs:evP 1000 G T 12 "_law_question" [.lst (ns.map D.int),.int 0,.int most]=_:=qs;have p2:=cT (show 0<2 by decide) hm6.2;ext;erw[c3,gm,qs,c3];show fin (Ws _ (run 1000 (evP 1000 G T 12) G j4g))=_;by_cases h:c/8%16=0
 .ext;rw[jw (l:=(a.map λ_=>c/128%2).map D.int) (by rfl) (by rw[xg,al];omega) ?_ (.inl rfl)]
  .ext;exact Ln wl hm6 (by rw[xg,al]) λx hx=>by obtain⟨y,_,rfl⟩:=xr.mp hx;omega
  .rw[Xe];refine qb λx _=>z9 (by ext) ?_;ext;rw[c3];ext;rfl
 .ext;exact Ln wl hm6 al a01
end K37
end
open PySem PySem.W PyProof.Rows
local macro_rules | `(tactic| walk_at "lf") => `(tactic| (refine' L2.lf_mk ?a ?l ?c ?k; (case a => k_is); (case l => k_is); (case c => k_is); (case k => k_is)))
local macro_rules | `(tactic| walk_at "ld") => `(tactic| (refine' L2.lfd_mk ?a ?l ?c ?k ?t; (case a => k_is); (case l => k_is); (case c => k_is); (case k => k_is); (case t => k_is)))
set_option Elab.async false
namespace PySem.W.Fast
def tw13921830921489920310:=0
def tw14548905574089795459:=0
def tw7738001262362184941:=0
def tw6222758641615057335:=0
def tw2017706621390262499:=0
def tw16841017128870361959:=0
def tw12996438704050654967:=0
def tw3114522594000796179:=0
def tw1073653640573149254:=0
def tw3257898488558344308:=0
def tw13245837764059801012:=0
def tw1324753130709119373:=0
def tw15742140601202567422:=0
def tw2421320014154524939:=0
def tw10332333897020180755:=0
def tw15138949217896172496:=0
def tw6047154320550788274:=0
def tw9384270795009793816:=0
def tw6608906188753395909:=0
def tw15480124992374511322:=0
def tw17503728179676485258:=0
def tw16479596954384660068:=0
def tw11676191889510365499:=0
def tw925379171973189939:=0
def tw17230206755931747740:=0
def tw14529238494550324885:=0
def tw1361034357804666975:=0
def tw16326761327007896814:=0
def tw9684948737641310350:=0
def tw5261131551173221882:=0
def tw11747902832826749002:=0
def tw855143021057017765:=0
def tw10548003174350638767:=0
def tw13536980433636322958:=0
def tw13431466952701173951:=0
def tw7758545916307492447:=0
def tw542938317653139405:=0
def tw14720508552271498424:=0
def tw8542342680130360377:=0
def tw16978710872440642245:=0
def tw10413468361348591749:=0
def tw17667675045686141455:=0
def tw9071686446697240399:=0
def tw8804511931989763128:=0
def tw17776562917284281326:=0
def tw8980101562212340822:=0
def tw8234334411828173399:=0
def tw12610991754652016731:=0
def tw5121525267868111056:=0
def tw5623532470873316627:=0
def tw12930286185481285978:=0
def tw11722031175323405920:=0
def tw10236711590239853512:=0
def tw17120401163025034480:=0
def tw9657383382579571566:=0
def tw15544476345355034038:=0
def tw94404435021546884:=0
def tw4944735467093433934:=0
def tw341508958390554065:=0
def tw11880933173068842633:=0
def tw8615857456826309351:=0
def tw5001653290358665952:=0
def tw1082661855252768055:=0
def tw4626592315691444502:=0
def tw80316330369503363:=0
def tw13306946708064447111:=0
def tw17743000320386315039:=0
def tw8257269990198564841:=0
def tw17973670388318537089:=0
def tw1279190413506924126:=0
def tw16711059598884398016:=0
def tw18130124457263071379:=0
def tw11857557874292866565:=0
def tw14199070406079089679:=0
def tw4997695228096078336:=0
def tw5100527674694552645:=0
def tw7639054374888822743:=0
def tw17269590581073231176:=0
def tw11846971771438950614:=0
def tw842043759994682806:=0
def tw17671769339087181912:=0
def tw3811362160382887190:=0
def tw6278203341858439822:=0
def tw16639797384579339572:=0
def tw14553495351590582597:=0
def tw2882086560759431572:=0
def tw11691326399370197146:=0
end PySem.W.Fast
set_option maxRecDepth 100000 in
set_option maxHeartbeats 0 in
theorem PySem.Challenge.cw_leastasks_k37_whole_depth_between_holds : PySem.Challenge.rw_leastasks_k37_whole_depth_between.Holds := by
  w_on; o_law; k_head; (case hw => w_witness2)
  k_fill
  refine L2.walkL (l := PySem.Challenge.rw_leastasks_k37_whole_depth_between) (k := L2.lv (K37.depth + 1)) (x := "_law_script") (by decide) rfl rfl (fun w h Y => ⟨PySem.W.km_in_of Y, PySem.W.km_tabs_of Y⟩) ?tz ?F
  case tz => intro w; kernel_rfl
  case F =>
    intro w mg fa h KX Gn hmg tz
    refine' K37.head KX Gn hmg ?h0 ?h1 ?h2 ?h3 ?h4 ?h5 ?h6 ?h7 ?h8 ?h9 ?h10 ?h11 ?h12 ?h13 ?h14 ?h15 ?h16 ?h17 ?h18 ?h19 ?h20 ?h21 ?h22 ?h23 ?h24 ?h25 ?h26 ?h27 ?h28 ?h29 ?h30 ?h31 ?h32 ?h33 ?bz tz ?gn0 ?gn1 ?ga2l ?gn2 ?gn3 ?ga6l ?gn4 ?gn5 ?gn6 ?exa K37.lawTrue
    (case h0 => walk_at "lf")
    (case h1 => walk_at "lf")
    (case h2 => walk_at "lf")
    (case h3 => walk_at "lf")
    (case h4 => walk_at "lf")
    (case h5 => walk_at "lf")
    (case h6 => walk_at "lf")
    (case h7 => walk_at "lf")
    (case h8 => walk_at "lf")
    (case h9 => walk_at "lf")
    (case h10 => walk_at "lf")
    (case h11 => walk_at "lf")
    (case h12 => walk_at "lf")
    (case h13 => walk_at "lf")
    (case h14 => walk_at "lf")
    (case h15 => walk_at "lf")
    (case h16 => walk_at "lf")
    (case h17 => walk_at "lf")
    (case h18 => walk_at "ld")
    (case h19 => walk_at "lf")
    (case h20 => walk_at "lf")
    (case h21 => walk_at "lf")
    (case h22 => walk_at "lf")
    (case h23 => walk_at "lf")
    (case h24 => walk_at "lf")
    (case h25 => walk_at "lf")
    (case h26 => walk_at "lf")
    (case h27 => walk_at "lf")
    (case h28 => walk_at "lf")
    (case h29 => walk_at "lf")
    (case h30 => walk_at "lf")
    (case h31 => walk_at "lf")
    (case h32 => walk_at "lf")
    (case h33 => walk_at "lf")
    (case gn0 => k_is)
    (case gn1 => k_is)
    (case gn2 => k_is)
    (case gn3 => k_is)
    (case gn4 => k_is)
    (case gn5 => k_is)
    (case gn6 => k_is)
    (case ga6l => k_is)
    (case ga2l => k_is)
    (case bz => kernel_rfl)
    (case exa => kernel_rfl)
#print axioms PySem.Challenge.cw_leastasks_k37_whole_depth_between_holds