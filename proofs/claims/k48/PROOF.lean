import PyProof.Rows.All
import Wide.All
import OpenK.AllK
import Wide.FinOn
import Lean
import PyProof.EqAt
import PyProof.EqKinds
import PyProof.TupleCall
import PyProof.Rows.SetFrom
import KE.KDictList
import KE.KMinKey
import PyProof.ListRange
import KE.KIntText
import PyProof.ReprRoads
import PyProof.Rows.TupTab
import KE.KRevIter
import PyProof.TupleOfGen
import PyProof.StrBlockL
import PySem.Challenge.RW_leastasks_k48_lies_against_none
set_option Elab.async false
set_option linter.all false
set_option maxRecDepth 100000
set_option maxHeartbeats 4000000
set_option genSizeOf false
set_option genInjectivity false
abbrev zo:=List Int
open Option renaming some→a8,none→ae,isSome_some→fm,join_some→jL,getD_none→jM,map_some→k6,bind→l6
open Bool renaming false→a9,true→ah,or_eq_true→cC,not_eq_true'→dO,eq_iff_iff→eS,and_false→gY,false_and→kS,true_and→l7,or_false→l8,false_or→l9,and_true→lb
open PySem renaming wpAny_bind→aa,starEach→af,Value→ai,Addr→aj,Shared→ao,Str→aq,wpAny_pure→ar,Expr→au,sizeLine→av,wpAny→aw,mainGlobals→ax,Program→ay,model→aB,eval→aC,World→aD,Heap→aE,Around→aF,foldedSetIterable→aG,behindInMarks→aH,wpAny_Call_Name_kw→aK,FuncData→aL,swapsWith→aN,Pos→aO,backTo→aP,cLine→aQ,wpAny_newObj_type→aR,Stmt→aS,cellsFrom→aT,argBest→aU,attributeBase→aW,compareOp→aX,wpAny_field→aZ,Keyword→b7,Scope→b8,wpAny_callSpecial?_slot→b9,keywordEach→ba,wpAny_seqItems→bf,binaryOp→bg,wpAny_call_entry→bj,codeAny_builtin→bu,wpAny_mono→bB,NameKind→bC,wpAny_truthy_bool→bE,wpAny_pyIter_list→bF,codeAny_mono→bG,call_meets→bI,codeAny→bL,backToKw→bM,wpAny_typeNameOfWhole_valiter→bP,wpAny_setField_rec→bQ,assignEach→bR,IsPair→bX,sizeLine_eq→cD,wpAny_typeNameOf_valiter→cK,wpAny_holding→cL,plainId_quiet→cM,Builtin→cO,rawInt→cR,reprText→cY,pyNext→cZ,Obj→d8,Env→d9,wpAny_letGo→dh,sliceBounds→di,boot_len→dj,wpAny_passesOwn→dC,wpAny_loadPart'→dD,strKind→dH,BindsTo→dJ,Arguments→dQ,newFunctionEnv→dX,closureFor→dY,builtinsNs→dZ,wpAny_comprehension_free→eK,Result→eL,bindArgs→eU,IsZip→eV,wpAny_pyNext_list_item→f9,sysModules→fc,intKind→fe,bootBuiltins→ff,letOwnedTupleGo→fj,wpAny_isOneOf_valiter→fC,wpAny_updateSeq_pair→fG,wpAny_tryCatch→fH,wpAny_setField→fJ,recursionLimit→fK,intItems→fM,firstArgMember→fN,assign→fO,JoinOk→fP,IsPart→fQ,GenState→fR,tupleKind→fW,codeAmong→fX,wpAny_standAt→gc,wpAny_onRaise→gf,wpAny_attempt→gh,wpAny_pyIter_tuple→gp,wpAny_call→gq,typeIs_str→gr,typeIs_int→gu,tupleKind_room_in1→gv,isTrue→gw,defaultsOf→gx,wpAny_dictEntries→gJ,intText?→gK,draw→gL,concat_meets→gO,callerA→gP,Tok→gR,wpAny_forIn_list→hU,seqItems?→hZ,scanBound→i3,noFill_tuple_add→i4,PassesOwn→i5,DictEntry→i6,wpAny_of_eq→ib,richCompare→ic,numAt→ie,again→ig,wpAny_updateSeq→ip,wpAny_execs_nil→iq,wpAny_dictEpoch→ir,spliced→iw,holding→iy,pyIter→iI,ZipApart→iJ,Model→iK,CmpOp→iL,wpAny_binaryOp_repeat_ref→iW,seq_tuple_add→jv,call→jA,pushCells→jG,field→jH,bindL→jI,bindC→jJ,Meets→jK,seqSlot_of→jU,richCompare_meets_room→jV,relabel→jW,newList→jX,getItem→jY,wpAny_pyNext_list_end→kn,wpAny_isTrue_Compare1→ko,lookup_relabel_local→kx,intItems_at→ky,compEnvC→kz,atKey→kA,Operator→kB,wpAny_rule→kX,wpAny_Name→kY,entryOfKey→kZ,wpAny_pyIter_enum→lz,wpAny_assign_Name→lA,wpAny_Return_some→lB,standAt→lC,call_sum_walkAnyS→lD,ItemsOf→lE,wpAny_pyIter_zip→lT,wpAny_isInstance→lU,wpAny_execs_cons→lV,rule→lW,pushCells_keeps→mI,codeAny_of_tree→mJ,Fin→mK,wpAny_runValue→mU,wpAny_fieldsOf→mV,newExc→mW,isSubtype_stop→mX,compPost→mY,Sem→mZ,Params→n5,wpAny_handled→ni,intBits_le_64→nj,eval_ListComp→nq,evalPart_none→nr,call_list_seq→nu
open List renaming replicate→ak,range→aA,take_length→bZ,cons_append→c7,drop_eq_getElem_cons→cq,mem_map_of_mem→cu,filterMap_cons→cy,nil_append→cB,map_replicate→cE,getElem?_replicate→cG,range_succ_eq_map→cP,getElem?_set_self→cQ,length_drop→cV,map_nil→de,length_zipIdx→dn,getElem?_append_right→dr,foldl→du,length→dM,getElem?_set→dN,sum_cons→dS,not_mem_nil→eB,getElem?_cons_succ→eC,filter_cons_of_pos→eD,drop_length→eE,of_mem_zip→eO,nodup_nil→eZ,drop_zero→f6,toList_toArray→fq,getD_cons_zero→fv,any_cons→fD,filter_append→fF,forIn_cons→gC,forIn_nil→gW,getElem?_zip_eq_some→i7,all_cons→ik,filter_cons_of_neg→iu,set_set→iz,length_singleton→iN,contains_iff_mem→iO,getLast?_append→iX,getElem?_set_ne→iY,getElem?_mapIdx→iZ,getElem_of_mem→jC,getD_cons_succ→jD,zip_cons_cons→jN,map_singleton→jO,contains_cons→jP,reverse_cons→k7,getLast?_map→k8,zipIdx_cons→kq,range'_succ→kr,any_toArray→ku,zipIdx_nil→kD,mem_zipIdx→kE,length_zip→kF,find?_cons→kH,filter_map→kI,countP_map→kJ,any_map→lF,all_map→lG,range'→ma
open Option.some renaming inj→az
open PySem.Value renaming ref→aI,none→aY,int→br,str→bA,bool→bW,type→eF,notImplemented→iB,isInt→lj
open PySem.Builtin.SmallTypes renaming nextOf→aJ,ownedTupleIsFree→bh,ownedTupleHandOut→dm
open PySem.Builtin.Str renaming strSliceIndices→aM,tooLong→cT,occurrences→gb,glued→mS
open Or renaming inl→aV,inr→bU
open PySem.Builtin.Tuple renaming tupleExact→bc,tupleCompareSizes→eT,tupleTooMany→fw,tupleItemsOf→lQ
open PySem.W renaming nsIn→bo,OpenLaw→dP,KdlSrc→gj,WalkO→ja,CodeHd→jQ,Frag→mQ
open PySem.NameKind renaming free→bp,cell→bJ
open Ne renaming symm→bq
open False renaming elim→bx
open PyProof.Rows renaming envOfC→bD,IntsAre→d4,AllBare→eJ,seqObj→fU,FormattedValue_plain→fV,IsTup→ij,boot_min→iM,subscriptTail_builtinR→jZ,slot_tuple_getitem→l5,get?_update_seq→mM,formatField_str→mO,tail_any→n6,slicePart_none→n9,boot_max→ng,subscriptTail→nv,Constant_none→nA
open PySem.PassesOwn renaming never→bH,leaving→iv
open Function renaming comp→bK
open PySem.Builtin.Slice renaming slicePlaces→bN,sliceAdjust→cX,sliceApplied→fB,slicePartIndex→lR,sliceFields→lS
open PyProof.Rows.F renaming plain_set_update_loop→bO,entry_set_update_loop→dR
open PySem.Txt renaming slice→bS,join→f7,mul→jR,split→nh
open PySem.Builtin.List renaming listTooLong→bT,listExtendWith→mH
open Classical renaming byContradiction→bV,propDecidable→dE
open PySem.AutoSeq1 renaming wpAny_loadPart'→bY,sub_tuple_tuple→gB
open ForInStep renaming yield→c8
open Array renaming getElem?_eq_getElem→c9,length_toList→d7,append_inj_right→eG,getElem?_toList→iA,toList→lh
open PySem.Str renaming ofString→cb,empty→fh,cps→ka,length→mR
open PySem.F renaming slot_tuple_iterator_next→cf,plainAttrs_list→cz,args_tuple_add_2→dB,entry_tuple_add→dG,slot_tuple_add→dU,entry_min_loop→dW,slot_zip_next→eX,slot_int_rmul→eY,excBase_ValueError→gk,args_dict_valueiterator_next_1→gn,entry_dict_valueiterator_next→gz,plainAttrs_tuple→gE,args_tuple_lt_2→gQ,entry_tuple_lt→gZ,args_tuple_iterator_next_1→hJ,slot_tuple_lt→i9,entry_tuple_iterator_next→ia,slot_tuple_index→iD,slot_tuple_count→iE,slot_list_extend→iF,slot_list_append→iG,slot_dict_values→iH,slot_list_index→iT,slot_list_count→iU,slot_dict_values_iter→iV,slot_str_join→jF,args_object_init_2→jT,args_tuple_mul_2→kv,plain_tuple_new→kL,plain_list_iadd→kM,entry_tuple_mul→kN,args_zip_next_1→kO,args_int_rmul_2→kP,slot_tuple_mul→kT,entry_zip_next→kU,entry_int_rmul→kW,fills_int_mul→lq
open Nat renaming zero_add→cg,lt_succ_self→cj,lt_of_le_of_lt→cF,pow_succ→cS,le_of_lt→dk,lt_or_ge→eN,mul_comm→g6,pow_pos→jB,le_add_right→kC,not_lt_zero→kQ,min_eq_left→kR,succ_mul→lY,sub_zero→lZ,min_self→m8,add_zero→m9,log2_lt→mP
open PySem.Builtin.Dict_items renaming ownsTuple→cA,newIterator→kg,dictOf→ki
open Int renaming emod_lt_of_pos→cH,pow_pos→d6,zero_add→eP,ediv_eq_zero_of_lt→eQ,one_mul→fg,mul_le_mul_of_nonneg_right→gy,fdiv_eq_ediv_of_nonneg→i8,pow_succ→iP,le_trans→iQ,le_of_lt→iR,add_mul_ediv_left→j3,mul_one→jE,natCast_nonneg→k9,mul_assoc→lH,ne_of_gt→md,mul_zero→mf,mul_comm→mh
open PySem.Calls renaming callWith_builtin→cJ,evalArgs_plain→cW,spliced_cons→df,spliced_nil→dF,Name_function_global→gH
open PySem.Heap renaming SameBut→cN,ExtBut→eW,get?_update_self→iC
open PySem.SeqAt renaming EqAt→cU,RcAt→gD
open List.Sublist renaming refl→d5
open PySem.Obj renaming mapSeq→dy,data_mapFields→dz,mapFields→il,isFreed_of_fields→iS,cls_mapFields→ke
open PySem.PyData renaming int→eA,showableAll→fi,hasDictAll→fE,depthAll→g9,showable→jS,hasDict→kc,depth→kK
open Sum renaming inr→fY,inl→fZ
open PySem.EqMixed renaming ne_str_int→lI,ne_str_bool→lJ,ne_int_str→lK,ne_bool_str→lL,eq_str_int→lM,eq_str_bool→lN,eq_int_str→lO,eq_bool_str→lP
open PySem.EqNone renaming ne_str_none→mi,ne_none_str→mj,ne_none_none→mq,ne_none_int→mr,ne_none_bool→mw,ne_int_none→mx,ne_bool_none→my,eq_str_none→mz,eq_none_str→mB,eq_none_none→mC,eq_none_int→mD,eq_none_bool→mE,eq_int_none→mF,eq_bool_none→mG
def kh:=@List.getElem?_eq_getElem
def kj:=@List.getD_eq_getElem?_getD
def km:=@PySem.Heap.get?_push_of_some
def xf:=@List.length_map
def xg:=@List.mem_cons_of_mem
def xj:=@Bool.false_ne_true
def xm:=@List.mem_singleton
def xn:=@PySem.Heap.lt_size
def xq:=@List.mem_cons_self
def xr:=@List.mem_cons
def xu:=@PySem.Heap.get?_push_size
def xx:=@List.length_cons
def X3:=@Nat.le_refl
def X4:=@List.getElem?_map
def X5:=@List.map_cons
def X6:=@List.getElem?_eq_some_iff
def X7:=@List.size_toArray
def X8:=@List.mem_map
def Xa:=@Nat.ne_of_lt
def Xb:=@List.mem_range
def Xc:=@List.mem_append_right
def Xd:=@List.length_append
def Xe:=@Bool.and_eq_true
def Xf:=@List.map_map
def Xg:=@Nat.le_trans
def Xh:=@Int.toNat_natCast
def Xi:=@Nat.lt_of_lt_of_le
def Xj:=@List.length_range
def Xk:=@List.nodup_cons
def Xl:=@Option.map_eq_some_iff
def Xm:=@List.lookup_cons
def Xn:=@List.append_nil
def Xo:=@List.map_append
def Xp:=@List.mem_filter
def Xq:=@List.mem_of_getElem?
def Xr:=@List.getElem_mem
def Xu:=@List.getElem?_eq_none
def Xv:=@List.replicate_succ
def Xw:=@List.mem_append
def Xx:=@Option.isSome_iff_exists
def Xy:=@List.set_cons_zero
def Xz:=@List.set_cons_succ
def ph:=@Bool.false_eq_true
def pq:=@Nat.lt_trans
def P0:=@List.getElem?_range
def Pa:=@List.length_take
def Pb:=@Nat.ne_of_gt
def Pg:=@PySem.Heap.size_push
def Ph:=@Nat.lt_irrefl
def Pj:=@List.all_eq_true
def Pk:=@List.length_replicate
def Pn:=@Nat.le_succ
def Pq:=@Nat.zero_le
def Pr:=@PySem.mem_of_lookup
def Pu:=@List.mem_append_left
def Py:=@PySem.Around.under_plainId
def Pz:=@PySem.W.mg_of
def t6:=@PySem.F.plain_min_loop
def t7:=@List.map_congr_left
def t8:=@List.getElem?_append_left
def tu:=@List.length_nil
def T3:=@List.foldl_cons
def T4:=@PySem.F.slot_dict_valueiterator_next
def T5:=@List.length_set
def T6:=@List.mem_iff_getElem
def T7:=@List.flatten_cons
def T8:=@List.append_assoc
def T9:=@PySem.Heap.SameBut.update
def Tc:=@Array.toList_append
def Td:=@List.mem_filterMap
def Te:=@List.length_filter_le
def Tf:=@List.exists_mem_of_ne_nil
def Tg:=@Int.le_refl
def Th:=@Int.emod_nonneg
def Ti:=@List.eq_nil_iff_forall_not_mem
def Tj:=@Nat.pow_le_pow_right
def Tn:=@List.countP_cons
def Tp:=@Option.getD_some
def Tq:=@List.take_of_length_le
def Tz:=@Nat.lt_succ_of_lt
def sr:=@Nat.lt_of_succ_le
def su:=@List.take_add_one
def S5:=@List.ext_getElem?
def k95:=@And.intro
abbrev k96:=mQ
abbrev k97:=ai→ao→Prop
abbrev k98:=List (aj×d8)
abbrev k99:=aq→Option ai
abbrev k9a:=("__debug__":aq)
abbrev k9b:=("__classdict__":aq)
local macro_rules | `(tactic| omega)=>`(tactic| first | with_reducible assumption | with_reducible exact Nat.le_of_lt (by assumption) | with_reducible exact Nat.le_refl _ | lia)
local macro_rules | `(nofun)=>`(by omega)
section
namespace L2
open PySem PySem.Spec PyProof.Rows
noncomputable abbrev Key:=Sum Int aq
noncomputable def jaz:Key->ai->Bool
 |.inl k,v=>lj k v
 |.inr x,v=>Value.isStrOf x v
noncomputable def jlt(w:aD):Key->Int
 |.inl k=>hashInt k
 |.inr x=>hashStr w x
def v8:∀{k:Key}{v:ai},jaz k v=ah->(∃i t,k=fZ i/\v=br i t)\/(∃x t,k=fY x/\v=bA x t)
 |.inl i,v,h=>by obtain⟨t,e⟩:=Value.isInt_shape (k:=i) (v:=v) h;exact .inl ⟨i,t,rfl,e⟩
 |.inr x,v,h=>by obtain⟨t,e⟩:=Value.isStrOf_shape (x:=x) (v:=v) h;exact .inr ⟨x,t,rfl,e⟩
def jgf(a b:Int):decide ((fZ a:Key)=fZ b)=(a==b):=by
 by_cases e:a=b
 .subst e;simp
 .have h:¬(fZ a:Key)=fZ b:=λq=>e (Sum.inl.inj q);rw[decide_eq_false h];exact(beq_eq_false_iff_ne.mpr e).symm
def jgc(a b:aq):decide ((fY a:Key)=fY b)=decide (a=b):=by
 by_cases e:a=b
 .subst e;simp
 .have h:¬(fY a:Key)=fY b:=λq=>e (Sum.inr.inj q);rw[decide_eq_false h,decide_eq_false e]
def jge(a:Int)(b:aq):decide ((fZ a:Key)=fY b)=a9:=decide_eq_false (λq=>nomatch q)
def jgd(a:aq)(b:Int):decide ((fY a:Key)=fZ b)=a9:=decide_eq_false (λq=>nomatch q)
noncomputable def j38(prog:ay)(w:aD):PySem.KeyKind prog w Key where
 is:=jaz
 hash:=jlt w
 inj:=λv a b ha hb=>by
  rcases v8 ha with ⟨i,t,rfl,rfl⟩|⟨x,t,rfl,rfl⟩
  .rcases v8 hb with ⟨j,u,rfl,e⟩|⟨y,u,rfl,e⟩
   .injection e with e1 _;rw[e1]
   .exact nomatch e
  .rcases v8 hb with ⟨j,u,rfl,e⟩|⟨y,u,rfl,e⟩
   .exact nomatch e
   .injection e with e1 _;rw[e1]
 byValue:=λk v h=>by rcases v8 h with ⟨i,t,rfl,rfl⟩|⟨x,t,rfl,rfl⟩<;>rfl
 pyHash:=λhv h=>by
  rcases v8 hv with ⟨i,t,rfl,rfl⟩|⟨x,t,rfl,rfl⟩
  .exact wpAny_pyHash_int h
  .exact wpAny_pyHash_str h
 eqBool:=λhu hv h=>by
  rcases v8 hu with ⟨i,t,rfl,rfl⟩|⟨x,t,rfl,rfl⟩
  .rcases v8 hv with ⟨j,u,rfl,rfl⟩|⟨y,u,rfl,rfl⟩
   .rw[jgf]at h;exact wpAny_eqBool_int h
   .rw[jge]at h;exact SeqAt.EqAt.int_str i t y u _ _ _ _ h
  .rcases v8 hv with ⟨j,u,rfl,rfl⟩|⟨y,u,rfl,rfl⟩
   .rw[jgd]at h;exact SeqAt.EqAt.str_int x t j u _ _ _ _ h
   .rw[jgc]at h;exact wpAny_eqBool_str h
 «strs»:=λk x t v h=>by
  rcases v8 h with ⟨i,u,rfl,e⟩|⟨y,u,rfl,e⟩
  .exact nomatch e
  .injection e with e1 _;subst e1;cases v<;>rfl
set_option genInjectivity true in
inductive V where
 |non|bl (b:Bool)|int (i:Int)|str (x:aq)|byt (b:Array UInt8)|flt (b:UInt64)|ref (a:aj)|ty (n:String)
 deriving DecidableEq
def RelV:V->ai->Prop
 |.non,u=>u=aY
 |.bl b,u=>u=bW b
 |.int i,u=>∃t,u=br i t
 |.str x,u=>∃t,u=bA x t
 |.byt b,u=>∃t,u=Value.bytes b t
 |.flt b,u=>∃t,u=Value.float b t
 |.ref a,u=>u=aI a
 |.ty n,u=>u=eF n
abbrev Vals:List V->List ai->Prop:=Paired RelV
def Vals.length{xs:List V}{us:List ai}(r:Vals xs us):xs.length=us.length:=Paired.length r
theorem Vals.get:∀{xs:List V}{us:List ai}{i:Nat}{x:V},Vals xs us->xs[i]?=a8 x->∃u,us[i]?=a8 u/\RelV x u
 |_,_,_,_,.nil,e=>by simp at e
 |_,_,0,_,.cons r _,e=>by simp at e;subst e;exact⟨_,rfl,r⟩
 |_,_,i+1,x,.cons _ t,e=>by obtain⟨u,h1,h2⟩:=Vals.get (i:=i) (x:=x) t (by simpa using e);exact⟨u,by simpa using h1,h2⟩
theorem Vals.append:∀{xs ys:List V}{us ws:List ai},Vals xs us->Vals ys ws->Vals (xs++ys) (us++ws)
 |_,_,_,_,.nil,s=>s
 |_,_,_,_,.cons r t,s=>.cons r (Vals.append t s)
theorem Vals.take:∀{xs:List V}{us:List ai}(n:Nat),Vals xs us->Vals (xs.take n) (us.take n)
 |_,_,0,_=>.nil
 |_,_,_+1,.nil=>.nil
 |_,_,n+1,.cons r t=>.cons r (Vals.take n t)
theorem Vals.drop:∀{xs:List V}{us:List ai}(n:Nat),Vals xs us->Vals (xs.drop n) (us.drop n)
 |_,_,0,r=>r
 |_,_,_+1,.nil=>.nil
 |_,_,n+1,.cons _ t=>Vals.drop n t
def ji4:Option V->Option ai->Prop
 |some v,a8 u=>RelV v u
 |none,ae=>True
 |_,_=>False
def KV{κ:Type}:List (κ×V)->List (κ×ai)->Prop:=Paired λ(p:κ×V) (q:κ×ai)=>p.1=q.1/\RelV p.2 q.2
noncomputable def kV:Key->V
 |.inl i=>.int i
 |.inr x=>.str x
inductive HO where
 |lst (xs:List V)
 |tup (xs:List V)
 |dK (kvs:List (Key×V))|dT (kvs:List (List Key×V))
 |dI (xs:List (zo×aj×ai)) (ep:Nat)
 |set (S:Int->Bool) (n:Nat)
 |ins (C dx:aj) (fs:List (aq×V))
 |own (x:aj)
 |xd (fs:List (aq×V))
 |met (f x:aj)
 |rng (lo hi:Int)
 |frz (o:d8) (u:HO)
 |tbl (ps:Array ai)
 |cod (q:aq)
 |ext (φ:aE->Prop)
noncomputable abbrev Hp:=aj->Option HO
noncomputable def upd(H:Hp)(a:aj)(o:HO):Hp:=λb=>if b=a then a8 o else H b
def j8{H:Hp}{a:aj}{o:HO}:upd H a o a=a8 o:=by unfold upd;rw[if_pos rfl]
def jd{H:Hp}{a b:aj}{o:HO}(h:b≠a):upd H a o b=H b:=by unfold upd;rw[if_neg h]
def jbj{H:Hp}{a:aj}{o u:HO}:upd (upd H a o) a u=upd H a u:=by funext b;unfold upd;split<;>rfl
def v7{H:Hp}{a b:aj}{o:HO}(h:H a=a8 o)(h':H b=ae):a≠b:=by intro e;subst e;rw[h]at h';cases h'
def Zu(h:aE)(a:aj):Prop:=∀o,h.get? a=a8 o->o.dict=ae
def Zu.new(h:aE)(xs:Array ai):Zu (h.push { cls:=.type "tuple",data:=.seq xs }) h.objs.size:=λo e=>by have z:(h.push { cls:=.type "tuple",data:=.seq xs }).get? h.objs.size=a8 { cls:=.type "tuple",data:=.seq xs }:=xu _ rfl;rw[z]at e;cases e;rfl
def Zu.of{h:aE}{a:aj}{d:Data}{c:ai}(e:h.get? a=a8 { cls:=c,data:=d }):Zu h a:=λo e'=>by rw[e]at e';cases e';rfl
def Ba(o:d8)(q:aq):Prop:=∃(vs:Array ai)(t:gR),o.data=.fields vs/\vs[1]?=a8 (.str q t)
section
variable(P:ay)(w:aD)
def ji(H:Hp)(h:aE)(a:aj):HO->Prop
 |.lst xs=>xs.length<=av/\∃(its:List ai)(n:Nat),Vals xs its/\h.get? a=a8 { cls:=.type "list",data:=.seq its.toArray n }
 |.tup xs=>xs.length<=av/\∃its:List ai,Vals xs its/\ij h a its.toArray/\Zu h a
 |.dK kvs=>kvs.length<=av/\(a==fc)=a9/\∃vs,KV kvs vs/\h.DictOf (j38 P w) a vs
 |.dT kvs=>kvs.length<=av/\(a==fc)=a9/\∃xs:List (List Key×aj×ai),
   Paired (λ(p:List Key×V) (q:List Key×aj×ai)=>p.1=q.1/\H q.2.1=a8 (.tup (p.1.map kV))/\RelV p.2 q.2.2) kvs xs /\
   ∃o es ep,h.get? a=a8 o/\o.ExactDict/\o.data=.dict es ep/\es.toList=xs.map (kZ (fW (j38 P w)))/\(xs.map (·.1)).Nodup
 |.dI xs ep=>xs.length<=av/\(a==fc)=a9/\(xs.map λx=>x.1).Nodup/\∃(o:d8)(es:Array i6),h.get? a=a8 o/\o.ExactDict/\o.data=.dict es ep/\es.toList=xs.map (kZ (fW (fe P w)))
 |.set S n=>h.SetOf (fe P w) a S n
 |.ins C dx fs=>H dx=a8 (.own a)/\fs.length<=1000/\dx≠a/\h.get? a=a8 (W.instObj C dx) /\
   ∃mA,h.Ns1 dx mA/\(∀f,ji4 (fs.lookup f) (mA f))/\PySem.Within mA (fs.map (·.1))
 |.own _=>∃o,h.get? a=a8 o
 |.xd fs=>∃mA,h.Ns1 a mA/\∀f,ji4 (fs.lookup f) (mA f)
 |.rng lo hi=>∃t u v,h.get? a=a8 { cls:=.type "range",data:=.fields #[.int lo t,.int hi u,.int 1 v] }
 |.frz o u=>h.get? a=a8 o/\ji H h a u
 |.tbl ps=>h.get? a=a8 { cls:=.none,data:=.fields ps }
 |.cod q=>∃ps:Array ai,h.get? a=a8 (W.tabObj ps)/\TriplesOk ps.toList/\∀pos cv,fX pos ps.toList=a8 cv->∃(c:aj)(oc:d8),cv=.ref c/\H c=a8 (.frz oc (.own 0))/\Ba oc q
 |.met f x=>h.get? a=a8 (W.methodObj (.ref f) (.ref x))
 |.ext φ=>φ h/\(∃o,h.get? a=a8 o)/\∀h1 h2:aE,φ h1->(∀o,h1.get? a=a8 o->h2.get? a=a8 o)->φ h2
def HOk(H:Hp)(h:aE):Prop:=∀a o,H a=a8 o->ji P w H h a o
end
section
variable{P:ay}{w:aD}{H H':Hp}{h h':aE}{a:aj}{o:HO}
def ji.lt(x:ji P w H h a o):a<h.objs.size:=by
 cases o with
 |lst xs=>obtain⟨_,_,_,_,e⟩:=x;exact xn e
 |tup xs=>obtain⟨_,_,_,p,_⟩:=x;exact p.lt
 |dK kvs=>obtain⟨_,_,_,_,o,_,_,e,_⟩:=x;exact xn e
 |dT kvs=>obtain⟨_,_,_,_,o,_,_,e,_⟩:=x;exact xn e
 |dI xs ep=>obtain⟨_,_,_,o,_,e,_⟩:=x;exact xn e
 |set S n=>obtain⟨o,_,_,_,e,_⟩:=x;exact xn e
 |ins C dx fs=>obtain⟨_,_,_,e,_⟩:=x;exact xn e
 |own y=>obtain⟨_,e⟩:=x;exact xn e
 |xd fs=>obtain⟨_,⟨_,_,_,e,_⟩,_⟩:=x;exact xn e
 |rng lo hi=>obtain⟨_,_,_,e⟩:=x;exact xn e
 |frz ob u=>obtain⟨e,_⟩:=x;exact xn e
 |tbl ps=>exact xn (show h.get? a=a8 _ from x)
 |cod q=>obtain⟨_,e,_⟩:=x;exact xn e
 |met f y=>exact xn (show h.get? a=a8 _ from x)
 |ext φ=>obtain⟨_,⟨_,e⟩,_⟩:=x;exact xn e
theorem Paired.mapP{α β:Type}{F G:α->β->Prop}:∀{l₁:List α}{l₂:List β},Paired F l₁ l₂->(∀a b,F a b->G a b)->Paired G l₁ l₂
 |_,_,.nil,_=>.nil
 |_,_,.cons r t,f=>.cons (f _ _ r) (Paired.mapP t f)
def ji.stay(x:ji P w H h a o)(k:∀b u,(b=a\/H b=a8 (.own a))->h.get? b=a8 u->h'.get? b=a8 u)
  (ho:∀b,H b=a8 (.own a)->H' b=a8 (.own a)) (ht:∀b xs,H b=a8 (.tup xs)->H' b=a8 (.tup xs)) (hz:∀b o,(∃vs,o.data=.fields vs)->H b=a8 (.frz o (.own 0))->H' b=a8 (.frz o (.own 0))):ji P w H' h' a o:=by
 induction o with
 |lst xs=>obtain⟨z,its,n,r,e⟩:=x;exact⟨z,its,n,r,k _ _ (.inl rfl) e⟩
 |tup xs =>obtain⟨z,its,r,⟨ob,e,c⟩,nd⟩:=x;refine⟨z,its,r,⟨ob,k _ _ (.inl rfl) e,c⟩,λo q=>?_⟩;rw[k _ _ (.inl rfl) e]at q;cases q;exact nd _ e
 |dK kvs=>obtain⟨z,y,vs,r,ob,es,ep,e,c⟩:=x;exact⟨z,y,vs,r,ob,es,ep,k _ _ (.inl rfl) e,c⟩
 |dT kvs =>obtain⟨z,y,xs,r,ob,es,ep,e,c⟩:=x;exact⟨z,y,xs,Paired.mapP r λp q z=>⟨z.1,ht _ _ z.2.1,z.2.2⟩,ob,es,ep,k _ _ (.inl rfl) e,c⟩
 |dI xs ep=>obtain⟨z,y,nd,ob,es,e,c⟩:=x;exact⟨z,y,nd,ob,es,k _ _ (.inl rfl) e,c⟩
 |set S n=>obtain⟨ob,es,ep,t,e,c⟩:=x;exact⟨ob,es,ep,t,k _ _ (.inl rfl) e,c⟩
 |ins C dx fs =>obtain⟨d,z,ne,e,mA,⟨od,es,ep,e2,c⟩,r⟩:=x;exact⟨ho _ d,z,ne,k _ _ (.inl rfl) e,mA,⟨od,es,ep,k _ _ (.inr d) e2,c⟩,r⟩
 |own y=>obtain⟨ob,e⟩:=x;exact⟨ob,k _ _ (.inl rfl) e⟩
 |xd fs=>obtain⟨mA,⟨od,es,ep,e,c⟩,r⟩:=x;exact⟨mA,⟨od,es,ep,k _ _ (.inl rfl) e,c⟩,r⟩
 |rng lo hi=>obtain⟨t,u,v,e⟩:=x;exact⟨t,u,v,k _ _ (.inl rfl) e⟩
 |frz ob u ih=>obtain⟨e,q⟩:=x;exact⟨k _ _ (.inl rfl) e,ih q⟩
 |tbl ps =>have e:h.get? a=a8 { cls:=.none,data:=.fields ps }:=x;show h'.get? a=a8 { cls:=.none,data:=.fields ps };exact k a _ (.inl rfl) e
 |cod q=>obtain⟨ps,e,t,c⟩:=x;exact⟨ps,k _ _ (.inl rfl) e,t,λpos cv z=>let ⟨c,oc,e1,e2,e3⟩:=c pos cv z;⟨c,oc,e1,hz _ _ (let ⟨vs,_,z,_⟩:=e3;⟨vs,z⟩) e2,e3⟩⟩
 |met f y =>have e:h.get? a=a8 (W.methodObj (.ref f) (.ref y)):=x;show h'.get? a=a8 (W.methodObj (.ref f) (.ref y));exact k a _ (.inl rfl) e
 |ext φ=>obtain⟨p,⟨o,e⟩,st⟩:=x;exact⟨st _ _ p λo q=>k _ _ (.inl rfl) q,⟨o,k _ _ (.inl rfl) e⟩,st⟩
def HOk.lt(x:HOk P w H h)(e:H a=a8 o):a<h.objs.size:=(x a o e).lt
def HOk.fresh(x:HOk P w H h)(e:h.objs.size<=a):H a=ae:=by
 cases q:H a with
 |none=>rfl
 |some u=>exact absurd (Xi (x.lt q) e) (Ph _)
def HOk.kept(x:HOk P w H h)(k:∀b u,h.get? b=a8 u->h'.get? b=a8 u):HOk P w H h':=λa o e =>(x a o e).stay (λb u _ q=>k b u q) (λ_ q=>q) (λ_ _ q=>q) λ_ _ _ q=>q
def HOk.laid(x:HOk P w H h)(k:∀b u,h.get? b=a8 u->h'.get? b=a8 u)(hp:h.objs.size<=a)(new:ji P w (upd H a o) h' a o):HOk P w (upd H a o) h':=λb u e=>by
 have hn:=x.fresh hp;by_cases hb:b=a
 .subst hb;rw[j8]at e;cases e;exact new
 .rw[jd hb]at e;exact(x b u e).stay (λc v _ q=>k c v q) (λc q=>by rw[jd (v7 q hn)];exact q) (λc xs q=>by rw[jd (v7 q hn)];exact q) λc _ _ q=>by rw[jd (v7 q hn)];exact q
end
def Rd(H:Hp)(a:aj)(u:HO):Prop:=H a=a8 u\/∃o,H a=a8 (.frz o u)
def Rd.ok{P:ay}{w:aD}{H:Hp}{h:aE}{a:aj}{u:HO}(r:Rd H a u)(x:HOk P w H h):ji P w H h a u:=by
 rcases r with r|⟨o,r⟩
 .exact x a u r
 .obtain⟨_,q⟩:=x a _ r;exact q
def Mut:Option HO->Prop
 |some (.lst _)=>True
 |some (.dK _)=>True
 |some (.dT _)=>True
 |some (.dI _ _)=>True
 |some (.set _ _)=>True
 |some (.ins _ _ _)=>True
 |some (.ext _)=>True
 |some (.cod _)=>True
 |_=>False
section
variable{P:ay}{w:aD}{H:Hp}{h h':aE}{x e:aj}{o':HO}
def HOk.write(ok:HOk P w H h)(mu:Mut (H x))(he:e=x\/H e=a8 (.own x))(k:∀b u,b≠e->h.get? b=a8 u->h'.get? b=a8 u)(heo:∃u,h'.get? e=a8 u)
  (new:ji P w (upd H x o') h' x o'):HOk P w (upd H x o') h':=λb u q=>by
 have nown:∀c y,H c=a8 (.own y)->c≠x:=λc y r z=>by subst z;rw[r]at mu;exact mu
 have ntup:∀c xs,H c=a8 (.tup xs)->c≠x:=λc xs r z=>by subst z;rw[r]at mu;exact mu
 have nfrz:∀c o u,H c=a8 (.frz o u)->c≠x:=λc o u r z=>by subst z;rw[r]at mu;exact mu
 by_cases hb:b=x
 .subst hb;rw[j8]at q;cases q;exact new
 .rw[jd hb]at q;by_cases hbe:b=e
  .have q':H b=a8 (.own x):=by
    rcases he with z|z
    .exact absurd (hbe.trans z) hb
    .rw[hbe];exact z
   rw[q]at q';cases q';obtain⟨v,hv⟩:=heo;exact⟨v,by rw[hbe];exact hv⟩
  .refine(ok b u q).stay (λc v hc r=>k c v ?_ r) (λc r=>by rw[jd (nown c b r)];exact r) (λc xs r=>by rw[jd (ntup c xs r)];exact r) λc o _ r=>by rw[jd (nfrz c o _ r)];exact r
   rcases hc with rfl|hc
   .exact hbe
   .rintro rfl;rcases he with z|z
    .exact nown c b hc z
    .rw[hc]at z;cases z;exact hb rfl
end
structure Un(fs ex:List aj)(H H':Hp)(h h':aE):Prop where
 keep:∀b o,h.get? b=a8 o->H b=ae->b∉fs->b∉ex->h'.get? b=a8 o
 slot:∀b o,h.get? b=a8 o->H b=ae->b∈fs->b∉ex->∃sl,h'.get? b=a8 { o with slots:=sl }
 free:∀b o,h.get? b=a8 o->H b=ae->b∉ex->H' b=ae
 there:∀b o,h.get? b=a8 o->b∉ex->∃o',h'.get? b=a8 o'
 tups:∀b xs,H b=a8 (.tup xs)->H' b=a8 (.tup xs)
 frzs:∀b o u,H b=a8 (.frz o u)->H' b=a8 (.frz o u)
 tbls:∀b ps,H b=a8 (.tbl ps)->∃more,H' b=a8 (.tbl (ps++more))
section
variable{fs fs' ex ex':List aj}{H H1 H2:Hp}{h h1 h2 h':aE}{a x e:aj}{o:HO}
def Un.any(u:Un fs ex H H1 h h1){b:aj}{ob:d8}(q:h.get? b=a8 ob)(n:H b=ae)(hx:b∉ex):∃sl,h1.get? b=a8 { ob with slots:=sl }:=by
 by_cases hb:b∈fs
 .exact u.slot b ob q n hb hx
 .exact⟨ob.slots,u.keep b ob q n hb hx⟩
def Un.kept(k:∀b u,h.get? b=a8 u->h'.get? b=a8 u):Un fs ex H H h h' :=
 ⟨λb ob q _ _ _=>k b ob q,λb ob q _ _ _=>⟨ob.slots,k b ob q⟩,λ_ _ _ n _=>n,λb ob q _=>⟨ob,k b ob q⟩,λ_ _ q=>q,λ_ _ _ q=>q,λ_ ps q=>⟨#[],by rw[q];simp⟩⟩
def Un.refl:Un fs ex H H h h:=Un.kept λ_ _ q=>q
def Un.laid(k:∀b u,h.get? b=a8 u->h'.get? b=a8 u)(hp:h.objs.size<=a)(hn:H a=ae):Un fs ex H (upd H a o) h h' where
 keep:=λb u q _ _ _=>k b u q
 slot:=λb u q _ _ _=>⟨u.slots,k b u q⟩
 free:=λb u q n _=>by rw[jd (Xa (Xi (xn q) hp))];exact n
 there:=λb u q _=>⟨u,k b u q⟩
 tups:=λb xs q=>by rw[jd (v7 q hn)];exact q
 frzs:=λb u xs q=>by rw[jd (v7 q hn)];exact q
 tbls:=λb ps q=>⟨#[],by rw[jd (v7 q hn),q];simp⟩
def Un.write(mu:Mut (H x))(he:e=x\/H e=a8 (.own x))(k:∀b u,b≠e->h.get? b=a8 u->h'.get? b=a8 u)(heo:∃u,h'.get? e=a8 u):Un fs ex H (upd H x o) h h':=by
 have hx:∀b,H b=ae->b≠x:=λb n z=>by subst z;rw[n]at mu;exact mu
 have hb:∀b,H b=ae->b≠e:=λb n z=>by
  subst z;rcases he with r|r
  .exact hx b n r
  .rw[n]at r;cases r
 have hm:∀b u,H b=a8 u->¬Mut (a8 u)->b≠x:=λb u q nm z=>by subst z;rw[q]at mu;exact nm mu
 refine⟨λb u q n _ _=>k b u (hb b n) q,λb u q n _ _=>⟨u.slots,k b u (hb b n) q⟩,λb u q n _=>by rw[jd (hx b n)];exact n,λb u q _=>?_,
  λb xs q=>by rw[jd (hm b _ q λz=>z)];exact q,λb u xs q=>by rw[jd (hm b _ q λz=>z)];exact q,λb ps q=>⟨#[],by rw[jd (hm b _ q λz=>z),q];simp⟩⟩
 by_cases hbe:b=e
 .subst hbe;exact heo
 .exact⟨u,k b u hbe q⟩
end
noncomputable def trk(h:aE)(H:Hp):List aj:=(aA h.objs.size).filter λa=>(H a).isSome
noncomputable def Ri(h:aE)(H:Hp):aE:=W.hideAll h (trk h H)
def j6z(h:aE)(H:Hp):(Ri h H).objs.size=h.objs.size:=W.hideAll_size _ _
def j9d{h:aE}{H:Hp}{b:aj}{o:d8}(e:h.get? b=a8 o)(n:H b=ae):(Ri h H).get? b=a8 o :=
 W.hideAll_get _ e λhm=>by have q:(H b).isSome=ah:=(Xp.mp hm).2;rw[n]at q;simp at q
def jcr{h:aE}{H:Hp}{b:aj}{o:d8}(e:(Ri h H).get? b=a8 o):h.get? b=a8 o/\H b=ae:=by
 have e':h.get? b=a8 o:=W.of_hideAll (trk h H) e;refine⟨e',?_⟩;cases q:H b with
 |none=>rfl
 |some x =>have hm:b∈trk h H:=Xp.mpr ⟨Xb.mpr (xn e'),by simp[q]⟩;have z:(Ri h H).get? b=ae:=W.hideAll_none (trk h H) hm;rw[z]at e;cases e
noncomputable def je6(g h:aE)(L:aj):List (aj×d8):=(aA h.objs.size).filterMap λa=>if a=L\/(g.get? a).isSome=ah then ae else(h.get? a).map λo=>(a,o)
noncomputable def rest(g h:aE)(L d:aj):List (aj×d8):=(je6 g h L).filter λp=>decide (p.1≠d)
structure Mod(K:k96)(mg:k99)(base:aE):Prop where
 kin:K.In base
 glob:base.Ns ax mg
 blt:∃mb,base.Ns dZ mb/\∀x:aq,x ≠ "__name__"->mb x=ff x
 nolimit:base.NoLimit
 bm:∃bm ob,mg "__builtins__" = a8 (.ref bm)/\bm≠dZ/\base.get? bm=a8 ob/\ob.cls=.type "module"/\ob.dict=a8 dZ/\ob.data=.plain
structure Cx where
 prog:ay
 w:aD
 K:k96
 mg:aq->Option ai
 base:aE
 A:aF
 N:List aq
 s₀:ao
 H₀:Hp
 env:d9
 outer:List d9
 stack:List d9
 ex:List aj
 fn:aq->Bool
 calm:Bool
 pn:List (aj×d8)
 xe:ai->ao->Prop
noncomputable def frs(l:List d9):List aj:=l.filterMap (·.frame)
noncomputable abbrev Cx.fs(X:Cx):List aj:=frs X.outer
def Vis(sc:b8)(x:aq):Prop:=sc.names.lookup x=a8 .local\/sc.names.lookup x=a8 .cell\/sc.names.lookup x=a8 .free
def Loc(sc:b8)(x:aq):Prop:=sc.names.lookup x=a8 .local\/sc.names.lookup x=a8 .cell
def Look(env:d9)(h:aE)(m:k99)(x:aq)(u:ai):Prop :=
 (env.kindOf x=a8 .local/\m x=a8 u)\/((env.kindOf x=a8 .cell\/env.kindOf x=a8 .free)/\∃c,env.cells.lookup x=a8 c/\h.IsCell c (a8 u))
structure Cx.Ok(X:Cx):Prop where
 mod:Mod X.K X.mg X.base
 kind:X.env.scope.kind=.function
 glob:X.env.globals=ax
 blt:X.env.builtins=dZ
 above:X.s₀.heap.objs.size<=X.env.locals
 inj:∀x y c,X.env.cells.lookup x=a8 c->X.env.cells.lookup y=a8 c->x=y
 has:∀x,(X.env.kindOf x=a8 .cell\/X.env.kindOf x=a8 .free)->∃c,X.env.cells.lookup x=a8 c
 cab:∀x c,X.fn x=ah->X.env.cells.lookup x=a8 c->X.s₀.heap.objs.size<=c
 hd:X.calm=ah->X.A.handled=ae
 frames:X.A.frames=a8 X.stack
 stk:X.stack=X.outer\/(X.stack=X.env::X.outer/\X.env.frame=a8 X.env.locals)
 exf:∀b∈X.ex,b≠X.env.locals/\∀x c,X.env.cells.lookup x=a8 c->c≠b
 bs:∀b o,X.base.get? b=a8 o->X.s₀.heap.get? b=a8 o/\X.H₀ b=ae
 bsz:X.base.objs.size<=X.s₀.heap.objs.size
 noex:∀b o,X.base.get? b=a8 o->b∉X.ex
 exfs:∀b∈X.ex,b∉X.fs
 funs:X.s₀.heap.FunFrames X.base X.outer
 frf:∀b∈X.fs,X.H₀ b=ae
structure Inv(X:Cx)(pins:k98)(σ:List (Option V))(H:Hp)(s:ao):Prop where
 ok:X.Ok
 os:s.os=X.s₀.os
 bare:eJ s.gens
 base:Un X.fs X.ex X.H₀ H X.s₀.heap s.heap
 loc:∃m,s.heap.Ns X.env.locals m/\∀(i:Nat)(x:aq)(v:V),X.N[i]?=a8 x->σ[i]?=a8 (a8 v)->Vis X.env.scope x->∃u,RelV v u/\Look X.env s.heap m x u
 cell:∀x c,X.env.cells.lookup x=a8 c->∃v,s.heap.IsCell c v
 free:H X.env.locals=ae
 freeC:∀x c,X.env.cells.lookup x=a8 c->H c=ae
 pin:∀p∈X.pn++pins,s.heap.get? p.1=a8 p.2/\H p.1=ae/\p.1≠X.env.locals/\p.1∉X.fs/\∀v,p.2.data≠.cell v
 hok:HOk X.prog X.w H s.heap
 len:σ.length=X.N.length
section
variable{X:Cx}{pins:k98}{σ:List (Option V)}{H H':Hp}{s:ao}{h':aE}
def Cx.Ok.nofr(ok:X.Ok){b:aj}{o:d8}(e:X.base.get? b=a8 o):b∉X.fs:=λhb=>by have:=(ok.funs.mem hb).1;rw[e]at this;cases this
def Inv.bs(I:Inv X pins σ H s):∀b o,X.base.get? b=a8 o->s.heap.get? b=a8 o/\H b=ae:=λb o e =>⟨I.base.keep b o (I.ok.bs b o e).1 (I.ok.bs b o e).2 (I.ok.nofr e) (I.ok.noex b o e),I.base.free b o (I.ok.bs b o e).1 (I.ok.bs b o e).2 (I.ok.noex b o e)⟩
def Inv.bk(I:Inv X pins σ H s):∀b o,X.base.get? b=a8 o->s.heap.get? b=a8 o:=λb o e=>(I.bs b o e).1
def Inv.mod(I:Inv X pins σ H s):Mod X.K X.mg X.base:=I.ok.mod
def Inv.kIn(I:Inv X pins σ H s):X.K.In s.heap:=I.ok.mod.kin.keeps I.bk
def Inv.lt(I:Inv X pins σ H s):X.env.locals<s.heap.objs.size:=let ⟨_,hn,_⟩:=I.loc;hn.lt
def Inv.sz(I:Inv X pins σ H s):X.s₀.heap.objs.size<=s.heap.objs.size:=Xg I.ok.above (dk I.lt)
def Inv.nofs(I:Inv X pins σ H s){a:aj}(h:s.heap.objs.size<=a):a∉X.fs:=λhb=>by obtain⟨_,o,ho,_⟩:=I.ok.funs.mem hb;exact absurd (Xi (xn ho) (Xg I.sz h)) (Ph _)
def Inv.cne(I:Inv X pins σ H s):∀x c,X.env.cells.lookup x=a8 c->c≠X.env.locals:=λx c e z=>by obtain⟨v,o,ho,hd⟩:=I.cell x c e;obtain⟨m,⟨o',es,ep,ho',hd',_⟩,_⟩:=I.loc;rw[z,ho']at ho;cases ho;rw[hd']at hd;cases hd
def Inv.funs(I:Inv X pins σ H s):s.heap.FunFrames X.base X.outer:=by
 have all:∀(l:List d9),(∀b∈frs l,b∈X.fs)->X.s₀.heap.FunFrames X.base l->s.heap.FunFrames X.base l:=by
  intro l;induction l with
  |nil=>intro _ _;trivial
  |cons env r ih =>intro hs hl;obtain⟨hk,⟨L,o,hf,hn,ho,hd⟩,hr⟩:=hl;have hL:L∈X.fs:=hs L (by unfold frs;rw[cy,hf];exact xq);obtain⟨sl,e⟩:=I.base.slot L o ho (I.ok.frf L hL) hL λz=>I.ok.exfs L z hL;exact⟨hk,⟨L,_,hf,hn,e,hd⟩,ih (λb hb=>hs b (by unfold frs;rw[cy,hf];exact xg _ hb)) hr⟩
 exact all X.outer (λ_ hb=>hb) I.ok.funs
def Inv.stack(I:Inv X pins σ H s):s.heap.FunFrames X.base X.stack:=by
 rcases I.ok.stk with e|⟨e,hf⟩
 .rw[e];exact I.funs
 .rw[e];obtain⟨m,hn,_⟩:=I.loc;refine .cons (by rw[I.ok.kind];decide) hf hn ?_ I.funs;exact Heap.get?_none_of_le (Xg I.ok.bsz I.ok.above)
def Inv.stkSub(I:Inv X pins σ H s):∀b∈frs X.stack,b∈X.env.locals::X.fs:=λb hb=>by
 rcases I.ok.stk with e|⟨e,hf⟩
 .rw[e]at hb;exact xg _ hb
 .rw[e]at hb;unfold frs at hb;rw[cy,hf]at hb;exact hb
def Inv.stkFree(I:Inv X pins σ H s):∀b∈frs X.stack,H b=ae:=λb hb=>by
 rcases xr.mp (I.stkSub b hb)with e|hb
 .rw[e];exact I.free
 .obtain⟨_,o,ho,_⟩:=I.ok.funs.mem hb;exact I.base.free b o ho (I.ok.frf b hb) λz=>I.ok.exfs b z hb
def Inv.step{g':Array fR}{t':Nat}{d':Drawn}{ch:List aj}(I:Inv X pins σ H s)
  (hch:∀b∈ch,(b∈X.ex\/X.s₀.heap.objs.size<=b)/\b≠X.env.locals/\(∀x c,X.env.cells.lookup x=a8 c->c≠b)/\∀p∈X.pn++pins,p.1≠b)
  (keep:∀b o,b≠X.env.locals->b∉X.fs->b∉ch->s.heap.get? b=a8 o->H b=ae->h'.get? b=a8 o)
  (slot:∀b o,b≠X.env.locals->b∈X.fs->b∉ch->s.heap.get? b=a8 o->H b=ae->∃sl,h'.get? b=a8 { o with slots:=sl }) (free:∀b o,b∉ch->s.heap.get? b=a8 o->H b=ae->H' b=ae)
  (there:∀b o,b∉ch->s.heap.get? b=a8 o->∃o',h'.get? b=a8 o')
  (tups:∀b xs,H b=a8 (.tup xs)->H' b=a8 (.tup xs)) (frzs:∀b o u,H b=a8 (.frz o u)->H' b=a8 (.frz o u)) (tbls:∀b ps,H b=a8 (.tbl ps)->∃more,H' b=a8 (.tbl (ps++more)))
  (ns:∀m,s.heap.Ns X.env.locals m->h'.Ns X.env.locals m) (hok:HOk X.prog X.w H' h') (hg:eJ g') :
  Inv X pins σ H' { s with heap:=h',gens:=g',drawn:=d',toks:=t' }:=by
 have neL:∀b o,X.s₀.heap.get? b=a8 o->b≠X.env.locals:=λb o e=>Xa (Xi (xn e) I.ok.above);have neC:∀b o,X.s₀.heap.get? b=a8 o->b∉X.ex->b∉ch:=λb o e hx hb=>by
  rcases(hch b hb).1 with z|z
  .exact hx z
  .exact absurd (Xi (xn e) z) (Ph _)
 have cellK:∀x c,X.env.cells.lookup x=a8 c->∀v,s.heap.IsCell c v->h'.IsCell c v:=λx c e v ⟨o,ho,hd⟩=>by
  have nch:c∉ch:=λz=>(hch c z).2.2.1 x c e rfl;by_cases hc:c∈X.fs
  .obtain⟨sl,q⟩:=slot c o (I.cne x c e) hc nch ho (I.freeC x c e);exact⟨_,q,hd⟩
  .exact⟨o,keep c o (I.cne x c e) hc nch ho (I.freeC x c e),hd⟩
 refine⟨I.ok,I.os,hg,⟨λb o e n hb hx=>?_,λb o e n hb hx=>?_,λb o e n hx=>?_,λb o e hx=>?_,λb xs e=>tups b xs (I.base.tups b xs e),λb o xs e=>frzs b o xs (I.base.frzs b o xs e),λb ps e=>?_⟩,?_,λx c e=>?_,?_,λx c e=>?_,λp hp=>?_,hok,I.len⟩
 .exact keep b o (neL b o e) hb (neC b o e hx) (I.base.keep b o e n hb hx) (I.base.free b o e n hx)
 .obtain⟨sl,e1⟩:=I.base.slot b o e n hb hx;obtain⟨sl',e2⟩:=slot b _ (neL b o e) hb (neC b o e hx) e1 (I.base.free b o e n hx);exact⟨sl',e2⟩
 .obtain⟨o',e1⟩:=I.base.there b o e hx;exact free b o' (neC b o e hx) e1 (I.base.free b o e n hx)
 .obtain⟨o',e1⟩:=I.base.there b o e hx;exact there b o' (neC b o e hx) e1
 .obtain⟨m1,e1⟩:=I.base.tbls b ps e;obtain⟨m2,e2⟩:=tbls b _ e1;exact⟨m1++m2,by rw[e2,Array.append_assoc]⟩
 .obtain⟨m,hn,hl⟩:=I.loc;refine⟨m,ns m hn,λi x v e1 e2 e3=>?_⟩;obtain⟨u,r,l⟩:=hl i x v e1 e2 e3;refine⟨u,r,?_⟩;rcases l with l|⟨k,c,e,z⟩
  .exact .inl l
  .exact .inr ⟨k,c,e,cellK x c e _ z⟩
 .obtain⟨v,z⟩:=I.cell x c e;exact⟨v,cellK x c e v z⟩
 .obtain⟨m,⟨o,_,_,ho,_⟩,_⟩:=I.loc;exact free _ o (λz=>(hch _ z).2.1 rfl) ho I.free
 .obtain⟨v,o,ho,hd⟩:=I.cell x c e;exact free c o (λz=>(hch c z).2.2.1 x c e rfl) ho (I.freeC x c e)
 .obtain⟨e,n,ne,nf,d⟩:=I.pin p hp;have nch:p.1∉ch:=λz=>(hch p.1 z).2.2.2 p hp rfl;exact⟨keep p.1 p.2 ne nf nch e n,free p.1 p.2 nch e n,ne,nf,d⟩
def Inv.un{t':Nat}(I:Inv X pins σ H s)(u:Un X.fs [] H H' s.heap h')(hok:HOk X.prog X.w H' h'):Inv X pins σ H' { s with heap:=h',toks:=t' }:=by
 obtain⟨m,⟨o,es,ep,ho,r⟩,_⟩:=id I.loc;obtain⟨sl,hL⟩:=u.any ho I.free (by simp);exact I.step (g':=s.gens) (d':=s.drawn) (ch:=[]) (λ_ z=>nomatch z) (λb o _ hb _ e n=>u.keep b o e n hb (by simp)) (λb o _ hb _ e n=>u.slot b o e n hb (by simp)) (λb o _ e n=>u.free b o e n (by simp)) (λb o _ e=>u.there b o e (by simp)) u.tups u.frzs u.tbls (λm' hm=>by
  obtain⟨o',es',ep',ho',r'⟩:=hm
  rw[ho]at ho';cases ho'
  exact⟨_,es',ep',hL,r'⟩) hok I.bare
def Inv.call{g':Array fR}{t':Nat}{d':Drawn}{ch:List aj}(I:Inv X pins σ H s)(u:Un (frs X.stack) ch H H' s.heap h')(hok:HOk X.prog X.w H' h')(hg:eJ g')
  (hch:∀b∈ch,(b∈X.ex\/X.s₀.heap.objs.size<=b)/\b≠X.env.locals/\(∀x c,X.env.cells.lookup x=a8 c->c≠b)/\∀p∈X.pn++pins,p.1≠b) :
  Inv X pins σ H' { s with heap:=h',gens:=g',drawn:=d',toks:=t' }:=by
 obtain⟨m,⟨o,es,ep,ho,r⟩,_⟩:=id I.loc;obtain⟨sl,hL⟩:=u.any ho I.free λz=>(hch _ z).2.1 rfl;exact I.step (ch:=ch) hch (λb o hL hb hc e n=>u.keep b o e n (λz=>(xr.mp (I.stkSub b z)).elim hL hb) hc) (λb o _ _ hc e n=>u.any e n hc) (λb o hc e n=>u.free b o e n hc) (λb o hc e=>u.there b o e hc) u.tups u.frzs u.tbls (λm' hm=>by
  obtain⟨o',es',ep',ho',r'⟩:=hm
  rw[ho]at ho';cases ho'
  exact⟨_,es',ep',hL,r'⟩) hok hg
def Inv.turned{t':Nat}{it:aj}(I:Inv X pins σ H s)(k:∀b o,b≠it->s.heap.get? b=a8 o->h'.get? b=a8 o)(hn:H it=ae)(hL:it≠X.env.locals)
  (h1:it∈X.ex\/X.s₀.heap.objs.size<=it) (h2:∀x c,X.env.cells.lookup x=a8 c->c≠it) (h3:∀p∈X.pn++pins,p.1≠it):Inv X pins σ H { s with heap:=h',toks:=t' }:=by
 have nit:∀b u,H b=a8 u->b≠it:=λb u e z=>by rw[z,hn]at e;cases e
 refine I.step (g':=s.gens) (d':=s.drawn) (ch:=[it]) (λb hb=>?_) (λb o _ _ hc e _=>k b o (λz=>hc (by simp[z])) e) (λb o _ _ hc e _=>⟨o.slots,k b o (λz=>hc (by simp[z])) e⟩) (λ_ _ _ _ n=>n)
  (λb o hc e=>⟨o,k b o (λz=>hc (by simp[z])) e⟩) (λ_ _ e=>e) (λ_ _ _ e=>e) (λb ps e=>⟨#[],by rw[e];simp⟩) (λm hm=>?_) (λb u e=>?_) I.bare
 .have e:b=it:=by simpa using hb
  subst e;exact⟨h1,hL,h2,h3⟩
 .obtain⟨o,es,ep,ho,r⟩:=hm;exact⟨o,es,ep,k _ o (bq hL) ho,r⟩
 .refine(I.hok b u e).stay (λc v hc q=>k c v ?_ q) (λ_ q=>q) (λ_ _ q=>q) λ_ _ _ q=>q;rcases hc with z|z
  .rw[z];exact nit b u e
  .exact nit c _ z
def Inv.tok(I:Inv X pins σ H s)(t:Nat):Inv X pins σ H { s with toks:=t }:=I.un (h':=s.heap) (t':=t) Un.refl I.hok
def Inv.kept{t':Nat}(I:Inv X pins σ H s)(k:∀b u,s.heap.get? b=a8 u->h'.get? b=a8 u):Inv X pins σ H { s with heap:=h',toks:=t' }:=I.un (Un.kept k) (I.hok.kept k)
def Inv.laid{a:aj}{o:HO}{t':Nat}(I:Inv X pins σ H s)(k:∀b u,s.heap.get? b=a8 u->h'.get? b=a8 u)(hp:s.heap.objs.size<=a)(new:ji X.prog X.w (upd H a o) h' a o) :
  Inv X pins σ (upd H a o) { s with heap:=h',toks:=t' }:=I.un (Un.laid k hp (I.hok.fresh hp)) (I.hok.laid k hp new)
def Inv.write{x e:aj}{o:HO}{t':Nat}(I:Inv X pins σ H s)(mu:Mut (H x))(he:e=x\/H e=a8 (.own x))(k:∀b u,b≠e->s.heap.get? b=a8 u->h'.get? b=a8 u)(heo:∃u,h'.get? e=a8 u)
  (new:ji X.prog X.w (upd H x o) h' x o):Inv X pins σ (upd H x o) { s with heap:=h',toks:=t' }:=I.un (Un.write mu he k heo) (I.hok.write mu he k heo new)
def Inv.pins_of{pins':k98}(I:Inv X pins σ H s)(h:∀p∈pins',s.heap.get? p.1=a8 p.2/\H p.1=ae/\p.1≠X.env.locals/\p.1∉X.fs/\∀v,p.2.data≠.cell v):Inv X pins' σ H s :=
 ⟨I.ok,I.os,I.bare,I.base,I.loc,I.cell,I.free,I.freeC,λp hp=>(Xw.mp hp).elim (λz=>I.pin p (Pu _ z)) (h p),I.hok,I.len⟩
def j15{N:List aq}(hN:N.Nodup){i j:Nat}{x:aq}(a:N[i]?=a8 x)(b:N[j]?=a8 x):i=j:=by obtain⟨h1,e1⟩:=X6.mp a;obtain⟨h2,e2⟩:=X6.mp b;exact(List.getElem_inj hN).mp (e1.trans e2.symm)
def Ia{M:iK}{A:aF}{E:k97}{i:Nat}{x:aq}{v:V}{u:ai}{Q:Unit->ao->Prop}(I:Inv X pins σ H s)(hN:X.N.Nodup)(hi:X.N[i]?=a8 x)(hx:Loc X.env.scope x)(r:RelV v u)
  (h:∀s',Inv X pins (σ.set i (a8 v)) H s'->(∃a,cN a s.heap s'.heap/\(a=X.env.locals\/X.env.cells.lookup x=a8 a))->Q () s') (hf:X.fn x=ah\/X.env.scope.names.lookup x=a8 .local:=by first|exact .inl rfl|exact .inr rfl|assumption):aw M A (storeName X.env x u) Q E s:=by
 obtain⟨m,hn,hl⟩:=id I.loc;have hcls:(X.env.scope.kind==.class || (X.env.scope.kind==.module&&X.env.locals != X.env.globals))=a9:=by rw[I.ok.kind];rfl
 have hiσ:i<σ.length:=by rw[I.len];exact(X6.mp hi).1
 have cne:=I.cne;have tracked:∀{a:aj}{h':aE},(∃o,s.heap.get? a=a8 o/\H a=ae)->cN a s.heap h'->HOk X.prog X.w H h':=λ{a h'} ha hs b ob e=>by
  obtain⟨_,_,hfree⟩:=ha;refine(I.hok b ob e).stay (λc w' hc q=>(hs.2 c ?_).trans q) (λ_ q=>q) (λ_ _ q=>q) λ_ _ _ q=>q;rintro rfl;rcases hc with rfl|hc
  .rw[hfree]at e;cases e
  .rw[hfree]at hc;cases hc
 rcases hx with hk|hk
 .refine wpAny_storeName_local hk hn (λh' hn' hs=>?_) hcls;obtain⟨oL,_,_,hoL,_⟩:=id hn;refine h _ ⟨I.ok,I.os,I.bare,⟨λb o e n hb hx=>?_,λb o e n hb hx=>?_,I.base.free,λb o e hx=>?_,I.base.tups,I.base.frzs,I.base.tbls⟩,⟨_,hn',λj y v' e1 e2 e3=>?_⟩,λy c e=>?_,I.free,I.freeC,λp hp=>?_,tracked ⟨oL,hoL,I.free⟩ hs,by simpa using I.len⟩ ⟨_,hs,.inl rfl⟩
  .exact(hs.2 b (Xa (Xi (xn e) I.ok.above))).trans (I.base.keep b o e n hb hx)
  .obtain⟨sl,e1⟩:=I.base.slot b o e n hb hx;exact⟨sl,(hs.2 b (Xa (Xi (xn e) I.ok.above))).trans e1⟩
  .obtain⟨o',e1⟩:=I.base.there b o e hx;exact⟨o',(hs.2 b (Xa (Xi (xn e) I.ok.above))).trans e1⟩
  .by_cases hj:j=i
   .subst hj;rw[hi]at e1;cases e1;rw[cQ hiσ]at e2;cases e2;exact⟨u,r,.inl ⟨hk,by simp⟩⟩
   .rw[iY (bq hj)]at e2;obtain⟨u',r',q⟩:=hl j y v' e1 e2 e3;refine⟨u',r',?_⟩;rcases q with ⟨k,e⟩|⟨k,c,e,z⟩
    .refine .inl ⟨k,?_⟩;have:y≠x:=λe=>hj (j15 hN e1 (e▸hi));simp[this,e]
    .exact .inr ⟨k,c,e,z.sameBut hs (cne y c e)⟩
  .obtain⟨w',z⟩:=I.cell y c e;exact⟨w',z.sameBut hs (cne y c e)⟩
  .obtain⟨e,n,ne,nf,d⟩:=I.pin p hp;exact⟨(hs.2 p.1 ne).trans e,n,ne,nf,d⟩
 .have hfn:X.fn x=ah:=by
   rcases hf with z|z
   .exact z
   .rw[z]at hk;cases hk
  obtain⟨c,hc⟩:=I.ok.has x (.inl hk);obtain⟨w',z⟩:=I.cell x c hc;refine wpAny_storeName_cell I.ok.kind hk hc z (λh' hc' hs=>?_);obtain⟨oc,hoc,hocd⟩:=id z;refine h { s with heap:=h' } ⟨I.ok,I.os,I.bare,⟨λb o e n hb hx=>?_,λb o e n hb hx=>?_,I.base.free,λb o e hx=>?_,I.base.tups,I.base.frzs,I.base.tbls⟩,⟨m,hn.sameBut hs (bq (cne x c hc)),λj y v' e1 e2 e3=>?_⟩,λy c' e=>?_,I.free,I.freeC,λp hp=>?_,tracked ⟨oc,hoc,I.freeC x c hc⟩ hs,by simpa using I.len⟩ ⟨c,hs,.inr hc⟩
  .exact(hs.2 b (Xa (Xi (xn e) (I.ok.cab x c hfn hc)))).trans (I.base.keep b o e n hb hx)
  .obtain⟨sl,e1⟩:=I.base.slot b o e n hb hx;exact⟨sl,(hs.2 b (Xa (Xi (xn e) (I.ok.cab x c hfn hc)))).trans e1⟩
  .obtain⟨o',e1⟩:=I.base.there b o e hx;exact⟨o',(hs.2 b (Xa (Xi (xn e) (I.ok.cab x c hfn hc)))).trans e1⟩
  .by_cases hj:j=i
   .subst hj;rw[hi]at e1;cases e1;rw[cQ hiσ]at e2;cases e2;exact⟨u,r,.inr ⟨.inl hk,c,hc,hc'⟩⟩
   .rw[iY (bq hj)]at e2;obtain⟨u',r',q⟩:=hl j y v' e1 e2 e3;refine⟨u',r',?_⟩;rcases q with q|⟨k,c',e,z'⟩
    .exact .inl q
    .refine .inr ⟨k,c',e,z'.sameBut hs ?_⟩;rintro rfl;exact hj (j15 hN e1 (I.ok.inj _ _ _ e hc▸hi))
  .by_cases hcc:c'=c
   .subst hcc;exact⟨_,hc'⟩
   .obtain⟨w2,z2⟩:=I.cell y c' e;exact⟨w2,z2.sameBut hs hcc⟩
  .obtain⟨e,n,ne,nf,d⟩:=I.pin p hp;refine⟨(hs.2 p.1 ?_).trans e,n,ne,nf,d⟩;intro q;rw[q,hoc]at e;have q':oc=p.2:=az e;exact d w' (by rw[<-q'];exact hocd)
def j0i{M:iK}{A:aF}{E:k97}{i:Nat}{x:aq}{v:V}{u:ai}{Q:Unit->ao->Prop}(I:Inv X pins σ H s)(hN:X.N.Nodup)(hi:X.N[i]?=a8 x)(hx:Loc X.env.scope x)(r:RelV v u)
  (h:∀s',Inv X pins (σ.set i (a8 v)) H s'->Q () s') (hf:X.fn x=ah\/X.env.scope.names.lookup x=a8 .local:=by first|exact .inl rfl|exact .inr rfl|assumption):aw M A (storeName X.env x u) Q E s :=
 Ia I hN hi hx r (λs' I' _=>h s' I') hf
def Inv.call'{s':ao}{ch:List aj}(I:Inv X pins σ H s)(ho:s'.os=s.os)(u:Un (frs X.stack) ch H H' s.heap s'.heap)(hok:HOk X.prog X.w H' s'.heap)(hg:eJ s'.gens)
  (hch:∀b∈ch,(b∈X.ex\/X.s₀.heap.objs.size<=b)/\b≠X.env.locals/\(∀x c,X.env.cells.lookup x=a8 c->c≠b)/\∀p∈X.pn++pins,p.1≠b):Inv X pins σ H' s':=by
 obtain⟨h',g',d',t',o'⟩:=s';have e:o'=s.os:=ho;subst e;exact I.call (g':=g') (t':=t') (d':=d') u hok hg hch
end
abbrev XK:=ai->Option aj->Hp->Prop
noncomputable abbrev St:=List (Option V)
abbrev VK:=V->Hp->Prop
abbrev TE:=St->Hp->VK->Prop
abbrev TT:=St->Hp->(Bool->Hp->Prop)->Prop
abbrev TA:=St->Hp->(List V->Hp->Prop)->Prop
structure Ends where
 nx:St->Hp->Prop
 rt:VK
 bk:St->Hp->Prop:=λ_ _=>False
 ct:St->Hp->Prop:=λ_ _=>False
abbrev TS:=Ends->St->Hp->Prop
def EP(X:Cx)(pins:k98)(σ:St)(Q:VK)(u:ai)(s':ao):Prop:=∃v H',Inv X pins σ H' s'/\RelV v u/\Q v H'
def TP(X:Cx)(pins:k98)(σ:St)(Q:Bool->Hp->Prop)(b:Bool)(s':ao):Prop:=∃H',Inv X pins σ H' s'/\Q b H'
def AP(X:Cx)(pins:k98)(σ:St)(Q:List V->Hp->Prop)(us:List ai)(s':ao):Prop:=∃vs H',Inv X pins σ H' s'/\Vals vs us/\Q vs H'
def Ext(X:Cx)(H1 H2:Hp)(s':ao):Prop:=∀b,H2 b=H1 b\/∃x o v,X.env.cells.lookup x=a8 b/\X.fn x=ah/\H2 b=a8 (.frz o (.own 0))/\s'.heap.get? b=a8 o/\o.data=.cell v
def Ext.refl{X:Cx}{H:Hp}{s':ao}:Ext X H H s':=λ_=>.inl rfl
def SP(X:Cx)(pins:k98)(D:Ends)(f:Flow)(s':ao):Prop :=
 match f with
 |.next=>∃σ' H',Inv X pins σ' H' s'/\D.nx σ' H'
 |.brk=>∃σ' H',Inv X pins σ' H' s'/\D.bk σ' H'
 |.cont=>∃σ' H',Inv X pins σ' H' s'/\D.ct σ' H'
 |.ret u=>∃v σ' H' H2,Inv X pins σ' H' s'/\RelV v u/\Ext X H' H2 s'/\D.rt v H2
def PE(X:Cx)(e:au)(t:TE):Prop :=
 ∀(pins:k98) (s:ao) (σ:St) (H:Hp) (Q:VK),Inv X pins σ H s->t σ H Q->aw (aB X.prog X.w) X.A (aC e X.env) (EP X pins σ Q) X.xe s
def PT(X:Cx)(e:au)(t:TT):Prop :=
 ∀(pins:k98) (s:ao) (σ:St) (H:Hp) (Q:Bool->Hp->Prop),Inv X pins σ H s->t σ H Q->aw (aB X.prog X.w) X.A (gw e X.env (aC e X.env)) (TP X pins σ Q) X.xe s
def PW(X:Cx)(e:au)(t:TT):Prop :=
 ∀(whole:mZ ai)(pins:k98) (s:ao) (σ:St) (H:Hp) (Q:Bool->Hp->Prop),Inv X pins σ H s->t σ H Q->aw (aB X.prog X.w) X.A (gw e X.env whole) (TP X pins σ Q) X.xe s
def PA(X:Cx)(es:List au)(t:TA):Prop :=
 ∀(pos:aO)(pins:k98) (s:ao) (σ:St) (H:Hp) (Q:List V->Hp->Prop),Inv X pins σ H s->t σ H Q->aw (aB X.prog X.w) X.A (iw (aP pos (af es X.env))) (AP X pins σ Q) X.xe s
def PS(X:Cx)(st:aS)(t:TS):Prop :=
 ∀(pins:k98) (s:ao) (σ:St) (H:Hp) (D:Ends),Inv X pins σ H s->t D σ H->aw (aB X.prog X.w) X.A (exec st X.env) (SP X pins D) X.xe s
def PSs(X:Cx)(st:List aS)(t:TS):Prop :=
 ∀(pins:k98) (s:ao) (σ:St) (H:Hp) (D:Ends),Inv X pins σ H s->t D σ H->aw (aB X.prog X.w) X.A (execs st X.env) (SP X pins D) X.xe s
def thn{α:Type}{t:mZ α}{Q Q':α->ao->Prop}{M:iK}{A:aF}{E:k97}{s:ao}(h:aw M A t Q E s)(hQ:∀a s,Q a s->Q' a s):aw M A t Q' E s:=bB h hQ λ_ _ x=>x
section
variable{X:Cx}
def bin{a b:au}{ta tb:TE}(ha:PE X a ta)(hb:PE X b tb){pins:k98}{s:ao}{σ:St}{H:Hp}{R:V->V->Hp->Prop}(I:Inv X pins σ H s)(h:ta σ H λx H1=>tb σ H1 λy H2=>R x y H2)
  {α:Type} {Q:α->ao->Prop} {f:ai->ai->mZ α}
  (hf:∀v u s2 x y H2,Inv X pins σ H2 s2->RelV x v->RelV y u->R x y H2->aw (aB X.prog X.w) X.A (f v u) Q X.xe s2) :
  aw (aB X.prog X.w) X.A (aC a X.env) (λv s₁=>aw (aB X.prog X.w) X.A (aC b X.env) (λu s₂=>aw (aB X.prog X.w) X.A (f v u) Q X.xe s₂) X.xe s₁) X.xe s:=by
 refine thn (ha pins s σ H _ I h) λv s1 ⟨x,H1,I1,r1,q1⟩=>?_;refine thn (hb pins s1 σ H1 _ I1 q1) λu s2 ⟨y,H2,I2,r2,q2⟩=>?_;exact hf v u s2 x y H2 I2 r1 r2 q2
def jl0(i:Nat):TE:=λσ H Q=>∃v,σ[i]?=a8 (a8 v)/\Q v H
def tC(v:V):TE:=λ_ H Q=>Q v H
def Jc {i:Nat} {x:aq} {pos:aO} (hN:X.N[i]?=a8 x) (hv:Vis X.env.scope x) (hd:(x==k9a)=a9:=by decide) (hcd:(x==k9b)=a9:=by decide):PE X (.Name x pos) (jl0 i):=by
 intro pins s σ H Q I h;obtain⟨v,e,h⟩:=h;obtain⟨m,hn,hl⟩:=I.loc;obtain⟨u,r,l⟩:=hl i x v hN e hv;have fin:EP X pins σ Q u s:=⟨v,H,I,r,h⟩
 rcases l with ⟨hk,hm⟩|⟨hk,c,hc,hcell⟩
 .exact kY (wpAny_loadName_local I.ok.kind hk hn hm fin) hd
 .rcases hk with hk|hk
  .exact kY (wpAny_loadName_cell I.ok.kind hk hc hcell fin) hd
  .exact kY (wpAny_loadName_free I.ok.kind hk hc hcell fin hcd) hd
def j0x{i j pos}:PE X (.Constant (.int i) j pos) (tC (.int i)):=λ_ _ _ H _ I h=>wpAny_Constant_int ⟨.int i,H,I.tok _,⟨_,rfl⟩,h⟩
def jjf{b j pos}:PE X (.Constant (.bool b) j pos) (tC (.bl b)):=λ_ _ _ H _ I h=>Constant_bool ⟨.bl b,H,I,rfl,h⟩
def j68{j pos}:PE X (.Constant .none j pos) (tC .non):=λ_ _ _ H _ I h=>nA ⟨.non,H,I,rfl,h⟩
def j66{x j pos}:PE X (.Constant (.str x) j pos) (tC (.str x)):=λ_ _ _ H _ I h=>Calls.Constant_str ⟨.str x,H,I.tok _,⟨_,rfl⟩,h⟩
def Gl(X:Cx)(x:aq):Prop:=X.env.kindOf x=a8 .globalImplicit
def Yz{E:k97}{pins:k98}{s:ao}{σ:St}{H:Hp}{x:aq}{u:ai}{pos:aO}{Q:k97}(I:Inv X pins σ H s)(hg:Gl X x)(hm:X.mg x=a8 u)(h:Q u s)
  (hd:(x==k9a)=a9:=by decide):aw (aB X.prog X.w) X.A (aC (.Name x pos) X.env) Q E s :=
 gH I.ok.kind hg (Calls.loadGlobal_global (by rw[I.ok.glob];exact I.mod.glob.keeps I.bk) hm h) hd
def Jg{E:k97}{pins:k98}{s:ao}{σ:St}{H:Hp}{x:aq}{u:ai}{pos:aO}{Q:k97}(I:Inv X pins σ H s)(hg:Gl X x)(hm:X.mg x=ae)(hv:ff x=a8 u)(h:Q u s)
  (hn:x ≠ "__name__":=by decide) (hd:(x==k9a)=a9:=by decide):aw (aB X.prog X.w) X.A (aC (.Name x pos) X.env) Q E s:=by
 obtain⟨mb,h1,h2⟩:=I.mod.blt;exact gH I.ok.kind hg (Calls.loadGlobal_builtin (by rw[I.ok.glob];exact I.mod.glob.keeps I.bk) hm (by rw[I.ok.blt];exact h1.keeps I.bk) ((h2 x hn).trans hv) h) hd
def jcl {x:aq} {v:V} {u:ai} {pos:aO} (hg:Gl X x) (hm:X.mg x=a8 u) (r:RelV v u) (hd:(x==k9a)=a9:=by decide):PE X (.Name x pos) (tC v) :=
 λ_ _ _ H _ I h=>Yz I hg hm ⟨v,H,I,r,h⟩ hd
def t2I(ta tb:TE)(k:Int->Int->Hp->Prop):St->Hp->Prop:=λσ H=>ta σ H λx H1=>tb σ H1 λy H2=>∃i j,x=.int i/\y=.int j/\k i j H2
def jld(ta tb:TE):TE:=λσ H Q=>t2I ta tb (λi j H2=>Q (.int (i+j)) H2) σ H
variable{a b:au}{ta tb:TE}{pos:aO}
def jfm(ha:PE X a ta)(hb:PE X b tb):PE X (.BinOp a .Add b pos) (jld ta tb):=by intro pins s σ H Q I h;refine wpAny_BinOp (bin ha hb I h λv u s2 x y H2 I2 rx ry q=>?_);obtain⟨i,j,rfl,rfl,q⟩:=q;obtain⟨t,rfl⟩:=rx;obtain⟨t',rfl⟩:=ry;exact add_int ⟨.int _,H2,I2.tok _,⟨_,rfl⟩,q⟩
def PC(X:Cx)(op:iL)(a b:au)(t:TE):Prop :=
 ∀(pins:k98) (s:ao) (σ:St) (H:Hp) (Q:VK),Inv X pins σ H s->t σ H Q ->
  aw (aB X.prog X.w) X.A (aC a X.env) (λv s₁=>aw (aB X.prog X.w) X.A (aC b X.env) (λu s₂=>aw (aB X.prog X.w) X.A (aX op v u) (EP X pins σ Q) X.xe s₂) X.xe s₁) X.xe s
def j8t(b:au){op:iL}(h:op≠.In)(h2:op≠.NotIn):aH op b=a9:=by
 have e1:(op==CmpOp.In)=a9:=by cases op<;>first|rfl|exact absurd rfl h
 have e2:(op==CmpOp.NotIn)=a9:=by cases op<;>first|rfl|exact absurd rfl h2
 cases b<;>simp[aH,e1,e2]
def jl8(ta:TE):TE:=λσ H Q=>ta σ H λx H1=>Q (.bl (decide (x=.non))) H1
def RelV.none_iff{x:V}{v:ai}(r:RelV x v):(v==aY)=decide (x=.non):=by
 cases x with
 |non=>cases r;rfl
 |bl _=>cases r;rfl
 |int _=>obtain⟨t,rfl⟩:=r;rfl
 |str _=>obtain⟨t,rfl⟩:=r;rfl
 |byt _=>obtain⟨t,rfl⟩:=r;rfl
 |flt _=>obtain⟨t,rfl⟩:=r;rfl
 |ref _=>cases r;rfl
 |ty _=>cases r;rfl
def jfn{j pos'}(ha:PE X a ta):PC X .Is a (.Constant .none j pos') (jl8 ta):=by intro pins s σ H Q I h;refine thn (ha pins s σ H _ I h) λv s1 ⟨x,H1,I1,r1,q1⟩=>?_;exact nA (is_none_gen ⟨.bl _,H1,I1,by rw[r1.none_iff];rfl,q1⟩)
def tB(t:TE):TT:=λσ H Q=>t σ H λx H1=>∃c,x=.bl c/\Q c H1
def jff{op:iL}{t:TE}(h:PC X op a b t)(h1:aH op b=a9:=by first|exact j8t _ (by decide) (by decide)|rfl):PT X (.Compare a [op] [b] pos) (tB t):=by intro pins s σ H Q I hw;refine ko (thn (h pins s σ H _ I hw) λv s1 h1=>thn h1 λu s2 h2=>thn h2 λc s3 ⟨x,H1,I1,r1,q1⟩=>?_) h1;obtain⟨d,rfl,q⟩:=q1;cases r1;exact bE ⟨H1,I1,q⟩
def jfd{e:au}{t:TE}(h:PE X e t)(he:∀whole,gw e X.env whole=(do let v <-whole;lC e.pos;iy [v] (truthy v)):=by intro _;rfl):PT X e (tB t):=by intro pins s σ H Q I hw;refine isTrue_plain (thn (h pins s σ H _ I hw) λv s1 ⟨x,H1,I1,r1,q1⟩=>?_) (he _);obtain⟨d,rfl,q⟩:=q1;cases r1;exact bE ⟨H1,I1,q⟩
variable{tA tB':TT}{rest:List au}
def jlc(t u:TT):TT:=λσ H Q=>t σ H λc H1=>if c=ah then u σ H1 Q else Q a9 H1
def tOr(t u:TT):TT:=λσ H Q=>t σ H λc H1=>if c=ah then Q ah H1 else u σ H1 Q
def jl4(t:TT):TT:=λσ H Q=>t σ H λc H1=>Q (!c) H1
def jcg(ha:PT X a tA):PW X (.BoolOp .And [a] pos) tA:=by
 intro wh pins s σ H Q I h;refine isTrue_and (thn (ha pins s σ H Q I h) λc s1 e=>?_);cases c with
 |true=>exact isTrue_and_nil e
 |false=>exact e
def jfb(ha:PT X a tA):PW X (.BoolOp .Or [a] pos) tA:=by
 intro wh pins s σ H Q I h;refine isTrue_or (thn (ha pins s σ H Q I h) λc s1 e=>?_);cases c with
 |false=>exact isTrue_or_nil e
 |true=>exact e
def jfc(ha:PT X a tA)(hb:PW X (.BoolOp .And (b::rest) pos) tB'):PW X (.BoolOp .And (a::b::rest) pos) (jlc tA tB'):=by
 intro wh pins s σ H Q I h;refine isTrue_and (thn (ha pins s σ H _ I h) λc s1 ⟨H1,I1,q1⟩=>?_);cases c with
 |true=>exact hb wh pins s1 σ H1 Q I1 q1
 |false=>exact⟨H1,I1,q1⟩
def jjc(ha:PT X a tA)(hb:PW X (.BoolOp .Or (b::rest) pos) tB'):PW X (.BoolOp .Or (a::b::rest) pos) (tOr tA tB'):=by
 intro wh pins s σ H Q I h;refine isTrue_or (thn (ha pins s σ H _ I h) λc s1 ⟨H1,I1,q1⟩=>?_);cases c with
 |true=>exact⟨H1,I1,q1⟩
 |false=>exact hb wh pins s1 σ H1 Q I1 q1
def jfe(ha:PT X a tA):PT X (.UnaryOp .Not a pos) (jl4 tA):=by intro pins s σ H Q I h;exact isTrue_not (ha pins s σ H (λc H1=>Q (!c) H1) I h)
def jiw(ta tb:TE):TE:=λσ H Q=>ta σ H λx H1=>∃c,x=.bl c/\if c=ah then tb σ H1 Q else Q (.bl a9) H1
def j67{op}{t:TE}(h:PE X a t):PE X (.BoolOp op [a] pos) t:=λpins s σ H Q I hw=>BoolOp_one (h pins s σ H Q I hw)
def jfl(ha:PE X a ta)(hb:PE X (.BoolOp .And (b::rest) pos) tb):PE X (.BoolOp .And (a::b::rest) pos) (jiw ta tb):=by
 intro pins s σ H Q I h;refine BoolOp_and (thn (ha pins s σ H _ I h) λv s1 ⟨x,H1,I1,r1,q1⟩=>?_);obtain⟨c,rfl,q1⟩:=q1;cases r1;refine bE ?_;cases c with
 |true=>exact hb pins s1 σ H1 Q I1 q1
 |false=>exact⟨.bl a9,H1,I1,rfl,q1⟩
def tIf(t:TT)(ta tb:TE):TE:=λσ H Q=>t σ H λc H1=>if c=ah then ta σ H1 Q else tb σ H1 Q
def j0y{c:au}(hc:PT X c tA)(ha:PE X a ta)(hb:PE X b tb):PE X (.IfExp c a b pos) (tIf tA ta tb):=by
 intro pins s σ H Q I h;refine wpAny_IfExp (thn (hc pins s σ H _ I h) λd s1 ⟨H1,I1,q1⟩=>?_);cases d with
 |true=>exact ha pins s1 σ H1 Q I1 q1
 |false=>exact hb pins s1 σ H1 Q I1 q1
end
def SqL(K:k96)(H:Hp)(a:aj)(xs:List V):Prop :=
 Rd H a (.lst xs) \/
  ∃(o:d8)(its:Array ai)(n:Nat),K.lookup a=a8 o/\o.cls=.type "list"/\o.dict=ae/\o.data=.seq its n/\its.size<=av/\Vals xs its.toList
def SqT(K:k96)(H:Hp)(a:aj)(xs:List V):Prop :=
 Rd H a (.tup xs) \/
  ∃(o:d8)(its:Array ai)(n:Nat),K.lookup a=a8 o/\o.cls=.type "tuple"/\o.dict=ae/\o.data=.seq its n/\its.size<=av/\Vals xs its.toList
noncomputable def jm1:ai->Option V
 |.none=>a8 .non
 |.bool b=>a8 (.bl b)
 |.int i _=>a8 (.int i)
 |.str x _=>a8 (.str x)
 |.bytes b _=>a8 (.byt b)
 |.float b _=>a8 (.flt b)
 |.ref a=>a8 (.ref a)
 |.type n=>a8 (.ty n)
 |_=>ae
def RelV.abs{x:V}{u:ai}(r:RelV x u):jm1 u=a8 x:=by
 cases x with
 |non=>cases r;rfl
 |bl _=>cases r;rfl
 |int _=>obtain⟨t,rfl⟩:=r;rfl
 |str _=>obtain⟨t,rfl⟩:=r;rfl
 |byt _=>obtain⟨t,rfl⟩:=r;rfl
 |flt _=>obtain⟨t,rfl⟩:=r;rfl
 |ref _=>cases r;rfl
 |ty _=>cases r;rfl
def RelV.inj{x y:V}{u:ai}(r:RelV x u)(q:RelV y u):x=y:=az (r.abs.symm.trans q.abs)
theorem Vals.inj:∀{xs ys:List V}{us:List ai},Vals xs us->Vals ys us->xs=ys
 |_,_,_,.nil,.nil=>rfl
 |_,_,_,.cons r t,.cons r' t'=>by rw[r.inj r',Vals.inj t t']
section
variable{X:Cx}{pins:k98}{σ:St}{H:Hp}{s:ao}{a:aj}{xs ys:List V}
def Inv.list(I:Inv X pins σ H s)(h:SqL X.K H a xs):∃its:List ai,Vals xs its/\PlainL s.heap a its.toArray/\xs.length<=av:=by
 rcases h with h|⟨o,its,n,hk,hc,hd,hs,hz,r⟩
 .obtain⟨z,its,n,r,e⟩:=h.ok I.hok;exact⟨its,r,⟨_,n,e,rfl,rfl,rfl⟩,z⟩
 .refine⟨its.toList,r,⟨o,n,I.kIn a o hk,hc,hd,by simpa using hs⟩,?_⟩;have e:=r.length;simp only[d7]at e;omega
def Inv.tuple(I:Inv X pins σ H s)(h:SqT X.K H a xs):∃its:List ai,Vals xs its/\ij s.heap a its.toArray/\xs.length<=av:=by
 rcases h with h|⟨o,its,n,hk,hc,hnd,hs,hz,r⟩
 .obtain⟨z,its,r,p,_⟩:=h.ok I.hok;exact⟨its,r,p,z⟩
 .refine⟨its.toList,r,⟨o,I.kIn a o hk,hc,n,by simpa using hs⟩,?_⟩;have e:=r.length;simp only[d7]at e;omega
def Inv.tupD(I:Inv X pins σ H s)(h:SqT X.K H a xs):Zu s.heap a:=by
 rcases h with h|⟨o,its,n,hk,hc,hnd,hs,hz,r⟩
 .obtain⟨z,its,r,p,q⟩:=h.ok I.hok;exact q
 .intro o' e;rw[I.kIn a o hk]at e;cases e;exact hnd
def Inv.list_inj(I:Inv X pins σ H s)(h:SqL X.K H a xs)(h':SqL X.K H a ys):xs=ys:=by
 obtain⟨its,r,⟨o,n,e,_,_,d⟩,_⟩:=I.list h;obtain⟨its',r',⟨o',n',e',_,_,d'⟩,_⟩:=I.list h';rw[e]at e';cases e';rw[d]at d';injection d' with d1 _;have:its=its':=by simpa using congrArg lh d1
 subst this;exact r.inj r'
def Inv.tuple_inj(I:Inv X pins σ H s)(h:SqT X.K H a xs)(h':SqT X.K H a ys):xs=ys:=by
 obtain⟨its,r,⟨o,e,_,n,d⟩,_⟩:=I.tuple h;obtain⟨its',r',⟨o',e',_,n',d'⟩,_⟩:=I.tuple h';rw[e]at e';cases e';rw[d]at d';injection d' with d1 _;have:its=its':=by simpa using congrArg lh d1
 subst this;exact r.inj r'
end
noncomputable abbrev Cx.wish(X:Cx)(E:k97):Cx:={ X with xe:=E }
noncomputable abbrev Cx.nox(X:Cx):Cx:=X.wish λ_ _=>False
def Cx.Ok.wish{X:Cx}(ok:X.Ok)(E:k97):(X.wish E).Ok :=
 ⟨ok.mod,ok.kind,ok.glob,ok.blt,ok.above,ok.inj,ok.has,ok.cab,ok.hd,ok.frames,ok.stk,ok.exf,ok.bs,ok.bsz,ok.noex,ok.exfs,ok.funs,ok.frf⟩
def Cx.Ok.unwish{X:Cx}{E:k97}(ok:(X.wish E).Ok):X.Ok :=
 ⟨ok.mod,ok.kind,ok.glob,ok.blt,ok.above,ok.inj,ok.has,ok.cab,ok.hd,ok.frames,ok.stk,ok.exf,ok.bs,ok.bsz,ok.noex,ok.exfs,ok.funs,ok.frf⟩
section
variable{X:Cx}{pins:k98}{σ:St}{H:Hp}{s:ao}{E:k97}
def Inv.wish(I:Inv X pins σ H s)(E:k97):Inv (X.wish E) pins σ H s:=⟨I.ok.wish E,I.os,I.bare,I.base,I.loc,I.cell,I.free,I.freeC,I.pin,I.hok,I.len⟩
def Inv.unwish(I:Inv (X.wish E) pins σ H s):Inv X pins σ H s:=⟨I.ok.unwish,I.os,I.bare,I.base,I.loc,I.cell,I.free,I.freeC,I.pin,I.hok,I.len⟩
def SP.unwish{D:Ends}{f:Flow}{s':ao}(h:SP (X.wish E) pins D f s'):SP X pins D f s':=by
 cases f with
 |next=>obtain⟨σ',H',I,q⟩:=h;exact⟨σ',H',I.unwish,q⟩
 |brk=>obtain⟨σ',H',I,q⟩:=h;exact⟨σ',H',I.unwish,q⟩
 |cont=>obtain⟨σ',H',I,q⟩:=h;exact⟨σ',H',I.unwish,q⟩
 |ret u=>obtain⟨v,σ',H',H2,I,r,x,q⟩:=h;exact⟨v,σ',H',H2,I.unwish,r,x,q⟩
def PSs.nox{st:List aS}{t:TS}(h:PSs X.nox st t):PSs X st t:=λpins s σ H D I hw =>bB (h pins s σ H D (I.wish _) hw) (λ_ _ q=>q.unwish) λ_ _ z=>bx z
end
section
variable{X:Cx}{st:aS}{rest:List aS}{t u:TS}{e:au}{te:TE}{pos:aO}
def jis:TS:=λD σ H=>D.nx σ H
def jl2(t u:TS):TS:=λD σ H=>t { D with nx:=u D } σ H
def j31:PSs X [] jis:=λ_ _ σ H _ I h=>iq ⟨σ,H,I,h⟩
def Jj(h1:PS X st t)(h2:PSs X rest u):PSs X (st::rest) (jl2 t u):=by
 intro pins s σ H D I h;refine lV (thn (h1 pins s σ H { D with nx:=u D } I h) λf s1 q=>?_);cases f with
 |next =>obtain⟨σ',H',I',q⟩:=q;exact h2 pins s1 σ' H' D I' q
 |ret v=>exact q
 |brk=>exact q
 |cont=>exact q
def Wi(h1:PS X st t):PSs X [st] t:=by
 intro pins s σ H D I h;refine lV (thn (h1 pins s σ H D I h) λf s1 q=>?_);cases f with
 |next=>exact iq q
 |ret v=>exact q
 |brk=>exact q
 |cont=>exact q
def Inv.quiet{pins:k98}{σ:St}{H:Hp}{s:ao}(I:Inv X pins σ H s):interactive X.env=a9:=by simp[interactive,I.ok.kind]
def jit(te:TE):TS:=λD σ H=>te σ H λ_ H1=>D.nx σ H1
def Wj(he:PE X e te)(hs:aN e ae pos.line X.env=pure a9:=by rfl):PS X (.Expr e pos) (jit te):=by intro pins s σ H D I h;exact wpAny_Expr_any (thn (he pins s σ H _ I h) λv s1 ⟨x,H1,I1,r1,q1⟩=>⟨σ,H1,I1,q1⟩) I.quiet hs
def jl3(te:TE):TS:=λD σ H=>te σ H D.rt
def Y7(he:PE X e te):PS X (.Return (a8 e) pos) (jl3 te):=by intro pins s σ H D I h;exact lB (thn (he pins s σ H _ I h) λv s1 ⟨x,H1,I1,r1,q1⟩=>⟨x,σ,H1,H1,I1,r1,.refl,q1⟩)
def jl9(c:TT)(t u:TS):TS:=λD σ H=>c σ H λb H1=>if b=ah then t D σ H1 else u D σ H1
def jan{c:au}{a b:List aS}{tc:TT}(hc:PT X c tc)(ha:PSs X a t)(hb:PSs X b u):PS X (.If c a b pos) (jl9 tc t u):=by
 intro pins s σ H D I h;refine wpAny_If (thn (hc pins s σ H _ I h) λd s1 ⟨H1,I1,q1⟩=>?_);cases d with
 |true=>exact ha pins s1 σ H1 D I1 q1
 |false=>exact hb pins s1 σ H1 D I1 q1
end
abbrev TG:=V->St->Hp->(St->Hp->Prop)->Prop
abbrev TGs:=List V->St->Hp->(St->Hp->Prop)->Prop
def PG(X:Cx)(target:au)(t:TG):Prop :=
 ∀(pins:k98) (s:ao) (σ:St) (H:Hp) (v:V) (u:ai) (Q:St->Hp->Prop),Inv X pins σ H s->RelV v u->t v σ H Q ->
  aw (aB X.prog X.w) X.A (fO target X.env u) (λ_ s'=>∃σ' H',Inv X pins σ' H' s'/\Q σ' H') X.xe s
def PGs(X:Cx)(ts:List au)(t:TGs):Prop :=
 ∀(pins:k98) (s:ao) (σ:St) (H:Hp) (vs:List V) (us:List ai) (Q:St->Hp->Prop),Inv X pins σ H s->Vals vs us->t vs σ H Q ->
  aw (aB X.prog X.w) X.A (assignInOrder ((bR ts X.env).map (·.2)) us) (λ_ s'=>∃σ' H',Inv X pins σ' H' s'/\Q σ' H') X.xe s
section
variable{X:Cx}{pos:aO}
def j07(i:Nat):TG:=λv σ H Q=>Q (σ.set i (a8 v)) H
def Yx{i:Nat}{x:aq}(hN:X.N.Nodup)(hi:X.N[i]?=a8 x)(hx:Loc X.env.scope x)(hf:X.fn x=ah\/X.env.scope.names.lookup x=a8 .local:=by first|exact .inl rfl|exact .inr rfl|assumption):PG X (.Name x pos) (j07 i):=by intro pins s σ H v u Q I r h;exact lA (j0i I hN hi hx r (λs' I'=>⟨_,H,I',h⟩) hf)
def jly:TGs:=λvs σ H Q=>vs=[]/\Q σ H
def jk2(t:TG)(u:TGs):TGs:=λvs σ H Q=>∃v r,vs=v::r/\t v σ H λσ' H'=>u r σ' H' Q
def jck:PGs X [] jly:=by intro pins s σ H vs us Q I r h;obtain⟨e,h⟩:=h;subst e;cases r;exact assignInOrder_nil ⟨σ,H,I,h⟩
def j0w{e:au}{es:List au}{t:TG}{u:TGs}(h1:PG X e t)(h2:PGs X es u)
  (hs:(bR (e::es) X.env).map (·.2)=fO e X.env::(bR es X.env).map (·.2):=by rfl):PGs X (e::es) (jk2 t u):=by
 intro pins s σ H vs us Q I r h;obtain⟨v,vr,e1,h⟩:=h;subst e1;cases r with
 |cons r rr =>rw[hs];refine assignInOrder_cons (thn (h1 pins s σ H _ _ _ I r h) λ_ s1 ⟨σ1,H1,I1,q1⟩=>?_);exact h2 pins s1 σ1 H1 _ _ Q I1 rr q1
def jlx(K:k96)(n:Nat)(t:TGs):TG:=λv σ H Q=>∃a xs,v=.ref a/\SqT K H a xs/\xs.length=n/\t xs σ H Q
def jfj{es:List au}{k:Nat}{t:TGs}{n:Nat}(hc:X.calm=ah)(h:PGs X es t)
  (hn:(bR es X.env).length=n:=by rfl) (hst:(bR es X.env).findIdx? (·.1)=ae:=by rfl):PG X (.Tuple es k pos) (jlx X.K n t):=by
 intro pins s σ H v u Q I r hw;obtain⟨a,xs,e1,hq,hl,hw⟩:=hw;subst e1;cases r;obtain⟨its,rv,ht,hz⟩:=I.tuple hq;refine assign_Tuple_tuple (I.ok.hd hc) ht (by simp[hn,<-hl,rv.length]) hst λh' hx=>?_;have I1:Inv X pins σ H { s with heap:=h' }:=I.kept (t':=s.toks) λb o e=>hx b o (Xa (xn e)) e;exact h pins _ σ H xs _ Q I1 (by simpa using rv) hw
def jlb(te:TE)(g:TG):TS:=λD σ H=>te σ H λx H1=>g x σ H1 D.nx
def Y6{i:Nat}{x:aq}{e:au}{te:TE}{pos':aO}(hN:X.N.Nodup)(hi:X.N[i]?=a8 x)(hx:Loc X.env.scope x)(he:PE X e te)(hs:aN e (a8 (.Name x pos')) pos.line X.env=pure a9:=by rfl)(hf:X.fn x=ah\/X.env.scope.names.lookup x=a8 .local:=by first|exact .inl rfl|exact .inr rfl|assumption) :
  PS X (.Assign [.Name x pos'] e pos) (jlb te (j07 i)):=by
 intro pins s σ H D I h;refine wpAny_Assign_Name (thn (he pins s σ H _ I h) λv s1 ⟨y,H1,I1,r1,q1⟩=>?_) hs;exact j0i I1 hN hi hx r1 (λs2 I2=>⟨_,H1,I2,q1⟩) hf
end
structure It where
 go:Nat->Hp->Prop
 yld:Nat->Hp->V->Hp->Prop
 stop:Nat->Hp->Prop
def Jk(X:Cx)(pins:k98)(H:Hp)(b:aj):Prop :=
 H b=ae/\b≠X.env.locals/\b∉X.fs/\(b∈X.ex\/X.s₀.heap.objs.size<=b)/\(∀x c,X.env.cells.lookup x=a8 c->c≠b)/\∀p∈X.pn++pins,p.1≠b
def Inv.fpOk{X:Cx}{pins:k98}{σ:St}{H H':Hp}{s:ao}{b:aj}(I:Inv X pins σ H s)(hb:s.heap.objs.size<=b)(hn:H' b=ae):Jk X pins H' b:=by
 refine⟨hn,Pb (Xi I.lt hb),I.nofs hb,.inr (Xg I.sz hb),λx c e z=>?_,λp hp z=>?_⟩
 .obtain⟨v,q⟩:=I.cell x c e;exact absurd (Xi q.lt (by rw[z];exact hb)) (Ph _)
 .exact absurd (Xi (xn (I.pin p hp).1) (by rw[z];exact hb)) (Ph _)
structure Turn(P:ay)(w:aD)(K:k96)(tg:au)(J:It)(fp:List aj)(it:aj)(tn:Nat->aE->Prop):Prop where
 mem:it∈fp
 obj:∀i h,tn i h->∀b∈fp,∃o,h.get? b=a8 o/\∀v,o.data≠.cell v
 keep:∀i h h',tn i h->(∀b∈fp,∀o,h.get? b=a8 o->h'.get? b=a8 o)->tn i h'
 item:∀(X:Cx),X.prog=P->X.w=w->X.K=K->X.calm=ah->∀(i:Nat)(pins:k98) (s:ao) (σ:St) (H:Hp) (E:k97),Inv X pins σ H s->(∀b∈fp,Jk X pins H b)->tn i s.heap->J.go i H ->
  aw (aB P w) X.A (cZ (.ref it)) (λr s1=>∃u,r=a8 u /\
   aw (aB P w) X.A (fj tg (.ref it) u) (λ_ s2=>∃x H',Inv X pins σ H' s2/\RelV x u/\J.yld i H x H'/\tn (i+1) s2.heap/\∀b∈fp,H' b=ae) E s1) E s
 done:∀(X:Cx),X.prog=P->X.w=w->X.K=K->X.calm=ah->∀(i:Nat)(pins:k98) (s:ao) (σ:St) (H:Hp) (E:k97),Inv X pins σ H s->(∀b∈fp,Jk X pins H b)->tn i s.heap->J.stop i H ->
  aw (aB P w) X.A (cZ (.ref it)) (λr s1=>r=ae/\Inv X pins σ H s1) E s
 self:∀(A:aF)(i:Nat)(s:ao)(Q:k97)(E:k97),tn i s.heap->Q (.ref it) s->aw (aB P w) A (iI (.ref it)) Q E s
abbrev TI:=St->Hp->(It->Hp->Prop)->Prop
def PIE(X:Cx)(pins:k98)(σ:St)(tg:au)(R:It->Hp->Prop)(itv:ai)(s2:ao):Prop :=
 ∃(it:aj)(fp:List aj)(tn:Nat->aE->Prop)(J:It)(H':Hp),itv=.ref it/\Inv X pins σ H' s2/\Turn X.prog X.w X.K tg J fp it tn/\tn 0 s2.heap/\(∀b∈fp,Jk X pins H' b)/\R J H'
def PI(X:Cx)(tg iter:au)(wi:TI):Prop :=
 ∀(pins:k98) (s:ao) (σ:St) (H:Hp) (R:It->Hp->Prop),Inv X pins σ H s->wi σ H R ->
  aw (aB X.prog X.w) X.A (aC iter X.env) (λv s1=>aw (aB X.prog X.w) X.A (iI v) (PIE X pins σ tg R) X.xe s1) X.xe s
def j06{M:iK}{A:aF}{E:k97}{s:ao}{tg:au}{it:aj}{u:ai}{o:d8}{n:String}{vs:Array ai}{Q:Unit->ao->Prop}(ho:s.heap.get? it=a8 o)(hc:o.cls=.type n)(hd:o.data=.fields vs)
  (hn:["enumerate","zip","dict_itemiterator","dict_reverseitemiterator","odict_iterator","itertools.zip_longest","itertools.pairwise"].contains n=a9) (hQ:Q () s):aw M A (fj tg (.ref it) u) Q E s:=by
 unfold fj;cases tg<;>first
  |exact ar hQ
  |(cases u<;>first
    |exact ar hQ
    |(refine aa (wpAny_load ho ?_);rw[hc,hd];show aw M A (if (["enumerate","zip","dict_itemiterator","dict_reverseitemiterator","odict_iterator","itertools.zip_longest","itertools.pairwise"].contains n&&vs[0]?==a8 (cR _))=ah then _ else _) Q E s;rw[if_neg (by intro h;rw[hn,kS]at h;cases h)];exact ar hQ))
noncomputable def Itl(K:k96)(a:aj):It :=
 ⟨λi H=>∃xs x,SqL K H a xs/\xs[i]?=a8 x,λi H x H'=>H'=H/\∀xs,SqL K H a xs->xs[i]?=a8 x,λi H=>∃xs,SqL K H a xs/\xs.length<=i⟩
noncomputable def Itt(K:k96)(a:aj):It :=
 ⟨λi H=>∃xs x,SqT K H a xs/\xs[i]?=a8 x,λi H x H'=>H'=H/\∀xs,SqT K H a xs->xs[i]?=a8 x,λi H=>∃xs,SqT K H a xs/\xs.length<=i⟩
noncomputable def Itr(lo:Int)(n:Nat):It:=⟨λi _=>i<n,λi H x H'=>H'=H/\x=.int (lo+i),λi _=>n<=i⟩
def j5d{P:ay}{w:aD}{K:k96}{tg:au}(a it:aj):Turn P w K tg (Itl K a) [it] it (λi h=>h.IsListIter it a i) where
 mem:=by simp
 obj:=λi h st b hb=>by
  have e:b=it:=by simpa using hb
  subst e;obtain⟨o,e,c,d⟩:=st;exact⟨o,e,λv z=>by rw[d]at z;cases z⟩
 keep:=λi h h' st k=>st.at λo e=>k it (by simp) o e
 item:=by intro X hP hw hK hc i pins s σ H E I hf st hg;subst hP hw hK;obtain⟨xs,x,hq,hx⟩:=hg;obtain⟨its,rv,p,hz⟩:=I.list hq;obtain⟨u,hu,ru⟩:=rv.get hx;obtain⟨f0,f1,f2,f3,f4,f5⟩:=hf it (by simp);refine f9 st p.isList (x:=u) (by simpa using hu) λh' st' sb=>?_;have I1:Inv X pins σ H { s with heap:=h' }:=I.turned (t':=s.toks) (λb o hb e=>(sb.2 b hb).trans e) f0 f1 f3 f4 f5;obtain⟨o,e,c,d⟩:=id st';exact⟨u,rfl,j06 (s:={ s with heap:=h' }) e c d (by decide) ⟨x,H,I1,ru,⟨rfl,λys hy=>by rw[I.list_inj hy hq];exact hx⟩,st',λb hb=>(hf b hb).1⟩⟩
 done:=by intro X hP hw hK hc i pins s σ H E I hf st hg;subst hP hw hK;obtain⟨xs,hq,hx⟩:=hg;obtain⟨its,rv,p,hz⟩:=I.list hq;obtain⟨f0,f1,f2,f3,f4,f5⟩:=hf it (by simp);have hl:=rv.length;exact kn (I.ok.hd hc) st p.isList (by simp;omega) λh' eb=>⟨rfl,I.turned (t':=s.toks) (λb o hb e=>eb b o hb e) f0 f1 f3 f4 f5⟩
 self:=λ_ _ _ _ _ st h=>wpAny_pyIter_listiter st h
def j3v{P:ay}{w:aD}{K:k96}{tg:au}(a it:aj):Turn P w K tg (Itt K a) [it] it (λi h=>h.IsTupleIter it a i) where
 mem:=by simp
 obj:=λi h st b hb=>by
  have e:b=it:=by simpa using hb
  subst e;obtain⟨o,e,c,d⟩:=st;exact⟨o,e,λv z=>by rw[d]at z;cases z⟩
 keep:=λi h h' st k=>st.at λo e=>k it (by simp) o e
 item:=by intro X hP hw hK hc i pins s σ H E I hf st hg;subst hP hw hK;obtain⟨xs,x,hq,hx⟩:=hg;obtain⟨its,rv,p,hz⟩:=I.tuple hq;obtain⟨u,hu,ru⟩:=rv.get hx;obtain⟨f0,f1,f2,f3,f4,f5⟩:=hf it (by simp);refine wpAny_pyNext_tuple_item st (show s.heap.IsTuple a its.toArray from p) (x:=u) (by simpa using hu) λh' st' sb=>?_;have I1:Inv X pins σ H { s with heap:=h' }:=I.turned (t':=s.toks) (λb o hb e=>(sb.2 b hb).trans e) f0 f1 f3 f4 f5;obtain⟨o,e,c,d⟩:=id st';exact⟨u,rfl,j06 (s:={ s with heap:=h' }) e c d (by decide) ⟨x,H,I1,ru,⟨rfl,λys hy=>by rw[I.tuple_inj hy hq];exact hx⟩,st',λb hb=>(hf b hb).1⟩⟩
 done:=by intro X hP hw hK hc i pins s σ H E I hf st hg;subst hP hw hK;obtain⟨xs,hq,hx⟩:=hg;obtain⟨its,rv,p,hz⟩:=I.tuple hq;obtain⟨f0,f1,f2,f3,f4,f5⟩:=hf it (by simp);have hl:=rv.length;exact wpAny_pyNext_tuple_end (I.ok.hd hc) st (show s.heap.IsTuple a its.toArray from p) (by simp;omega) λh' eb=>⟨rfl,I.turned (t':=s.toks) (λb o hb e=>eb b o hb e) f0 f1 f3 f4 f5⟩
 self:=λ_ _ _ _ _ st h=>wpAny_pyIter_tupleiter st h
def j3w{P:ay}{w:aD}{K:k96}{tg:au}(it:aj)(lo:Int)(n:Nat):Turn P w K tg (Itr lo n) [it] it (λi h=>IsRangeIter h it (lo+(i:Nat)*1) ((n:Int)-(i:Nat)) 1) where
 mem:=by simp
 obj:=λi h st b hb=>by
  have e:b=it:=by simpa using hb
  subst e;exact⟨_,st,λv z=>by
   have z':Data.fields _=Data.cell v:=z
   cases z'⟩
 keep:=λi h h' st k=>k it (by simp) _ st
 item:=by intro X hP hw hK hc i pins s σ H E I hf st hg;subst hP hw hK;obtain⟨f0,f1,f2,f3,f4,f5⟩:=hf it (by simp);have W:=Walks.range (prog:=X.prog) (w:=X.w) (I.ok.hd hc) it lo 1 n;refine W.item i s _ _ hg st λv h' tk hv st' kk=>?_;obtain⟨t,rfl⟩:=hv;have I1:Inv X pins σ H { s with heap:=h',toks:=tk }:=I.turned (λb o hb e=>kk b o (by simpa using hb) e) f0 f1 f3 f4 f5;refine⟨_,rfl,j06 (s:={ s with heap:=h',toks:=tk }) (n:="range_iterator") st' rfl rfl (by decide) ⟨.int (lo+i),H,I1,⟨t,?_⟩,⟨rfl,rfl⟩,st',λb hb=>(hf b hb).1⟩⟩;rw[jE]
 done:=by intro X hP hw hK hc i pins s σ H E I hf st hg;subst hP hw hK;obtain⟨f0,f1,f2,f3,f4,f5⟩:=hf it (by simp);exact wpAny_pyNext_range_end (I.ok.hd hc) st (by have:n<=i:=hg;omega) λh' eb=>⟨rfl,I.turned (t':=s.toks) (λb o hb e=>eb b o hb e) f0 f1 f3 f4 f5⟩
 self:=λ_ _ _ _ _ st h=>wpAny_pyIter_rangeiter st h
section
variable{X:Cx}{tg:au}
def jk0(K:k96)(tl:TE):TI:=λσ H R=>tl σ H λx H1=>∃a,x=.ref a/\(∃xs,SqL K H1 a xs)/\R (Itl K a) H1
def jlw(K:k96)(tl:TE):TI:=λσ H R=>tl σ H λx H1=>∃a,x=.ref a/\(∃xs,SqT K H1 a xs)/\R (Itt K a) H1
def jcj{l:au}{tl:TE}(hl:PE X l tl):PI X tg l (jk0 X.K tl):=by
 intro pins s σ H R I h;refine thn (hl pins s σ H _ I h) λv s1 ⟨x,H1,I1,r1,q1⟩=>?_;obtain⟨a,e,⟨xs,hq⟩,q⟩:=q1;subst e;cases r1;obtain⟨its,rv,p,hz⟩:=I1.list hq;refine bF p.isList ?_;refine⟨s1.heap.objs.size,[s1.heap.objs.size],_,_,H1,rfl,I1.kept (t':=s1.toks) λb o e=>km _ e,j5d a _,⟨_,xu _ rfl,rfl,rfl⟩,λb hb=>?_,q⟩;have e:b=s1.heap.objs.size:=by simpa using hb
 subst e;exact I1.fpOk (X3 _) (I1.hok.fresh (X3 _))
def jfi{l:au}{tl:TE}(hl:PE X l tl):PI X tg l (jlw X.K tl):=by
 intro pins s σ H R I h;refine thn (hl pins s σ H _ I h) λv s1 ⟨x,H1,I1,r1,q1⟩=>?_;obtain⟨a,e,⟨xs,hq⟩,q⟩:=q1;subst e;cases r1;obtain⟨its,rv,p,hz⟩:=I1.tuple hq;refine gp (show s1.heap.IsTuple a its.toArray from p) ?_;refine⟨s1.heap.objs.size,[s1.heap.objs.size],_,_,H1,rfl,I1.kept (t':=s1.toks) λb o e=>km _ e,j3v a _,⟨_,xu _ rfl,rfl,rfl⟩,λb hb=>?_,q⟩;have e:b=s1.heap.objs.size:=by simpa using hb
 subst e;exact I1.fpOk (X3 _) (I1.hok.fresh (X3 _))
def j0v{pins:k98}{σ:St}{H:Hp}{s:ao}{R:It->Hp->Prop}{E:k97}{lo hi:Int}{t u v:gR}{tk:Nat}(I:Inv X pins σ H s)(h1:-(2^62)<=lo)(h2:lo<2^62)(h3:-(2^62)<=hi)(h4:hi<2^62)
  (q:R (Itr lo (hi-lo).toNat) H):aw (aB X.prog X.w) X.A (iI (.ref s.heap.objs.size)) (PIE X pins σ tg R) E { s with heap:=s.heap.push { cls:=.type "range",data:=.fields #[.int lo t,.int hi u,.int 1 v] },toks:=tk }:=by
 refine wpAny_pyIter_range (IsRange.new ..) (small_one h1 h2 h3 h4) ?_;have I1:Inv X pins σ H { s with heap:=s.heap.push { cls:=.type "range",data:=.fields #[.int lo t,.int hi u,.int 1 v] },toks:=tk }:=I.kept λb o e=>km _ e;refine⟨(s.heap.push { cls:=.type "range",data:=.fields #[.int lo t,.int hi u,.int 1 v] }).objs.size,[(s.heap.push { cls:=.type "range",data:=.fields #[.int lo t,.int hi u,.int 1 v] }).objs.size],_,_,H,rfl,
  I1.kept (t':=tk) λb o e=>km _ e,j3w _ lo (hi-lo).toNat,?_,λb hb=>?_,q⟩
 .have e1:lo+((0:Nat):Int)*1=lo:=by simp
  have e2:(((hi-lo).toNat:Nat):Int)-((0:Nat):Int)=Builtin.Range.rangeSize lo hi 1:=by rw[rangeSize_one];split<;>omega
  show IsRangeIter _ _ (lo+((0:Nat):Int)*1) ((((hi-lo).toNat:Nat):Int)-((0:Nat):Int)) 1;rw[e1,e2];exact xu _ rfl
 .have e:b=(s.heap.push { cls:=.type "range",data:=.fields #[.int lo t,.int hi u,.int 1 v] }).objs.size:=by simpa using hb
  subst e;exact I1.fpOk (X3 _) (I1.hok.fresh (X3 _))
def jjz(ta:TA):TI:=λσ H R=>ta σ H λvs H1=>∃j:Int,vs=[.int j]/\-(2^62)<=j/\j<2^62/\R (Itr 0 j.toNat) H1
def jjy(ta:TA):TI:=λσ H R=>ta σ H λvs H1=>∃i j:Int,vs=[.int i,.int j]/\(-(2^62)<=i/\i<2^62/\-(2^62)<=j/\j<2^62)/\R (Itr i (j-i).toNat) H1
def j64 {a:au} {ta:TA} {p pos:aO} (hg:Gl X "range") (hm:X.mg "range" = ae) (ha:PA X [a] ta) (hs:af [a] X.env=[(a9,aC a X.env)]:=by rfl):PI X tg (.Call (.Name "range" p) [a] [] pos) (jjz ta):=by
 intro pins s σ H R I h;refine Call_ (Jg I hg hm boot_range (callWith_type1 (thn (ha pos pins s σ H _ I h) λus s1 ⟨vs,H1,I1,r1,q1⟩=>?_) hs rfl));obtain⟨j,e,q1,q2,q⟩:=q1;subst e;cases r1 with
 |cons r rr =>cases rr;obtain⟨t,rfl⟩:=r;exact call_range_1 (j0v I1 nofun nofun q1 q2 (by simpa using q))
def j63 {a b:au} {ta:TA} {p pos:aO} (hg:Gl X "range") (hm:X.mg "range" = ae) (ha:PA X [a,b] ta) (hs:af [a,b] X.env=[(a9,aC a X.env),(a9,aC b X.env)]:=by rfl) (hs2:af [b] X.env=[(a9,aC b X.env)]:=by rfl) :
  PI X tg (.Call (.Name "range" p) [a,b] [] pos) (jjy ta):=by
 intro pins s σ H R I h;refine Call_ (Jg I hg hm boot_range (callWith_type1 (thn (ha pos pins s σ H _ I h) λus s1 ⟨vs,H1,I1,r1,q1⟩=>?_) (by rw[hs,hs2]) (by rw[hs2];rfl)));obtain⟨i,j,e,⟨q1,q2,q3,q4⟩,q⟩:=q1;subst e;cases r1 with
 |cons r rr =>
  cases rr with
  |cons r' rr =>cases rr;obtain⟨t,rfl⟩:=r;obtain⟨t',rfl⟩:=r';exact call_range_2 (j0v I1 q1 q2 q3 q4 q)
def jla(wi:TI)(g:TG)(tb:TS):TS:=λD σ H=>wi σ H λJ H1=>∃W:Nat->Nat->St->Hp->Prop,(∃m,W 0 m σ H1)/\∀i m σ H,W i m σ H ->
 (J.stop i H/\D.nx σ H)\/(J.go i H/\∃N:St->Hp->Prop,(∀σ' H',N σ' H'->∃m',m'<m/\W (i+1) m' σ' H')/\∀x H',J.yld i H x H'->g x σ H' λσ2 H2=>tb { D with nx:=N,ct:=N,bk:=D.nx } σ2 H2)
noncomputable def Y8(fp:List aj)(h:aE):List (aj×d8):=fp.filterMap λb=>(h.get? b).map λo=>(b,o)
def Je{fp:List aj}{h:aE}{b:aj}{o:d8}(hb:b∈fp)(e:h.get? b=a8 o):(b,o)∈Y8 fp h:=Td.mpr ⟨b,hb,by rw[e];rfl⟩
def Ik{fp:List aj}{h:aE}{p:aj×d8}(hp:p∈Y8 fp h):p.1∈fp/\h.get? p.1=a8 p.2:=by
 obtain⟨b,hb,e⟩:=Td.mp hp;cases q:h.get? b with
 |none=>rw[q]at e;cases e
 |some o =>rw[q]at e;have e':(b,o)=p:=az e;subst e';exact⟨hb,q⟩
def Inv.pinned{pins:k98}{σ:St}{H:Hp}{s:ao}{fp:List aj}(I:Inv X pins σ H s)(hf:∀b∈fp,Jk X pins H b)(ho:∀b∈fp,∃o,s.heap.get? b=a8 o/\∀v,o.data≠.cell v):Inv X (pins++Y8 fp s.heap) σ H s :=
 I.pins_of λp hp=>(Xw.mp hp).elim (λz=>I.pin p (Xc _ z)) λz=>by obtain⟨hb,e⟩:=Ik z;obtain⟨f0,f1,f2,_⟩:=hf p.1 hb;obtain⟨o,e',d⟩:=ho p.1 hb;rw[e]at e';cases e';exact⟨e,f0,f1,f2,d⟩
def Inv.unpinned{pins pl:k98}{σ:St}{H:Hp}{s:ao}(I:Inv X (pins++pl) σ H s):Inv X pins σ H s:=I.pins_of λp hp=>I.pin p (Xc _ (Pu _ hp))
def j5y{iter:au}{body:List aS}{wi:TI}{g:TG}{tb:TS}{pos:aO}(hp:i5 (aB X.prog X.w) X.A X.env X.xe)(hc:X.calm=ah)(hi:PI X tg iter wi)(hg:PG X tg g)(hb:PSs X body tb)
  (hs:∀x,aG iter X.env x=pure x:=by intro _;rfl):PS X (.For tg iter body [] pos) (jla wi g tb):=by
 intro pins s σ H D I h;refine wpAny_For (thn (hi pins s σ H _ I h) λv s1 h1=>thn h1 λitv s2 h2=>?_) hs;obtain⟨it,fp,tn,J,H2,e,I2,T,st2,f2,W,⟨m0,w0⟩,turn⟩:=h2;subst e;have stat:∀{H':Hp},(∀b∈fp,H' b=ae)->∀b∈fp,Jk X pins H' b:=λhn b hb=>⟨hn b hb,(f2 b hb).2⟩
 refine codeAny_forLoop_any (λn s'=>∃i σ' H',Inv X pins σ' H' s'/\tn i s'.heap/\(∀b∈fp,H' b=ae)/\W i n σ' H') ?_ m0 ⟨0,σ,H2,I2,st2,λb hb=>(f2 b hb).1,w0⟩;rintro n s3 ⟨i,σ3,H3,I3,st3,fr3,w3⟩;rcases turn i n σ3 H3 w3 with ⟨stop,qn⟩|⟨go,N,hN,step⟩
 .refine dC hp (thn (T.done X rfl rfl rfl hc i pins s3 σ3 H3 X.xe I3 (stat fr3) st3 stop) λr s4 ⟨hr,I4⟩=>?_);subst hr;exact iq ⟨σ3,H3,I4,qn⟩
 .refine dC hp (thn (T.item X rfl rfl rfl hc i pins s3 σ3 H3 X.xe I3 (stat fr3) st3 go) λr s4 ⟨u,hr,h4⟩=>?_);subst hr;refine dC hp (thn h4 λ_ s5 ⟨x,H5,I5,r5,y5,st5,fr5⟩=>?_);have I5':=I5.pinned (stat fr5) (T.obj _ _ st5);refine dC hp (thn (hg _ s5 σ3 H5 x u _ I5' r5 (step x H5 y5)) λ_ s6 ⟨σ6,H6,I6,q6⟩=>?_);refine dC hp (thn (hb _ s6 σ6 H6 _ I6 q6) λf s7 q7=>?_);have ig:∀{σ7:St}{H7:Hp},Inv X (pins++Y8 fp s5.heap) σ7 H7 s7->N σ7 H7->∃m,m<n/\∃i σ' H',Inv X pins σ' H' s7/\tn i s7.heap/\(∀b∈fp,H' b=ae)/\W i m σ' H':=λ{σ7 H7} I7 n7=>by obtain⟨m',hm,w7⟩:=hN σ7 H7 n7;refine⟨m',hm,i+1,σ7,H7,I7.unpinned,T.keep _ _ _ st5 λb hb o e=>(I7.pin (b,o) (Xc _ (Xc _ (Je hb e)))).1,λb hb=>?_,w7⟩;obtain⟨o,e,d⟩:=T.obj _ _ st5 b hb;exact(I7.pin (b,o) (Xc _ (Xc _ (Je hb e)))).2.1
  cases f with
  |next=>obtain⟨σ7,H7,I7,n7⟩:=q7;exact ig I7 n7
  |cont=>obtain⟨σ7,H7,I7,n7⟩:=q7;exact ig I7 n7
  |brk=>obtain⟨σ7,H7,I7,q7⟩:=q7;exact⟨σ7,H7,I7.unpinned,q7⟩
  |ret v=>obtain⟨x7,σ7,H7,H8,I7,r7,x8,q7⟩:=q7;exact⟨x7,σ7,H7,H8,I7.unpinned,r7,x8,q7⟩
end
abbrev R2:=V->V->Hp->VK->Prop
def OpR(X:Cx)(f:ai->ai->mZ ai)(r:R2):Prop :=
 ∀(pins:k98) (s:ao) (σ:St) (H:Hp) (x y:V) (v u:ai) (Q:VK),Inv X pins σ H s->RelV x v->RelV y u->r x y H Q ->
  aw (aB X.prog X.w) X.A (f v u) (EP X pins σ Q) X.xe s
def UnR(X:Cx)(f:ai->mZ ai)(r:V->Hp->VK->Prop):Prop :=
 ∀(pins:k98) (s:ao) (σ:St) (H:Hp) (x:V) (v:ai) (Q:VK),Inv X pins σ H s->RelV x v->r x H Q ->
  aw (aB X.prog X.w) X.A (f v) (EP X pins σ Q) X.xe s
def Qg(X:Cx)(f:ai)(r:List V->Hp->VK->Prop):Prop :=
 ∀(pins:k98) (s:ao) (σ:St) (H:Hp) (xs:List V) (us:List ai) (Q:VK),Inv X pins σ H s->Vals xs us->r xs H Q ->
  aw (aB X.prog X.w) X.A (call f us) (EP X pins σ Q) X.xe s
def tOp(r:R2)(ta tb:TE):TE:=λσ H Q=>ta σ H λx H1=>tb σ H1 λy H2=>r x y H2 Q
def tUn(r:V->Hp->VK->Prop)(ta:TE):TE:=λσ H Q=>ta σ H λx H1=>r x H1 Q
def rI(C:Int->Int->Prop)(g:Int->Int->V):R2:=λx y H Q=>∃i j,x=.int i/\y=.int j/\C i j/\Q (g i j) H
def rI0(g:Int->Int->V):R2:=λx y H Q=>∃i j,x=.int i/\y=.int j/\Q (g i j) H
def rU(g:Int->V):V->Hp->VK->Prop:=λx H Q=>∃i,x=.int i/\Q (g i) H
section
variable{X:Cx}{a b c:au}{ta tb tc:TE}{pos:aO}
def ja6(ha:PE X a ta)(hb:PE X b tb){pins:k98}{s:ao}{σ:St}{H:Hp}{R:V->V->Hp->Prop}(I:Inv X pins σ H s)
  (h:ta σ H λx H1=>tb σ H1 λy H2=>R x y H2) {Q:k97} {f:ai->ai->mZ ai}
  (hf:∀v u s2 x y H2,Inv X pins σ H2 s2->RelV x v->RelV y u->R x y H2->aw (aB X.prog X.w) X.A (f v u) Q X.xe s2) :
  aw (aB X.prog X.w) X.A (aC a X.env) (λv s₁=>aw (aB X.prog X.w) X.A (aC b X.env) (λu s₂=>aw (aB X.prog X.w) X.A (f v u) Q X.xe s₂) X.xe s₁) X.xe s:=by
 refine thn (ha pins s σ H _ I h) λv s1 ⟨x,H1,I1,r1,q1⟩=>?_;refine thn (hb pins s1 σ H1 _ I1 q1) λu s2 ⟨y,H2,I2,r2,q2⟩=>?_;exact hf v u s2 x y H2 I2 r1 r2 q2
def Uq{op:kB}{r:R2}(ho:OpR X (bg op) r)(ha:PE X a ta)(hb:PE X b tb):PE X (.BinOp a op b pos) (tOp r ta tb):=by intro pins s σ H Q I h;exact wpAny_BinOp (ja6 ha hb I h λv u s2 x y H2 I2 rx ry q=>ho pins s2 σ H2 x y v u Q I2 rx ry q)
def jje{op:UnaryOp}{r:V->Hp->VK->Prop}(ho:UnR X (unaryOp op) r)(ha:PE X a ta):PE X (.UnaryOp op a pos) (tUn r ta):=by intro pins s σ H Q I h;exact UnaryOp_ (thn (ha pins s σ H _ I h) λv s1 ⟨x,H1,I1,r1,q1⟩=>ho pins s1 σ H1 x v Q I1 r1 q1)
def opI{f:ai->ai->mZ ai}{C:Int->Int->Prop}{g:Int->Int->Int}
  (lW:∀(i j:Int)(t u:gR)(s:ao)(Q:k97)(E:k97),C i j->Q (.int (g i j) s.toks) { s with toks:=s.toks+1 }->aw (aB X.prog X.w) X.A (f (.int i t) (.int j u)) Q E s) :
  OpR X f (rI C λi j=>.int (g i j)):=by
 intro pins s σ H x y v u Q I rx ry h;obtain⟨i,j,rfl,rfl,hc,q⟩:=h;obtain⟨t,rfl⟩:=rx;obtain⟨t',rfl⟩:=ry;exact lW i j t t' s _ _ hc ⟨.int (g i j),H,I.tok _,⟨_,rfl⟩,q⟩
def j4d{f:ai->ai->mZ ai}{g:Int->Int->Int}
  (lW:∀(i j:Int)(t u:gR)(s:ao)(Q:k97)(E:k97),Q (.int (g i j) s.toks) { s with toks:=s.toks+1 }->aw (aB X.prog X.w) X.A (f (.int i t) (.int j u)) Q E s) :
  OpR X f (rI0 λi j=>.int (g i j)):=by
 intro pins s σ H x y v u Q I rx ry h;obtain⟨i,j,rfl,rfl,q⟩:=h;obtain⟨t,rfl⟩:=rx;obtain⟨t',rfl⟩:=ry;exact lW i j t t' s _ _ ⟨.int (g i j),H,I.tok _,⟨_,rfl⟩,q⟩
def j4e{f:ai->ai->mZ ai}{g:Int->Int->Bool}
  (lW:∀(i j:Int)(t u:gR)(s:ao)(Q:k97)(E:k97),Q (.bool (g i j)) s->aw (aB X.prog X.w) X.A (f (.int i t) (.int j u)) Q E s) :
  OpR X f (rI0 λi j=>.bl (g i j)):=by
 intro pins s σ H x y v u Q I rx ry h;obtain⟨i,j,rfl,rfl,q⟩:=h;obtain⟨t,rfl⟩:=rx;obtain⟨t',rfl⟩:=ry;exact lW i j t t' s _ _ ⟨.bl (g i j),H,I,rfl,q⟩
def j58(i j:Int):Prop:=0<=j/\j<=1000000/\i.natAbs<2^64
def j59(i j:Int):Prop:=(-(2^64)<i/\i<2^64)\/(-(2^64)<j/\j<2^64)
def j59.ok{i j:Int}(h:j59 i j):IntMulOk i j:=by
 rcases h with ⟨h1,h2⟩|⟨h1,h2⟩
 .exact .of_left (nj h1 h2)
 .exact .of_right (nj h1 h2)
def j3u(k:Nat):(0:Int)<=2^k:=by rw[two_pow_cast];exact k9 _
def jfx:OpR X (bg .Add) (rI0 λi j=>.int (i+j)):=j4d λ_ _ _ _ _ _ _ q=>add_int q
def jfp:OpR X (bg .Sub) (rI0 λi j=>.int (i-j)):=j4d λ_ _ _ _ _ _ _ q=>sub_int q
def jfu:OpR X (bg .Mult) (rI j59 λi j=>.int (i*j)):=opI λ_ _ _ _ _ _ _ hc q=>mul_int q hc.ok
def jfv:OpR X (bg .Mod) (rI (λ_ j=>0<j) λi j=>.int (i%j)):=opI λi j _ _ _ _ _ hc q=>by have h1:(0:Int)<j:=hc;exact mod_int' nofun (by rw[Int.fmod_eq_emod_of_nonneg i nofun];exact q)
def jft:OpR X (bg .Pow) (rI j58 λi j=>.int (i^j.toNat)):=opI λ_ _ _ _ _ _ _ hc q=>pow_int_small hc.1 hc.2.1 hc.2.2 q
def jfr:OpR X (bg .LShift) (rI j58 λi j=>.int (i*2^j.toNat)):=opI λ_ _ _ _ _ _ _ hc q=>lshift_int_small hc.1 hc.2.1 hc.2.2 q
def jfq:OpR X (bg .RShift) (rI (λ_ j=>0<=j) λi j=>.int (i/2^j.toNat)):=opI λi j _ _ _ _ _ hc q =>rshift_int hc (by rw[i8 i (j3u _)];exact q)
def jfw:OpR X (bg .BitAnd) (rI0 λi j=>.int (Builtin.bitAnd i j)):=j4d λ_ _ _ _ _ _ _ q=>and_int q
def jfo:OpR X (bg .BitXor) (rI0 λi j=>.int (Builtin.bitXor i j)):=j4d λ_ _ _ _ _ _ _ q=>xor_int q
def unI{f:ai->mZ ai}{g:Int->Int}
  (lW:∀(i:Int)(t:gR)(s:ao)(Q:k97)(E:k97),Q (.int (g i) s.toks) { s with toks:=s.toks+1 }->aw (aB X.prog X.w) X.A (f (.int i t)) Q E s) :
  UnR X f (rU λi=>.int (g i)):=by
 intro pins s σ H x v Q I rx h;obtain⟨i,rfl,q⟩:=h;obtain⟨t,rfl⟩:=rx;exact lW i t s _ _ ⟨.int (g i),H,I.tok _,⟨_,rfl⟩,q⟩
def jej:UnR X (unaryOp .USub) (rU λi=>.int (-i)):=unI λ_ _ _ _ _ q=>neg_int q
end
noncomputable def Lb:V->V->Bool
 |.non,.non=>ah|.non,.int _=>ah|.int _,.non=>ah|.non,.bl _=>ah|.bl _,.non=>ah|.non,.str _=>ah|.str _,.non=>ah
 |.int _,.int _=>ah|.bl _,.bl _=>ah|.str _,.str _=>ah|.byt _,.byt _=>ah
 |.int _,.str _=>ah|.str _,.int _=>ah|.bl _,.str _=>ah|.str _,.bl _=>ah
 |_,_=>a9
def rEq:R2:=λx y H Q=>Lb x y=ah/\Q (.bl (decide (x=y))) H
def rNe:R2:=λx y H Q=>Lb x y=ah/\Q (.bl (!decide (x=y))) H
def j3k{i j:Int}:decide (V.int i=V.int j)=(i==j):=by rw[eS];simp
def j79{i j:Bool}:decide (V.bl i=V.bl j)=(i==j):=by rw[eS];simp
def j3j{i j:aq}:decide (V.str i=V.str j)=(i==j):=by rw[eS];simp
def j3l{i j:Array UInt8}:decide (V.byt i=V.byt j)=(i.toList==j.toList):=by rw[eS];cases i;cases j;simp
section
variable{X:Cx}{a b c:au}{ta tb tc:TE}{pos:aO}
def jw{pins:k98}{σ:St}{H:Hp}{s:ao}{Q:VK}{k k':Bool}(I:Inv X pins σ H s)(q:Q (.bl k) H)(e:k=k'):EP X pins σ Q (.bool k') s:=by subst e;exact⟨.bl k,H,I,rfl,q⟩
def jat:OpR X (aX .Eq) rEq:=by
 intro pins s σ H x y v u Q I rx ry h;obtain⟨hs,q⟩:=h;cases x with
 |non =>
  cases rx;cases y with
  |non=>cases ry;exact mC (jw I q (by simp))
  |bl j=>cases ry;exact mE (jw I q (by simp))
  |int j=>obtain⟨t',rfl⟩:=ry;exact mD (jw I q (by simp))
  |str j=>obtain⟨t',rfl⟩:=ry;exact mB (jw I q (by simp))
  |_=>exact absurd (show a9=ah from hs) xj
 |bl i =>
  cases rx;cases y with
  |non=>cases ry;exact mG (jw I q (by simp))
  |bl j=>cases ry;exact eq_bool (jw I q j79)
  |str j=>obtain⟨t',rfl⟩:=ry;exact lP (jw I q (by simp))
  |_=>exact absurd (show a9=ah from hs) xj
 |int i =>
  obtain⟨t,rfl⟩:=rx;cases y with
  |non=>cases ry;exact mF (jw I q (by simp))
  |int j=>obtain⟨t',rfl⟩:=ry;exact eq_int (jw I q j3k)
  |str j=>obtain⟨t',rfl⟩:=ry;exact lO (jw I q (by simp))
  |_=>exact absurd (show a9=ah from hs) xj
 |str i =>
  obtain⟨t,rfl⟩:=rx;cases y with
  |non=>cases ry;exact mz (jw I q (by simp))
  |bl j=>cases ry;exact lN (jw I q (by simp))
  |int j=>obtain⟨t',rfl⟩:=ry;exact lM (jw I q (by simp))
  |str j=>obtain⟨t',rfl⟩:=ry;exact eq_str (jw I q j3j)
  |_=>exact absurd (show a9=ah from hs) xj
 |byt i =>
  obtain⟨t,rfl⟩:=rx;cases y with
  |byt j=>obtain⟨t',rfl⟩:=ry;exact W.eq_bytes (jw I q j3l)
  |_=>exact absurd (show a9=ah from hs) xj
 |_=>cases y<;>exact absurd (show a9=ah from hs) xj
def jao:OpR X (aX .NotEq) rNe:=by
 intro pins s σ H x y v u Q I rx ry h;obtain⟨hs,q⟩:=h;cases x with
 |non =>
  cases rx;cases y with
  |non=>cases ry;exact mq (jw I q (by simp))
  |bl j=>cases ry;exact mw (jw I q (by simp))
  |int j=>obtain⟨t',rfl⟩:=ry;exact mr (jw I q (by simp))
  |str j=>obtain⟨t',rfl⟩:=ry;exact mj (jw I q (by simp))
  |_=>exact absurd (show a9=ah from hs) xj
 |bl i =>
  cases rx;cases y with
  |non=>cases ry;exact my (jw I q (by simp))
  |bl j=>cases ry;exact ne_bool (jw I q (congrArg not j79))
  |str j=>obtain⟨t',rfl⟩:=ry;exact lL (jw I q (by simp))
  |_=>exact absurd (show a9=ah from hs) xj
 |int i =>
  obtain⟨t,rfl⟩:=rx;cases y with
  |non=>cases ry;exact mx (jw I q (by simp))
  |int j=>obtain⟨t',rfl⟩:=ry;exact ne_int (jw I q (congrArg not j3k))
  |str j=>obtain⟨t',rfl⟩:=ry;exact lK (jw I q (by simp))
  |_=>exact absurd (show a9=ah from hs) xj
 |str i =>
  obtain⟨t,rfl⟩:=rx;cases y with
  |non=>cases ry;exact mi (jw I q (by simp))
  |bl j=>cases ry;exact lJ (jw I q (by simp))
  |int j=>obtain⟨t',rfl⟩:=ry;exact lI (jw I q (by simp))
  |str j=>obtain⟨t',rfl⟩:=ry;exact ne_str (jw I q (congrArg not j3j))
  |_=>exact absurd (show a9=ah from hs) xj
 |byt i =>
  obtain⟨t,rfl⟩:=rx;cases y with
  |byt j=>obtain⟨t',rfl⟩:=ry;exact W.ne_bytes (jw I q (congrArg not j3l))
  |_=>exact absurd (show a9=ah from hs) xj
 |_=>cases y<;>exact absurd (show a9=ah from hs) xj
def jap:OpR X (aX .Lt) (rI0 λi j=>.bl (decide (i<j))):=j4e λ_ _ _ _ _ _ _ q=>lt_int q
def jaq:OpR X (aX .LtE) (rI0 λi j=>.bl (decide (i<=j))):=j4e λ_ _ _ _ _ _ _ q=>le_int q
def jar:OpR X (aX .Gt) (rI0 λi j=>.bl (decide (j<i))):=j4e λ_ _ _ _ _ _ _ q=>gt_int q
def jas:OpR X (aX .GtE) (rI0 λi j=>.bl (decide (j<=i))):=j4e λ_ _ _ _ _ _ _ q=>ge_int q
def Ih:OpR X (aX .Lt) (λx y H Q=>∃i j,x=.str i/\y=.str j/\Q (.bl (decide (i.cps.toList<j.cps.toList))) H):=by intro pins s σ H x y v u Q I rx ry h;obtain⟨i,j,rfl,rfl,q⟩:=h;obtain⟨t,rfl⟩:=rx;obtain⟨t',rfl⟩:=ry;exact lt_str (jw I q rfl)
def Ii:OpR X (aX .In) (λx y H Q=>∃i j,x=.str i/\y=.str j/\Q (.bl (!(gb j i 0 j.length 1).isEmpty)) H):=by intro pins s σ H x y v u Q I rx ry h;obtain⟨i,j,rfl,rfl,q⟩:=h;obtain⟨t,rfl⟩:=rx;obtain⟨t',rfl⟩:=ry;exact in_str (jw I q rfl)
def jco:OpR X (aX .IsNot) (λx y H Q=>y=.non/\Q (.bl (!decide (x=.non))) H):=by
 intro pins s σ H x y v u Q I rx ry h;obtain⟨rfl,q⟩:=h;cases ry;refine isnot_none_gen (jw I q ?_);cases x<;>first
  |(cases rx;rfl)
  |(obtain⟨t,rfl⟩:=rx;rfl)
def zc(b:au){op:iL}(h:op≠.In:=by decide)(h2:op≠.NotIn:=by decide):aH op b=a9:=by
 have e1:(op==CmpOp.In)=a9:=by cases op<;>first|rfl|exact absurd rfl h
 have e2:(op==CmpOp.NotIn)=a9:=by cases op<;>first|rfl|exact absurd rfl h2
 cases b<;>simp[aH,e1,e2]
def J9{op:iL}{r:R2}(ho:OpR X (aX op) r)(ha:PE X a ta)(hb:PE X b tb)(hm:aH op b=a9):PE X (.Compare a [op] [b] pos) (tOp r ta tb):=by intro pins s σ H Q I h;exact wpAny_Compare1 (ja6 ha hb I h λv u s2 x y H2 I2 rx ry q=>ho pins s2 σ H2 x y v u Q I2 rx ry q) hm
def jiq(t:TE):TT:=λσ H Q=>t σ H λx H'=>∃k,x=.bl k/\Q k H'
def Jp{op:iL}{r:R2}(ho:OpR X (aX op) r)(ha:PE X a ta)(hb:PE X b tb)(hm:aH op b=a9):PT X (.Compare a [op] [b] pos) (jiq (tOp r ta tb)):=by
 intro pins s σ H Q I h;refine ko (thn (ha pins s σ H _ I h) λv s1 ⟨x,H1,I1,r1,q1⟩=>thn (hb pins s1 σ H1 _ I1 q1) λu s2 ⟨y,H2,I2,r2,q2⟩ =>
  thn (ho pins s2 σ H2 x y v u _ I2 r1 r2 q2) λc s3 ⟨z,H3,I3,r3,k,e,q3⟩=>?_) hm
 subst e;cases r3;exact bE ⟨H3,I3,q3⟩
def Wm:(av:Nat)<2^63:=by rw[cD];decide
def j4c:OpR X (bg .Add) (λx y H Q=>∃i j,x=.str i/\y=.str j/\i.length+j.length<=av/\Q (.str (i++j)) H):=by intro pins s σ H x y v u Q I rx ry h;obtain⟨i,j,rfl,rfl,hz,q⟩:=h;obtain⟨t,rfl⟩:=rx;obtain⟨t',rfl⟩:=ry;exact add_str (λt' tk=>⟨.str (i++j),H,I.tok _,⟨_,rfl⟩,q⟩) hz
def vals1{x:V}{us:List ai}(r:Vals [x] us):∃u,us=[u]/\RelV x u:=by
 cases r with
 |cons r1 r2=>cases r2;exact⟨_,rfl,r1⟩
def vals2{x y:V}{us:List ai}(r:Vals [x,y] us):∃u w',us=[u,w']/\RelV x u/\RelV y w':=by
 cases r with
 |cons r1 r2 =>
  cases r2 with
  |cons r3 r4=>cases r4;exact⟨_,_,rfl,r1,r3⟩
def j7n (hc:X.calm=ah):Qg X (.builtin "max") (λxs H Q=>∃i j,xs=[.int i,.int j]/\Q (.int (if j>i then j else i)) H):=by
 intro pins s σ H xs us Q I r h;obtain⟨i,j,rfl,q⟩:=h;obtain⟨u,w',rfl,⟨t,rfl⟩,⟨t',rfl⟩⟩:=vals2 r;refine max_two_ints (I.ok.hd hc) λh' tk k=>⟨_,H,I.kept k,?_,q⟩
 by_cases hj:j>i
 .rw[if_pos hj,if_pos hj];exact⟨_,rfl⟩
 .rw[if_neg hj,if_neg hj];exact⟨_,rfl⟩
def j7m (hc:X.calm=ah):Qg X (.builtin "min") (λxs H Q=>∃i j,xs=[.int i,.int j]/\Q (.int (if j<i then j else i)) H):=by
 intro pins s σ H xs us Q I r h;obtain⟨i,j,rfl,q⟩:=h;obtain⟨u,w',rfl,⟨t,rfl⟩,⟨t',rfl⟩⟩:=vals2 r;refine min_two_ints (I.ok.hd hc) λh' tk k=>⟨_,H,I.kept k,?_,q⟩
 by_cases hj:j<i
 .rw[if_pos hj,if_pos hj];exact⟨_,rfl⟩
 .rw[if_neg hj,if_neg hj];exact⟨_,rfl⟩
def j7o:Qg X (.type "int") (λxs H Q=>(∃i,xs=[.int i]/\Q (.int i) H)\/∃k,xs=[.bl k]/\Q (.int (if k then 1 else 0)) H):=by
 intro pins s σ H xs us Q I r h;rcases h with ⟨i,rfl,q⟩|⟨k,rfl,q⟩
 .obtain⟨u,rfl,t,rfl⟩:=vals1 r;exact call_int_int ⟨.int i,H,I,⟨_,rfl⟩,q⟩
 .obtain⟨u,rfl,r1⟩:=vals1 r;cases r1;exact call_int_bool ⟨.int (if k then 1 else 0),H,I.tok _,⟨_,rfl⟩,q⟩
end
structure Cls(K:k96)(C:aj):Prop where
 pg:W.plainGet K C fh=ah
 hd:W.hasDictIn K C=ah
 po:W.plainOver K C=ah
 sa:W.findIn K (.ref C) "__setattr__" = a8 (a8 (.builtin "object.__setattr__"))
def O8(K:k96)(C:aj)(f:aq):Prop:=W.findIn K (.ref C) f=a8 ae
structure Meth(K:k96)(C:aj)(m:aq)(f:aj):Prop where
 at_:W.findIn K (.ref C) m=a8 (a8 (.ref f))
 fn:W.isFn K (.ref f)=ah
 kp:W.keepIn K (.ref f)=ah
structure Room(k:Nat)(A:aF):Prop where
 hd:A.handled=ae
 dp:A.depth+3*k+5<fK
 un:A.units+16*k+200<aQ
 gd:A.guards=a8 []
def Room.mono{j k:Nat}{A:aF}(r:Room k A)(h:j<=k):Room j A:=⟨r.hd,by have:=r.dp;omega,by have:=r.un;omega,r.gd⟩
def Room.deeper{k:Nat}{A:aF}(r:Room (k+1) A)(env:d9):Room k (A.deeper env) :=
 ⟨r.hd,by have:=r.dp;show A.depth+1+3*k+5<_;omega,by have:=r.un;show A.units+3+16*k+200<_;omega,r.gd⟩
def Room.depth{k:Nat}{A:aF}(r:Room k A):A.depth<fK:=by have:=r.dp;omega
def jl5:TA:=λ_ H Q=>Q [] H
def jam(ta:TE)(tr:TA):TA:=λσ H Q=>ta σ H λx H1=>tr σ H1 λxs H2=>Q (x::xs) H2
section
variable{X:Cx}{e:au}{es:List au}{te:TE}{t:TA}{pos:aO}
def jt:PA X [] jl5:=λ_ _ _ _ H Q I h=>dF ⟨[],H,I,.nil,h⟩
def jc(ha:PE X e te)(hr:PA X es t)(hs:af (e::es) X.env=(a9,aC e X.env)::af es X.env:=by rfl):PA X (e::es) (jam te t):=by intro pos pins s σ H Q I h;rw[hs];show aw _ _ (iw ((a9,aC e X.env)::aP pos (af es X.env))) _ _ s;refine df (thn (ha pins s σ H _ I h) λu s1 ⟨x,H1,I1,r1,q1⟩=>?_);exact thn (hr pos pins s1 σ H1 _ I1 q1) λus s2 ⟨xs,H2,I2,r2,q2⟩=>⟨x::xs,H2,I2,.cons r1 r2,q2⟩
def jl1(t:TA):TE:=λσ H Q=>t σ H λxs H1=>xs.length<=av/\∀p,H1 p=ae->Q (.ref p) (upd H1 p (.tup xs))
def jl6(t:TA):TE:=λσ H Q=>t σ H λxs H1=>xs.length<=av/\∀p,H1 p=ae->Q (.ref p) (upd H1 p (.lst xs))
def j65{x1}(h:PA X es t):PE X (.Tuple es x1 pos) (jl1 t):=by intro pins s σ H Q I hq;refine wpAny_Tuple_spliced (thn (h pos pins s σ H _ I hq) λus s1 ⟨xs,H1,I1,r,z,q⟩=>⟨by rw[<-r.length];exact z,?_⟩);have hf:H1 s1.heap.objs.size=ae:=I1.hok.fresh (X3 _);refine⟨.ref s1.heap.objs.size,upd H1 s1.heap.objs.size (.tup xs),I1.laid (t':=s1.toks) (λb u e=>km _ e) (X3 _) ?_,rfl,q _ hf⟩;exact⟨z,us,r,⟨_,xu _ rfl,rfl,_,rfl⟩,Zu.new _ _⟩
def jfk(h:PA X es t):PE X (.List es pos) (jl6 t):=by intro pins s σ H Q I hq;refine wpAny_List_spliced (thn (h pos pins s σ H _ I hq) λus s1 ⟨xs,H1,I1,r,z,q⟩=>⟨by rw[<-r.length];exact z,?_⟩);have hf:H1 s1.heap.objs.size=ae:=I1.hok.fresh (X3 _);refine⟨.ref s1.heap.objs.size,upd H1 s1.heap.objs.size (.lst xs),I1.laid (t':=s1.toks) (λb u e=>km _ e) (X3 _) ?_,rfl,q _ hf⟩;exact⟨z,us,0,r,xu _ rfl⟩
end
abbrev Sp:=List V->Hp->VK->XK->Prop
abbrev CXT:=List d9->Hp->ao->XK->ai->ao->Prop
structure Env0(P:ay)(w:aD)(K:k96)(mg:k99)(base:aE)(A:aF)(outer:List d9)(s:ao)(H:Hp):Prop where
 frames:A.frames=a8 outer
 mod:Mod K mg base
 bs:∀b o,base.get? b=a8 o->s.heap.get? b=a8 o/\H b=ae
 bsz:base.objs.size<=s.heap.objs.size
 funs:s.heap.FunFrames base outer
 frf:∀b∈frs outer,H b=ae
 hok:HOk P w H s.heap
 bare:eJ s.gens
def CE(outer:List d9)(P:ay)(w:aD)(H:Hp)(s:ao)(Q:VK)(u:ai)(s':ao):Prop :=
 ∃v H',s'.os=s.os/\eJ s'.gens/\Un (frs outer) [] H H' s.heap s'.heap/\HOk P w H' s'.heap/\RelV v u/\Q v H'
def CR(CX:CXT)(outer:List d9)(P:ay)(w:aD)(H:Hp)(s:ao)(Q:VK)(E:XK)(r:eL)(s':ao):Prop :=
 match r with
 |.ok (.ret u)=>CE outer P w H s Q u s'
 |.ok _=>False
 |.error e=>CX outer H s E e s'
structure FnOk(P:ay)(w:aD)(K:k96)(mg:k99)(base:aE)(CX:CXT)(k:Nat)(f:aj)(fd:aL)(ps:List aq)(sp:Sp):Prop where
 len:∀vs H Q E,sp vs H Q E->vs.length=ps.length
 run:∀(A:aF)(outer:List d9)(s:ao)(H:Hp)(args:Args)(us:List ai)(vs:List V) (Q:VK) (E:XK),Room k A->Env0 P w K mg base A outer s H->dJ s fd args (ps.zip us)->Vals vs us->sp vs H Q E ->
  bL (aB P w) A (.call (.ref f) args) (CR CX outer P w H s Q E) s
def FnOk.imp{P:ay}{w:aD}{K:k96}{mg:k99}{base:aE}{CX:CXT}{k:Nat}{f:aj}{fd:aL}{ps:List aq}{sp sp':Sp}(F:FnOk P w K mg base CX k f fd ps sp)
  (h:∀vs H Q E,sp' vs H Q E->sp vs H Q E):FnOk P w K mg base CX k f fd ps sp' :=
 ⟨λvs H Q E q=>F.len vs H Q E (h _ _ _ _ q),λA outer s H args us vs Q E hr he hb hv hs=>F.run A outer s H args us vs Q E hr he hb hv (h _ _ _ _ hs)⟩
section
variable{X:Cx}{pins:k98}{σ:St}{H:Hp}{s s':ao}
def Inv.env0(I:Inv X pins σ H s):Env0 X.prog X.w X.K X.mg X.base X.A X.stack s H :=
 ⟨I.ok.frames,I.ok.mod,I.bs,Xg I.ok.bsz I.sz,I.stack,I.stkFree,I.hok,I.bare⟩
def Inv.after{Q:VK}{u:ai}(I:Inv X pins σ H s)(h:CE X.stack X.prog X.w H s Q u s'):EP X pins σ Q u s':=by obtain⟨v,H',os,bare,un,hok,r,q⟩:=h;obtain⟨hh,g,d,t,os'⟩:=s';obtain rfl:os'=s.os:=os;exact⟨v,H',I.call (h':=hh) (g':=g) (d':=d) (t':=t) (ch:=[]) un hok bare (λb z=>absurd z (by simp)),r,q⟩
end
def jiv(sp:Sp)(dvs:List V)(E:XK)(t:TA):TE:=λσ H Q=>t σ H λvs H1=>sp (vs++dvs) H1 Q E
def Binds(K:k96)(fd:aL)(ps:List aq)(ds:List ai):Prop :=
 ∀(s:ao)(us:List ai),K.In s.heap->(us++ds).length=ps.length->dJ s fd ⟨us,[]⟩ (ps.zip (us++ds))
def Binds.all{K:k96}{fd:aL}{ps:List aq}(h:∀us:List ai,us.length=ps.length->eU fd ⟨us,[]⟩=pure (ps.zip us)):Binds K fd ps []:=λs us _ hl=>by rw[Xn]at hl ⊢;exact .of_eq (h us hl)
def j24(CX:CXT)(X:Cx)(E:XK):Prop:=∀(pins:k98) (σ:St) (H:Hp) (s:ao) (e:ai) (s':ao),Inv X pins σ H s->CX X.stack H s E e s'->X.xe e s'
section
variable{X:Cx}{CX:CXT}{k:Nat}{f C:aj}{fd:aL}{ps:List aq}{sp:Sp}{dvs:List V}{ds:List ai}{E:XK}{x m:aq}{p pos apos:aO}{e o:au}{es:List au}{ta:TE}{t:TA}
def jez{pins:k98}{σ:St}{H:Hp}{s:ao}{Q:VK}{us:List ai}{vs:List V}(F:FnOk X.prog X.w X.K X.mg X.base CX k f fd ps sp)(hr:Room k X.A)(hb:Binds X.K fd ps ds)(hd:Vals dvs ds)(hx:j24 CX X E)
  (I:Inv X pins σ H s) (r:Vals vs us) (h:sp (vs++dvs) H Q E):aw (aB X.prog X.w) X.A (call (.ref f) us) (EP X pins σ Q) X.xe s:=by
 have r2:Vals (vs++dvs) (us++ds):=r.append hd;have hl:(us++ds).length=ps.length:=by rw[<-r2.length];exact F.len _ _ _ _ h
 refine gq (bG (F.run X.A X.stack s H ⟨us,[]⟩ (us++ds) (vs++dvs) Q E hr I.env0 (hb s us I.kIn hl) r2 h) λr s' hq=>?_);cases r with
 |error e=>exact hx pins σ H s e s' I hq
 |ok fl =>
  cases fl with
  |ret u=>exact I.after hq
  |next=>exact bx hq
  |brk=>exact bx hq
  |cont=>exact bx hq
def Yy(F:FnOk X.prog X.w X.K X.mg X.base CX k f fd ps sp)(hr:Room k X.A)(hg:Gl X x)(hm:X.mg x=a8 (.ref f))(hk:W.keepIn X.K (.ref f)=ah)(hb:Binds X.K fd ps ds)(hd:Vals dvs ds)(hx:j24 CX X E)
  (ha:PA X (e::es) t) (hdb:(x==k9a)=a9:=by decide) (he:af (e::es) X.env=(a9,aC e X.env)::af es X.env:=by rfl) (hpl:(aP pos (af es X.env)).any (·.1)=a9:=by rfl) :
  PE X (.Call (.Name x p) (e::es) [] pos) (jiv sp dvs E t):=by
 intro pins s σ H Q I h;refine aK (Yz I hg hm ?_ hdb);refine W.callWith_K (h₀:=X.base) I.ok.mod.kin hk (thn (ha pos pins s σ H _ I h) λus s1 ⟨vs,H1,I1,r,q⟩=>⟨I1.kIn,?_⟩) he hpl;exact jez F hr hb hd hx I1 r q
structure Mk(K:k96)(C f:aj):Prop where
 makes:W.makesIn K C=ah
 init:W.findIn K (.ref C) "__init__" = a8 (a8 (.ref f))
 fn:W.isFn K (.ref f)=ah
 kp:W.keepIn K (.ref C)=ah
end
def PK(X:Cx)(kws:List b7)(t:TA):Prop :=
 ∀(pos:aO)(pins:k98) (s:ao) (σ:St) (H:Hp) (Q:List V->Hp->Prop),Inv X pins σ H s->t σ H Q->aw (aB X.prog X.w) X.A (evalAll ((bM pos (ba kws X.env)).map (·.2))) (AP X pins σ Q) X.xe s
section
variable{X:Cx}{CX:CXT}{k:Nat}{f C:aj}{fd:aL}{ps ks:List aq}{sp:Sp}{E:XK}{x m:aq}{p pos apos kpos:aO}{e o:au}{es:List au}{kws:List b7}{te ta:TE}{t tk:TA}{nm:Option aq}
def Wl(ha:PE X e te)(hr:PK X kws t):PK X (⟨nm,e,kpos⟩::kws) (jam te t):=by intro pos pins s σ H Q I h;show aw _ _ (evalAll ((do let v <-aC e X.env;lC pos;pure v)::(bM pos (ba kws X.env)).map (·.2))) _ _ s;refine wpAny_evalAll_cons (aa (thn (ha pins s σ H _ I h) λu s1 ⟨x,H1,I1,r1,q1⟩=>aa (gc (ar ?_))));exact thn (hr pos pins s1 σ H1 _ I1 q1) λus s2 ⟨xs,H2,I2,r2,q2⟩=>⟨x::xs,H2,I2,.cons r1 r2,q2⟩
structure KBinds(K:k96)(fd:aL)(ps ks:List aq)(g:List ai->List ai->List ai)(gV:List V->List V->List V):Prop where
 to:∀(s:ao)(us ws:List ai),K.In s.heap->(g us ws).length=ps.length->dJ s fd ⟨us,ks.zip ws⟩ (ps.zip (g us ws))
 rel:∀{vs:List V}{us:List ai}{zs:List V}{ws:List ai},Vals vs us->Vals zs ws->Vals (gV vs zs) (g us ws)
variable{g:List ai->List ai->List ai}{gV:List V->List V->List V}
end
structure FnScope(N P:List aq)(sc:b8):Prop where
 kind:sc.kind=.function
 co:sc.isCoroutine=a9
 gen:sc.isGenerator=a9
 nd:N.Nodup
 pre:N.take P.length=P
 par:∀x∈P,sc.names.lookup x=a8 .local\/sc.names.lookup x=a8 .cell
 nofree:∀y∈sc.names,y.2≠.free
theorem Eg{kindOf:aq->Option bC}{x:aq}:∀{binds:List (aq×ai)} {m:k99},(∀v,(x,v)∉binds)->jI kindOf binds m x=m x
 |[],_,_=>rfl
 |(n,v)::r,m,h=>by
  unfold jI;rw[Eg λw hw=>h w (xg _ hw)];split
  .have:x≠n:=by rintro rfl;exact h v xq
   simp[this]
  .rfl
theorem Ei{kindOf:aq->Option bC}{x:aq}:∀{binds:List (aq×ai)} {m:k99},(∀v,(x,v)∉binds)->jJ kindOf binds m x=m x
 |[],_,_=>rfl
 |(n,v)::r,m,h=>by
  unfold jJ;rw[Ei λw hw=>h w (xg _ hw)];split
  .rfl
  .have:x≠n:=by rintro rfl;exact h v xq
   simp[this]
theorem Eh{kindOf:aq->Option bC}{x:aq}{v:ai}:∀{P:List aq}{vs:List ai}{i:Nat}{m:k99},P.Nodup->P[i]?=a8 x->vs[i]?=a8 v->kindOf x=a8 .local ->
  jI kindOf (P.zip vs) m x=a8 v
 |[],_,_,_,_,h,_,_=>by simp at h
 |_::_,[],_,_,_,_,h,_=>by simp at h
 |p::P,w::vs,0,m,nd,h1,h2,hk=>by simp at h1 h2;subst h1;subst h2;show jI kindOf ((p,w)::P.zip vs) m p=_;unfold jI;rw[Eg λv hv=>(Xk.mp nd).1 (eO hv).1,if_pos hk];simp
 |p::P,w::vs,i+1,m,nd,h1,h2,hk=>by show jI kindOf ((p,w)::P.zip vs) m x=_;unfold jI;exact Eh (i:=i) (Xk.mp nd).2 (by simpa using h1) (by simpa using h2) hk
theorem Ej{kindOf:aq->Option bC}{x:aq}{v:ai}:∀{P:List aq}{vs:List ai}{i:Nat}{m:k99},P.Nodup->P[i]?=a8 x->vs[i]?=a8 v->kindOf x≠a8 .local ->
  jJ kindOf (P.zip vs) m x=a8 v
 |[],_,_,_,_,h,_,_=>by simp at h
 |_::_,[],_,_,_,_,h,_=>by simp at h
 |p::P,w::vs,0,m,nd,h1,h2,hk=>by simp at h1 h2;subst h1;subst h2;show jJ kindOf ((p,w)::P.zip vs) m p=_;unfold jJ;rw[Ei λv hv=>(Xk.mp nd).1 (eO hv).1,if_neg hk];simp
 |p::P,w::vs,i+1,m,nd,h1,h2,hk=>by show jJ kindOf ((p,w)::P.zip vs) m x=_;unfold jJ;exact Ej (i:=i) (Xk.mp nd).2 (by simpa using h1) (by simpa using h2) hk
noncomputable def start(N:List aq)(vs:List V):St:=vs.map a8++ak (N.length-vs.length) ae
noncomputable def zq(CX:CXT)(P:ay)(w:aD)(K:k96)(mg:k99)(base:aE)(N:List aq)(qual:aq)(scope:b8)(f:aj)(cd:ai)(A:aF)(outer:List d9)(s:ao)(H:Hp)(E:XK):Cx where
 prog:=P
 w:=w
 K:=K
 mg:=mg
 base:=base
 A:=A.deeper (bD qual scope s.heap.objs.size f cd)
 N:=N
 s₀:=s
 H₀:=H
 env:=bD qual scope s.heap.objs.size f cd
 outer:=outer
 stack:=bD qual scope s.heap.objs.size f cd::outer
 ex:=[]
 calm:=ah
 fn:=λ_=>ah
 pn:=[]
 xe:=λe s'=>aw (aB P w) (A.deeper (bD qual scope s.heap.objs.size f cd)) (leaving (bD qual scope s.heap.objs.size f cd) e) (λ_ s''=>CX outer H s E e s'') (λe' s''=>CX outer H s E e' s'') s'
def j1w{sc:b8}{n:Nat}{x:aq}(h:sc.names.lookup x=a8 .cell):∃c,(aT n sc.names []).lookup x=a8 c:=by have q:=W.cellsFrom_some sc.names n [] (.inl h);exact Xx.mp q
def j6y{CX:CXT}{P:ay}{w:aD}{K:k96}{mg:k99}{base:aE}{N ps:List aq}{qual:aq}{scope:b8}{f:aj}{cd:ai}{A:aF}{outer:List d9}{s s1:ao}{H:Hp}{E:XK}{us:List ai}{vs:List V}
  (S:FnScope N ps scope) (cm:Bool) (hd:cm=ah->A.handled=ae) (e0:Env0 P w K mg base A outer s H) (hl:vs.length=ps.length) (r:Vals vs us)
  (x:InCallC s s.heap.objs.size (jI (bD qual scope s.heap.objs.size f cd).kindOf (ps.zip us) λ_=>ae) (aT (s.heap.objs.size+1) scope.names []) (jJ (bD qual scope s.heap.objs.size f cd).kindOf (ps.zip us) λ_=>ae) s1) :
  Inv { zq CX P w K mg base N qual scope f cd A outer s H E with calm:=cm } [] (start N vs) H s1:=by
 have hpl:ps.length<=N.length:=by have:=congrArg dM S.pre;rw[Pa]at this;omega
 obtain⟨h1,tk,rfl,hk⟩:=x.done;have noA:∀b:aj,b∉(zq CX P w K mg base N qual scope f cd A outer s H E).ex:=λb z=>absurd (show b∈([]:List aj)from z) (by simp);refine⟨⟨e0.mod,S.kind,rfl,rfl,X3 _,λy z c h1 h2=>?_,λy hy=>?_,λy c _ h=>?_,hd,Around.frames_deeper e0.frames,.inr ⟨rfl,rfl⟩,λb z=>absurd z (noA b),e0.bs,e0.bsz,λb _ _=>noA b,λb z=>absurd z (noA b),e0.funs,e0.frf⟩,
  rfl,e0.bare,Un.kept hk,⟨_,x.toInCall.ns,λi y v h1 h2 h3=>?_⟩,λy c h=>⟨_,x.cell y c h⟩,e0.hok.fresh (X3 _),λy c h=>?_,λp hp=>absurd (show p∈([]:k98)from hp) (by simp),e0.hok.kept hk,?_⟩
 .exact name_of_addr x.apart (Pr h1) (Pr h2)
 .have hy:scope.names.lookup y=a8 .cell\/scope.names.lookup y=a8 .free:=hy;rcases hy with hy|hy
  .exact j1w hy
  .exact absurd rfl (S.nofree _ (Pr hy))
 .exact dk (x.above y c (Pr h))
 .have hi:i<vs.length:=by
   unfold start at h2;by_cases hi:i<vs.length
   .exact hi
   .rw[dr (by simpa using hi)]at h2;rw[cG]at h2;split at h2<;>cases h2
  have ha:vs[i]?=a8 v:=by
   unfold start at h2;rw[t8 (by simpa using hi),X4]at h2;cases e:vs[i]? with
   |none=>rw[e]at h2;cases h2
   |some a=>rw[e]at h2;cases h2;rfl
  obtain⟨u,hu,rv⟩:=r.get ha;have hp:ps[i]?=a8 y:=by rw[<-S.pre,List.getElem?_take_of_lt nofun];exact h1
  have ndP:ps.Nodup:=by rw[<-S.pre];exact S.nd.sublist (List.take_sublist _ _)
  refine⟨u,rv,?_⟩;rcases S.par y (Xq hp)with k|k
  .exact .inl ⟨k,Eh ndP hp hu k⟩
  .obtain⟨c,e⟩:=j1w (n:=s.heap.objs.size+1) k;refine .inr ⟨.inl k,c,e,?_⟩;have q:=x.cell y c e;rw[Ej ndP hp hu (by show scope.names.lookup y≠_;rw[k];decide)]at q;exact q
 .exact e0.hok.fresh (dk (x.above y c (Pr h)))
 .unfold start;show _=N.length;rw[Xd,xf,Pk];omega
def Inv.extOut{X:Cx}{pins:k98}{σ:St}{H H2:Hp}{s:ao}(J:Inv X pins σ H s)(x:Ext X H H2 s):HOk X.prog X.w H2 s.heap/\(X.ex=[]->Un X.fs [] X.H₀ H2 X.s₀.heap s.heap):=by
 have old:∀b o,X.s₀.heap.get? b=a8 o->H2 b=H b:=λb o e=>(x b).elim id λ⟨y,ob,v,hc,hf,_⟩=>absurd (Xi (xn e) (J.ok.cab y b hf hc)) (Ph _);have trk:∀{b:aj}{u:HO},H b=a8 u->H2 b=a8 u:=λ{b u} e=>(x b).elim (λz=>z.trans e) λ⟨y,ob,v,hc,_⟩=>by rw[J.freeC y b hc]at e;cases e
 refine⟨λa o e=>?_,λhx=>?_⟩
 .rcases x a with z|⟨y,ob,v,_,_,e2,e3,_⟩
  .exact(J.hok a o (z▸e)).stay (λ_ _ _ q=>q) (λ_ q=>trk q) (λ_ _ q=>trk q) λ_ _ _ q=>trk q
  .rw[e2]at e;cases e;exact⟨e3,ob,e3⟩
 .have nx:∀b,b∉X.ex:=λb=>by rw[hx];simp
  exact⟨λb o e n hb _=>J.base.keep b o e n hb (nx b),λb o e n hb _=>J.base.slot b o e n hb (nx b),λb o e n _=>(old b o e).trans (J.base.free b o e n (nx b)),λb o e _=>J.base.there b o e (nx b),
   λb xs e=>trk (J.base.tups b xs e),λb o u e=>trk (J.base.frzs b o u e),λb ps e=>let ⟨m,z⟩:=J.base.tbls b ps e;⟨m,trk z⟩⟩
def jb1{CX:CXT}{P:ay}{w:aD}{K:k96}{mg:k99}{base:aE}{k:Nat}{f:aj}{name qual:aq}{params:dQ}{body:List aS}{scope:b8}{dV kV doc pm cdv ct oc:ai}{an od:Option aj}
  {osl:Array (Option ai)} {N ps:List aq} {sp:Sp} (lk:K.lookup f=a8 ⟨oc,od,.func (W.fnOf name qual params body scope dV kV doc pm an cdv ct),osl⟩) (hcd:W.codeIn K cdv qual=ah) (S:FnScope N ps scope)
  (len:∀vs H Q E,sp vs H Q E->vs.length=ps.length)
  (hbody:∀(A:aF)(outer:List d9)(s:ao)(H:Hp)(vs:List V)(Q:VK)(E:XK),Room k (A.deeper (bD qual scope s.heap.objs.size f cdv))->sp vs H Q E ->
   ∃t,PSs (zq CX P w K mg base N qual scope f cdv A outer s H E) body t/\t { nx:=λ_ H'=>Q .non H',rt:=Q } (start N vs) H) :
  FnOk P w K mg base CX (k+1) f (W.fnOf name qual params body scope dV kV doc pm an cdv ct) ps sp:=by
 refine⟨len,λA outer s H args us vs Q E hr e0 hb r hsp=>?_⟩;have hl:=len _ _ _ _ hsp;have KX:K.In s.heap:=e0.mod.kin.keeps λb o e=>(e0.bs b o e).1;have lim:s.heap.NoLimit:=e0.mod.nolimit.keeps λb o e=>(e0.bs b o e).1;have hkind:∀y∈ps.zip us,scope.names.lookup y.1=a8 .local\/(scope.names.lookup y.1=a8 .cell/\((aT (s.heap.objs.size+1) scope.names []).lookup y.1).isSome=ah):=λ⟨n,v⟩ hy=>by
  rcases S.par n (eO hy).1 with q|q
  .exact .inl q
  .exact .inr ⟨q,W.cellsFrom_some _ _ _ (.inl q)⟩
 refine codeAny_call_function hr.depth (KX _ _ lk) rfl S.co S.gen rfl (W.codeRec_of KX hcd) (hb _ _ _ _ ?_);refine wpAny_newFunctionEnv_cells S.kind hkind λenv he s1 x=>?_;subst he;refine⟨lim.keeps x.toInCall.keep,codeAny_func ?_⟩;obtain⟨t,ht,hq⟩:=hbody A outer s H vs Q E (hr.deeper _) hsp;have I:Inv (zq CX P w K mg base N qual scope f cdv A outer s H E) [] (start N vs) H s1:=j6y S ah (λ_=>hr.hd) e0 hl r x;refine bB (ht [] s1 (start N vs) H _ I hq) (λfl s' hs=>?_) λe s' hs=>hs;have fin:∀{σ':St}{H':Hp}{v:V}{u:ai},Inv (zq CX P w K mg base N qual scope f cdv A outer s H E) [] σ' H' s'->RelV v u->Q v H'->CE outer P w H s Q u s' :=
  λ{σ' H' v u} J rv q=>⟨v,H',J.os,J.bare,J.base,J.hok,rv,q⟩
 cases fl with
 |ret u =>obtain⟨v,σ',H',H2,J,rv,x,q⟩:=hs;exact⟨v,H2,J.os,J.bare,(J.extOut x).2 rfl,(J.extOut x).1,rv,q⟩
 |next =>obtain⟨σ',H',J,q⟩:=hs;exact fin (v:=V.non) (u:=aY) J rfl q
 |brk =>obtain⟨_,_,_,q⟩:=hs;exact bx q
 |cont =>obtain⟨_,_,_,q⟩:=hs;exact bx q
section
variable{X:Cx}{x:aq}{p pos:aO}{e:au}{es:List au}{t:TA}{id T:String}{r:List V->Hp->VK->Prop}
def tCB(r:List V->Hp->VK->Prop)(t:TA):TE:=λσ H Q=>t σ H λvs H1=>r vs H1 Q
def J3 (hc:Qg X (.builtin id) r) (hg:Gl X x) (hm:X.mg x=ae) (hv:ff x=a8 (.builtin id)) (ha:PA X (e::es) t) (hn:x ≠ "__name__":=by decide) (hdb:(x==k9a)=a9:=by decide)
  (he:af (e::es) X.env=(a9,aC e X.env)::af es X.env:=by rfl) (hpl:(aP pos (af es X.env)).any (·.1)=a9:=by rfl):PE X (.Call (.Name x p) (e::es) [] pos) (tCB r t):=by
 intro pins s σ H Q I h;refine aK (Jg I hg hm hv ?_ hn hdb);exact callWith_builtin1 (thn (ha pos pins s σ H _ I h) λus s1 ⟨vs,H1,I1,r1,q1⟩=>hc pins s1 σ H1 vs us Q I1 r1 q1) he hpl
def Us (hc:Qg X (.type T) r) (hg:Gl X x) (hm:X.mg x=ae) (hv:ff x=a8 (.type T)) (ha:PA X (e::es) t) (hn:x ≠ "__name__":=by decide) (hdb:(x==k9a)=a9:=by decide)
  (he:af (e::es) X.env=(a9,aC e X.env)::af es X.env:=by rfl) (hpl:(aP pos (af es X.env)).any (·.1)=a9:=by rfl):PE X (.Call (.Name x p) (e::es) [] pos) (tCB r t):=by
 intro pins s σ H Q I h;refine aK (Jg I hg hm hv ?_ hn hdb);exact callWith_type1 (thn (ha pos pins s σ H _ I h) λus s1 ⟨vs,H1,I1,r1,q1⟩=>hc pins s1 σ H1 vs us Q I1 r1 q1) he hpl
end
end L2
namespace HT
open PySem PyProof.Rows
noncomputable def lexLt:zo->zo->Bool
 |[],[]=>a9
 |[],_::_=>ah
 |_::_,[]=>a9
 |x::xs,y::ys=>if x=y then lexLt xs ys else decide (x<y)
def lexLt_cons(x y:Int)(xs ys:zo):lexLt (x::xs) (y::ys)=if x=y then lexLt xs ys else decide (x<y):=rfl
def Ey:lexLt [] []=a9:=rfl
def Lx(y:Int)(ys:zo):lexLt [] (y::ys)=ah:=rfl
def Ly(x:Int)(xs:zo):lexLt (x::xs) []=a9:=rfl
def eqAt_int(A:aF)(s:ao)(a:Int)(t:gR)(c:Int)(u:gR):∃e,cU A s (.int a t) (.int c u) e/\(e=ah↔a=c) :=
 ⟨(a==c),SeqAt.EqAt.int_int a t c u,by simp⟩
def rcLt_int(A:aF)(s:ao)(a:Int)(t:gR)(c:Int)(u:gR)(prog:ay)(w:aD)(E:k97)(Q:k97)(h:Q (.bool (decide (a<c))) s) :
  aw (aB prog w) A (ic .Lt (.int a t) (.int c u)) Q E s :=
 (lt_int h:aw (aB prog w) A (aX .Lt (.int a t) (.int c u)) Q E s)
section
open PySem.SeqAt
open PySem.AutoSeq1 (wpAny_loadPart')
open PySem.MeetsSeq PySem.MeetsSeq2 PySem.MeetsSeq3
def Em(l b:aj)(items items2:Array ai)(n n2:Nat)(dd dd2:Option aj)(sl sl2:Array (Option ai))(ns ms:zo)(hi:d4 items.toList ns)(hj:d4 items2.toList ms) :
  jK (cO.«tuple.__lt__» ⟨[.ref l,.ref b],[]⟩)
   (λ_ R s=>s.heap.get? l=a8 { cls:=.type "tuple",dict:=dd,data:=.seq items n,slots:=sl }/\s.heap.get? b=a8 { cls:=.type "tuple",dict:=dd2,data:=.seq items2 n2,slots:=sl2 } /\
    R (.ok (.ret (.bool (lexLt ns ms)))) s) :=
 .of_wp λprog w A R s h=>by
  obtain⟨hp,g,d,tk,os⟩:=s;obtain⟨hl,hb,h⟩:=h;have f2:=gB;have z1:items.size=ns.length:=by rw[<-hi.length];simp
  have z2:items2.size=ms.length:=by rw[<-hj.length];simp
  wp_walk using dD hl,dD hb,hU _ (λrest b s'=>b.1=ae/\s'=⟨hp,g,d,tk,os⟩/\∃(vs ws:List ai)(ns' ms':zo),rest=vs.zip ws /\
   d4 vs ns'/\d4 ws ms'/\ns'.length+items2.size=ms'.length+items.size/\R (.ok (.ret (.bool (lexLt ns' ms')))) ⟨hp,g,d,tk,os⟩) _
  case turn =>
   rintro⟨y,x⟩ rest b s' ⟨hb',rfl,vs,ws,ns',ms',hz,hvi,hwi,hlen,hR⟩;cases hvi with
   |nil=>rw[List.zip_nil_left]at hz;cases hz
   |cons a t hvi' =>
    cases hwi with
    |nil=>rw[List.zip_nil_right]at hz;cases hz
    |cons c u hwi' =>
     rw[jN]at hz;injection hz with hyx hrest;injection hyx with hy hx;subst hy hx;rw[lexLt_cons]at hR;simp only[xx]at hlen;obtain⟨e,he,hiff⟩:=eqAt_int A.in1 ⟨hp,g,d,tk,os⟩ a t c u;refine aa (he prog w _ _ ?_);cases e with
     |true =>
      rw[if_pos (hiff.mp rfl)]at hR
      wp_walk
      exact⟨rfl,rfl,_,_,_,_,hrest,hvi',hwi',by omega,hR⟩
     |false =>
      rw[if_neg (λq=>absurd (hiff.mpr q) xj)]at hR;have hri:=rcLt_int A.in1 ⟨hp,g,d,tk,os⟩ a t c u prog w
      wp_walk using hri
      exact⟨_,rfl,by simpa using hR⟩
  case fin =>
   rintro⟨b1,b2⟩ s' ⟨hb',rfl,vs,ws,ns',ms',hz,hvi,hwi,hlen,hR⟩;simp only at hb';subst hb';have hv:lexLt ns' ms'=decide (items.size<items2.size):=by
    cases hvi with
    |nil =>
     cases hwi with
     |nil =>simp only[tu]at hlen;rw[Ey];exact(decide_eq_false nofun).symm
     |cons c u hw =>simp only[tu,xx]at hlen;rw[Lx];exact(decide_eq_true nofun).symm
    |cons a t hv =>
     cases hwi with
     |nil =>simp only[tu,xx]at hlen;rw[Ly];exact(decide_eq_false nofun).symm
     |cons c u hw =>rw[jN]at hz;cases hz
   rw[hv]at hR
   wp_walk
   exact⟨_,rfl,by simpa [eT]using hR⟩
  case h =>exact⟨rfl,rfl,items.toList,items2.toList,ns,ms,rfl,hi,hj,by omega,h⟩
end
section
variable{prog:ay}{w:aD}{A:aF}{E:k97}{s:ao}
def lt_tupInts{l b:aj}{items items2:Array ai}{ns ms:zo}{Q:k97}(hl:ij s.heap l items)(hb:ij s.heap b items2)(hi:d4 items.toList ns)(hj:d4 items2.toList ms)
  (hu:A.units<aQ) (h:Q (.bool (lexLt ns ms)) s):aw (aB prog w) A (aX .Lt (.ref l) (.ref b)) Q E s:=by
 obtain⟨⟨cls,dd,data,sl⟩,ho,hc,n,hd⟩:=id hl;obtain⟨⟨cls2,dd2,data2,sl2⟩,ho2,hc2,n2,hd2⟩:=id hb;simp only at hc hd hc2 hd2;subst hc hd hc2 hd2;exact jV (op:=.Lt) ⟨_,ho,rfl⟩ ⟨_,ho2,rfl⟩ i9 gZ (gQ _ _) (Em l b items items2 n n2 dd dd2 sl sl2 ns ms hi hj)
  ⟨ho,ho2,show bW (lexLt ns ms)≠iB/\Q (.bool (lexLt ns ms)) s from⟨(λx=>nomatch x),h⟩⟩ hu
def cat_tup{t b:aj}{vs ws:List ai}{Q:k97}(ht:ij s.heap t vs.toArray)(hb:ij s.heap b ws.toArray)(hv:vs≠[])
  (h1:ws=[]->Q (.ref t) s) (h2:ws≠[]->Q (.ref s.heap.objs.size) { s with heap:=s.heap.push { cls:=.type "tuple",data:=.seq (vs++ws).toArray } })
  (hsz:vs.length+ws.length<=av):aw (aB prog w) A (bg .Add (.ref t) (.ref b)) Q E s:=by
 obtain⟨⟨cls,dd,data,sl⟩,ho,hc,n,hd⟩:=id ht;obtain⟨⟨cls2,dd2,data2,sl2⟩,ho2,hc2,n2,hd2⟩:=id hb;simp only at hc hd hc2 hd2;subst hc hd hc2 hd2;have e:vs.toArray++ws.toArray=(vs++ws).toArray:=by simp
 by_cases hw:ws=[]
 .exact gO ⟨_,ho,rfl⟩ ⟨_,ho2,rfl⟩ i4 jv dU dG (dB _ _)
   (tuple_addW1 t b vs.toArray ws.toArray n n2 dd dd2 sl sl2 (by simpa using hv) (by simp[hw])) ⟨ho,ho2,h1 hw⟩
 .refine gO ⟨_,ho,rfl⟩ ⟨_,ho2,rfl⟩ i4 jv dU dG (dB _ _)
   (tuple_addW2 t b vs.toArray ws.toArray n n2 dd dd2 sl sl2 (by simpa using hv) (by simpa using hw) (by rw[X7,X7];exact hsz)) ⟨ho,ho2,?_⟩
  rw[e];exact h2 hw
noncomputable def sIx(n d:Nat):Option Int->Nat
 |none=>d
 |some v=>if v<0 then(v+(n:Int)).toNat else min v.toNat n
def sIx_none(n d:Nat):sIx n d ae=d:=rfl
def sIx_nat(n d k:Nat):sIx n d (a8 (k:Int))=min k n:=by show(if (k:Int)<0 then((k:Int)+(n:Int)).toNat else min (k:Int).toNat n)=min k n;rw[if_neg nofun,Xh]
def jey(n d:Nat)(hd:d<=n)(o:Option Int):sIx n d o<=n:=by
 cases o with
 |none=>exact hd
 |some v =>
  show(if v<0 then(v+(n:Int)).toNat else min v.toNat n)<=n;by_cases hv:v<0
  .rw[if_pos hv];omega
  .rw[if_neg hv];exact Nat.min_le_right _ _
def j3o(v:Int)(n d:Nat):(if v<0 then max (v+(n:Int)) 0 else min v (n:Int))=((sIx n d (a8 v):Nat):Int):=by
 show(if v<0 then max (v+(n:Int)) 0 else min v (n:Int))=(((if v<0 then(v+(n:Int)).toNat else min v.toNat n):Nat):Int)
 by_cases hv:v<0
 .simp only[if_pos hv];omega
 .simp only[if_neg hv];omega
def j53(lo hi:Option Int)(n:Nat):cX lo hi 1 (n:Int)=(((sIx n 0 lo:Nat):Int),((sIx n n hi:Nat):Int)):=by
 have h1:¬((1:Int)<0):=by omega
 unfold cX;simp only[h1,if_false];refine Prod.ext ?_ ?_
 .cases lo with
  |none=>rfl
  |some v=>exact j3o v n 0
 .cases hi with
  |none=>rfl
  |some v=>exact j3o v n n
def j49(i j:Nat):bN (i:Int) (j:Int) 1=j-i:=by
 unfold bN;have h1:(1:Int)>0:=by omega
 simp only[h1,if_true,Int.ediv_one];split<;>omega
def Fw{v:ai}{o:Option Int}{Q:Option Int->ao->Prop}(p:fQ v o)(h:Q o s):aw (aB prog w) A (lR v) Q E s:=by
 cases p with
 |none=>exact n9 h
 |int i t=>exact slicePart_int h
def Bv{sl:aj}{vl vu:ai}{lo hi:Option Int}{n:Nat}{Q:Int×Int×Nat->ao->Prop}(hs:s.heap.IsSliceOf sl vl vu .none)(pl:fQ vl lo)(pu:fQ vu hi)
  (h:Q (((sIx n 0 lo:Nat):Int),1,sIx n n hi-sIx n 0 lo) s):aw (aB prog w) A (fB (.ref sl) (pure (n:Int))) Q E s:=by
 obtain⟨os,hos,hcs,hds⟩:=id hs;unfold fB lS;refine aa (aa (aZ hos hds (x:=vl) rfl (aa (aZ hos hds (x:=vu) rfl (aa (aZ hos hds (x:=.none) rfl (ar ?_)))))));refine aa (n9 ?_);show aw _ _ (if ((1:Int)==0)=ah then _ else _) _ _ s;rw[if_neg (by decide)];refine aa (Fw pl (aa (Fw pu (aa (ar ?_)))));show aw _ _ (match cX lo hi 1 (n:Int)with|(lo,hi)=>pure (lo,(1:Int),bN lo hi 1)) _ _ s;rw[j53 lo hi n];show aw _ _ (pure (((sIx n 0 lo:Nat):Int),(1:Int),bN ((sIx n 0 lo:Nat):Int) ((sIx n n hi:Nat):Int) 1)) _ _ s;rw[j49];exact ar h
def j8n(xs:Array ai)(i k:Nat):((aA k).filterMap λ(m:Nat)=>xs[((i:Int)+(m:Int)*1).toNat]?).toArray=((xs.toList.drop i).take k).toArray:=by
 have e:(λ(m:Nat)=>xs[((i:Int)+(m:Int)*1).toNat]?)=λm=>xs[i+m]?:=by
  funext m
  have:((i:Int)+(m:Int)*1).toNat=i+m:=by omega
  rw[this]
 rw[e];have:=pick_run xs i k;rw[List.filterMap_map]at this;have e2:((λx=>xs[x]?) ∘ λx=>i+x)=λm=>xs[i+m]?:=rfl;rw[e2]at this;rw[this]
def getItem_tuple_cut{t sl:aj}{items:Array ai}{vl vu:ai}{lo hi:Option Int}{Q:k97}(ht:ij s.heap t items)(hs:s.heap.IsSliceOf sl vl vu .none)(pl:fQ vl lo)(pu:fQ vu hi)
  (hw:¬(sIx items.size 0 lo=0/\sIx items.size items.size hi=items.size))
  (h:Q (.ref s.heap.objs.size) { s with heap:=s.heap.push { cls:=.type "tuple",data:=.seq ((items.toList.drop (sIx items.size 0 lo)).take (sIx items.size items.size hi-sIx items.size 0 lo)).toArray } })
  (hsz:items.size<=av):aw (aB prog w) A (jY (.ref t) (.ref sl)) Q E s:=by
 have htake:sizeOk (.seq ((items.toList.drop (sIx items.size 0 lo)).take (sIx items.size items.size hi-sIx items.size 0 lo)).toArray):=by show((items.toList.drop (sIx items.size 0 lo)).take (sIx items.size items.size hi-sIx items.size 0 lo)).toArray.size<=av;rw[X7,Pa,cV,d7];omega
 have hj:sIx items.size items.size hi<=items.size:=jey _ _ (X3 _) hi;obtain⟨os,hos,hcs,hds⟩:=id hs;have hTs:s.TypeIs (.ref sl) "slice":=⟨os,hos,hcs⟩
 unfold jY
 try with_reducible refine cL ?_
 first|refine aa (ar ?_)|skip
 refine aa (wpAny_sequenceKey ht.typeIs (by decide) ?_);refine aa (b9 (name:=cb "__getitem__") ht.typeIs l5
  (bj l5 ht.typeIs entry_tuple_getitem ?_ (args_tuple_getitem _ _)))
 show aw _ _ (lQ (.ref t) >>= _) _ _ s;refine aa (tupleItemsOf_ ht ?_);refine aa (wpAny_typeOf hTs ?_);rw[if_pos (by decide)];refine aa (Bv hs pl pu ?_);have hno:¬((((sIx items.size 0 lo:Nat):Int)==0&&(1:Int)==1&&(sIx items.size items.size hi-sIx items.size 0 lo)==items.size)=ah):=by intro q;rw[Xe,Xe]at q;have q1:((sIx items.size 0 lo:Nat):Int)=0:=eq_of_beq q.1.1;have q2:sIx items.size items.size hi-sIx items.size 0 lo=items.size:=eq_of_beq q.2;exact hw ⟨by omega,by omega⟩
 show aw _ _ (if (((sIx items.size 0 lo:Nat):Int)==0&&(1:Int)==1&&(sIx items.size items.size hi-sIx items.size 0 lo)==items.size)=ah then _ else _) _ _ s;rw[if_neg hno,j8n]
 first
  |exact aa (m:=bc _) (aR (ar ⟨_,rfl,ar h⟩) htake)
  |exact aa (m:=bc _) (aR (aa (ar (ar ⟨_,rfl,ar h⟩))) htake)
  |exact aa (aa (m:=bc _) (aR (ar (ar ⟨_,rfl,ar h⟩)) htake))
  |exact aa (aa (m:=bc _) (aR (ar ⟨_,rfl,ar h⟩) htake))
end
end HT
namespace L2
open PySem PySem.Spec PyProof.Rows
abbrev TO:=St->Hp->(Option Int->Hp->Prop)->Prop
def PO(X:Cx)(e:Option au)(t:TO):Prop :=
 ∀(pins:k98) (s:ao) (σ:St) (H:Hp) (Q:Option Int->Hp->Prop),Inv X pins σ H s->t σ H Q ->
  aw (aB X.prog X.w) X.A (evalPart e X.env) (λu s'=>∃o H',Inv X pins σ H' s'/\fQ u o/\Q o H') X.xe s
def jbp:TO:=λ_ H Q=>Q ae H
def jir(t:TE):TO:=λσ H Q=>t σ H λx H1=>∃i,x=.int i/\Q (a8 i) H1
def intsAre_of{ns:zo}:∀{us:List ai},Vals (ns.map V.int) us->d4 us ns:=by
 induction ns with
 |nil=>intro us r;rw[de]at r;cases r;exact .nil
 |cons n ns ih =>
  intro us r;rw[X5]at r;cases r with
  |cons r1 r2 =>obtain⟨t,e⟩:=r1;subst e;exact .cons n t (ih r2)
section
variable{X:Cx}{e:au}{te:TE}{lo hi:Option au}{tl th:TO}{pos p2:aO}
def jci:PO X ae jbp:=by intro pins s σ H Q I h;rw[nr];exact ar ⟨ae,H,I,.none,h⟩
def jch(h:PE X e te):PO X (a8 e) (jir te):=by intro pins s σ H Q I hw;rw[evalPart_some];refine thn (h pins s σ H _ I hw) λu s1 ⟨x,H1,I1,r1,q1⟩=>?_;obtain⟨i,rfl,q⟩:=q1;obtain⟨t,rfl⟩:=r1;exact⟨a8 i,H1,I1,.int i t,q⟩
def SlR(X:Cx)(r:V->Option Int->Option Int->Hp->VK->Prop):Prop :=
 ∀(pins:k98) (s:ao) (σ:St) (H:Hp) (x:V) (v vl vu:ai) (lo hi:Option Int) (sl:aj) (Q:VK),Inv X pins σ H s->RelV x v->s.heap.IsSliceOf sl vl vu .none->fQ vl lo->fQ vu hi->r x lo hi H Q ->
  ∃T id,typeLookup (.type T) "__getitem__" = pure (a8 (.builtin id))/\s.TypeIs v T/\aw (aB X.prog X.w) X.A (jY v (.ref sl)) (EP X pins σ Q) X.xe s
def tSl(r:V->Option Int->Option Int->Hp->VK->Prop)(te:TE)(tl th:TO):TE:=λσ H Q=>te σ H λx H1=>tl σ H1 λl H2=>th σ H2 λu H3=>r x l u H3 Q
def Ng{r:V->Option Int->Option Int->Hp->VK->Prop}(hr:SlR X r)(he:PE X e te)(hl:PO X lo tl)(hu:PO X hi th):PE X (.Subscript e (.Slice lo hi ae p2) pos) (tSl r te tl th):=by intro pins s σ H Q I h;refine Subscript_ (thn (he pins s σ H _ I h) λv s1 ⟨x,H1,I1,r1,q1⟩=>?_);refine wpAny_Slice (thn (hl pins s1 σ H1 _ I1 q1) λvl s2 ⟨l,H2,I2,pl,q2⟩=>thn (hu pins s2 σ H2 _ I2 q2) λvu s3 ⟨u,H3,I3,pu,q3⟩=>?_);rw[nr];refine ar ?_;have I4:Inv X pins σ H3 { s3 with heap:=s3.heap.push { cls:=.type "slice",data:=.fields #[vl,vu,.none] } }:=I3.kept (t':=s3.toks) λb ob q=>km _ q;obtain⟨T,id,hT,ht,hg⟩:=hr pins { s3 with heap:=s3.heap.push { cls:=.type "slice",data:=.fields #[vl,vu,.none] } } σ H3 x v vl vu l u s3.heap.objs.size Q I4 r1 (Heap.IsSliceOf.new ..) pl pu q3;show aw (aB X.prog X.w) X.A (nv e (.Slice lo hi ae p2) v (.ref s3.heap.objs.size)) (EP X pins σ Q) X.xe { s3 with heap:=s3.heap.push { cls:=.type "slice",data:=.fields #[vl,vu,.none] } };exact n6 (ops:=[.ref s3.heap.objs.size,v]) ht hT hg (by with_unfolding_all rfl)
noncomputable def Mz(xs:List V)(lo hi:Option Int):List V:=(xs.drop (HT.sIx xs.length 0 lo)).take (HT.sIx xs.length xs.length hi-HT.sIx xs.length 0 lo)
def Bl(xs:List V)(lo hi:Option Int):(Mz xs lo hi).length<=xs.length:=by unfold Mz;rw[Pa,cV];omega
def jlj(K:k96):V->Option Int->Option Int->Hp->VK->Prop:=λx lo hi H Q=>∃a xs,x=.ref a/\SqT K H a xs /\
 ¬(HT.sIx xs.length 0 lo=0/\HT.sIx xs.length xs.length hi=xs.length)/\∀p,H p=ae->Q (.ref p) (upd H p (.tup (Mz xs lo hi)))
def jer:SlR X (jlj X.K):=by
 intro pins s σ H x v vl vu lo hi sl Q I rx hs pl pu h;obtain⟨a,xs,rfl,hx,hw,q⟩:=h;cases rx;obtain⟨its,r,ht,hz⟩:=I.tuple hx;have hlen:its.toArray.size=xs.length:=by rw[X7];exact r.length.symm
 refine⟨"tuple",_,slot_tuple_getitem.lookup,ht.typeIs,?_⟩;refine HT.getItem_tuple_cut ht hs pl pu (by rw[hlen];exact hw) ?_ (by rw[hlen];exact hz);rw[hlen];refine⟨.ref s.heap.objs.size,_,I.laid (t':=s.toks) (o:=.tup (Mz xs lo hi)) (λb ob q=>km _ q) (X3 _) ?_,rfl,q _ (I.hok.fresh (X3 _))⟩;exact⟨Xg (Bl xs lo hi) hz,_,(r.drop (HT.sIx xs.length 0 lo)).take (HT.sIx xs.length xs.length hi-HT.sIx xs.length 0 lo),IsTup.new _ _,Zu.new _ _⟩
def jja(K:k96):R2:=λx y H Q=>∃a b xs ys,x=.ref a/\y=.ref b/\SqT K H a xs/\SqT K H b ys/\xs≠[]/\xs.length+ys.length<=av /\
 (ys=[]->Q (.ref a) H)/\(ys≠[]->∀p,H p=ae->Q (.ref p) (upd H p (.tup (xs++ys))))
def Vals.nil_iff{xs:List V}{us:List ai}(r:Vals xs us):us=[]↔xs=[]:=by
 cases r with
 |nil=>simp
 |cons _ _=>simp
def jcp:OpR X (bg .Add) (jja X.K):=by intro pins s σ H x y v u Q I rx ry h;obtain⟨a,b,xs,ys,rfl,rfl,ha,hb,hx,hz,q1,q2⟩:=h;cases rx;cases ry;obtain⟨its,r1,p1,_⟩:=I.tuple ha;obtain⟨its2,r2,p2,_⟩:=I.tuple hb;refine HT.cat_tup p1 p2 (λz=>hx (r1.nil_iff.mp z)) (λz=>⟨.ref a,H,I,rfl,q1 (r2.nil_iff.mp z)⟩) (λz=>?_) (by rw[<-r1.length,<-r2.length];exact hz);refine⟨.ref s.heap.objs.size,_,I.laid (t':=s.toks) (o:=.tup (xs++ys)) (λb ob q=>km _ q) (X3 _) ?_,rfl,q2 (λw=>z (r2.nil_iff.mpr w)) _ (I.hok.fresh (X3 _))⟩;exact⟨by rw[Xd];exact hz,_,r1.append r2,IsTup.new _ _,Zu.new _ _⟩
end
noncomputable def ixN(n:Nat)(i:Int):Option Nat:=if 0<=i then(if i<n then a8 i.toNat else ae)else if -(n:Int)<=i then a8 (i+n).toNat else ae
noncomputable def atI{α:Type}(xs:List α)(i:Int):Option α:=(ixN xs.length i).bind λj=>xs[j]?
def jd4{n:Nat}{i:Int}{j:Nat}(h:ixN n i=a8 j):seqIndex? i n=a8 j/\j<n/\-(n:Int)<=i/\i<n:=by
 unfold ixN at h;by_cases h0:0<=i
 .rw[if_pos h0]at h;by_cases h1:i<n
  .rw[if_pos h1]at h;have e:i.toNat=j:=az h;exact⟨by rw[seqIndex_of h0 h1,e],by omega,by omega,h1⟩
  .rw[if_neg h1]at h;cases h
 .rw[if_neg h0]at h;by_cases h1:-(n:Int)<=i
  .rw[if_pos h1]at h;have e:(i+n).toNat=j:=az h;exact⟨by rw[seqIndex_neg nofun h1,e],by omega,h1,by omega⟩
  .rw[if_neg h1]at h;cases h
def Km{α:Type}{xs:List α}{i:Int}{v:α}(h:atI xs i=a8 v):∃j,seqIndex? i xs.length=a8 j/\xs[j]?=a8 v/\j<xs.length/\-(xs.length:Int)<=i/\i<xs.length:=by
 unfold atI at h;cases e:ixN xs.length i with
 |none=>rw[e]at h;cases h
 |some j =>rw[e]at h;obtain⟨h1,h2,h3,h4⟩:=jd4 e;exact⟨j,h1,h,h2,h3,h4⟩
def je4{α:Type}{xs:List α}{j:Nat}{v:α}(h:xs[j]?=a8 v):atI xs (j:Int)=a8 v:=by
 have hj:j<xs.length:=(X6.mp h).1;have e:ixN xs.length (j:Int)=a8 j:=by unfold ixN;rw[if_pos nofun,if_pos nofun];simp
 unfold atI;rw[e];exact h
def Jv(b:au):Prop:=∀o i,subscripted b a9 o i=operate [o,i] (jY o i)
def IxR(X:Cx)(r:R2):Prop :=
 ∀(value slice:au)(pins:k98) (s:ao) (σ:St) (H:Hp) (x y:V) (v u:ai) (Q:VK),Inv X pins σ H s->RelV x v->RelV y u->r x y H Q ->
  subscripted slice a9 v u=operate [v,u] (jY v u)->aw (aB X.prog X.w) X.A (nv value slice v u) (EP X pins σ Q) X.xe s
def MtR(X:Cx)(id:String)(r:V->List V->Hp->VK->Prop):Prop :=
 ∀(pins:k98) (s:ao) (σ:St) (H:Hp) (x:V) (xs:List V) (v:ai) (us:List ai) (Q:VK),Inv X pins σ H s->RelV x v->Vals xs us->r x xs H Q ->
  aw (aB X.prog X.w) X.A (call (.builtin id) (v::us)) (EP X pins σ Q) X.xe s
section
variable{X:Cx}{a b:au}{ta tb:TE}{pos:aO}
def Ur{r:R2}(hr:IxR X r)(ha:PE X a ta)(hb:PE X b tb)(hs:Jv b):PE X (.Subscript a b pos) (tOp r ta tb):=by intro pins s σ H Q I h;exact Subscript_ (ja6 ha hb I h λv u s2 x y H2 I2 rx ry q=>hr a b pins s2 σ H2 x y v u Q I2 rx ry q (hs _ _))
def jf9(K:k96):R2:=λx y H Q=>∃p xs i v,x=.ref p/\y=.int i/\SqL K H p xs/\atI xs i=a8 v/\Q v H
def jf7(K:k96):R2:=λx y H Q=>∃p xs i v,x=.ref p/\y=.int i/\SqT K H p xs/\atI xs i=a8 v/\Q v H
def jf8:R2:=λx y H Q=>∃z i c,x=.str z/\y=.int i/\z.length<=av/\atI z.cps.toList i=a8 c/\Q (.str ⟨#[c]⟩) H
def jd3:IxR X (jf9 X.K):=by
 intro value slice pins s σ H x y v u Q I rx ry h hs;obtain⟨p,xs,i,z,rfl,rfl,hq,he,q⟩:=h;cases rx;obtain⟨t,rfl⟩:=ry;obtain⟨its,r,pl,hz⟩:=I.list hq;obtain⟨j,h1,h2,h3,h4,h5⟩:=Km he;obtain⟨w,ew,rw'⟩:=r.get h2;have hl:=r.length;have hn:=Wm;have fin:EP X pins σ Q w s:=⟨z,H,I,rw',q⟩
 by_cases h0:0<=i
 .have hj:i.toNat=j:=by rw[seqIndex_of h0 h5]at h1;exact az h1
  exact item_listR pl.isList h0 nofun (by rw[hj];simpa using ew) fin hs
 .have hj:(i+(its.toArray.size:Int)).toNat=j:=by rw[seqIndex_neg nofun h4]at h1;rw[X7,<-hl];exact az h1
  exact jZ (x:=w) pl.isList.typeIs slot_list_getitem.lookup
   (wpAny_getItem_list_neg (Q:=λr s'=>r=w/\EP X pins σ Q r s') pl.isList nofun (by rw[X7]<;>omega) nofun (by rw[hj];simpa using ew) ⟨rfl,fin⟩) hs
def Mq:IxR X (jf7 X.K):=by
 intro value slice pins s σ H x y v u Q I rx ry h hs;obtain⟨p,xs,i,z,rfl,rfl,hq,he,q⟩:=h;cases rx;obtain⟨t,rfl⟩:=ry;obtain⟨its,r,pl,hz⟩:=I.tuple hq;obtain⟨j,h1,h2,h3,h4,h5⟩:=Km he;obtain⟨w,ew,rw'⟩:=r.get h2;have hl:=r.length;have hn:=Wm;have fin:EP X pins σ Q w s:=⟨z,H,I,rw',q⟩
 exact jZ (x:=w) pl.typeIs slot_tuple_getitem.lookup
  (getItem_tuple (j:=j) (Q:=λr s'=>r=w/\EP X pins σ Q r s') pl nofun nofun (by rw[X7,<-hl];exact h1) (by simpa using ew) ⟨rfl,fin⟩) hs
def jgg:IxR X jf8:=by
 intro value slice pins s σ H x y v u Q I rx ry h hs;obtain⟨z,i,c,rfl,rfl,hz,he,q⟩:=h;obtain⟨t,rfl⟩:=rx;obtain⟨t',rfl⟩:=ry;obtain⟨j,h1,h2,h3,h4,h5⟩:=Km he;have hl:z.cps.toList.length=z.length:=by simp[mR]
 rw[hl]at h1 h4 h5;have hn:=Wm;exact n6 (gr s z t) slot_str_getitem.lookup (getItem_str (c:=c) (by
  have e1:decide (i < -(2^63:Int))=a9:=decide_eq_false nofun
  have e2:decide (i>=2^63)=a9:=decide_eq_false nofun
  rw[e1,e2,l8]) (by rw[h1];simpa using h2) ⟨.str ⟨#[c]⟩,H,I.tok _,⟨_,rfl⟩,q⟩) hs
def j0m(lo hi:Option Int)(n:Nat):(di lo hi ae n).1=((HT.sIx n 0 lo:Nat):Int)/\(di lo hi ae n).2.1=((HT.sIx n n hi:Nat):Int)/\(di lo hi ae n).2.2=1:=by
 refine⟨?_,?_,rfl⟩
 .cases lo with
  |none=>simp[di,HT.sIx]
  |some i =>
   simp only[di,HT.sIx,jM,show(1:Int)>0 by decide,if_true];by_cases h:i<0
   .simp only[h,if_true]<;>omega
   .simp only[h,if_false]<;>omega
 .cases hi with
  |none=>simp[di,HT.sIx]
  |some i =>
   simp only[di,HT.sIx,jM,show(1:Int)>0 by decide,if_true];by_cases h:i<0
   .simp only[h,if_true]<;>omega
   .simp only[h,if_false]<;>omega
def Et(its:List ai)(lo hi:Option Int):slicePick its.toArray lo hi ae=((its.drop (HT.sIx its.length 0 lo)).take (HT.sIx its.length its.length hi-HT.sIx its.length 0 lo)).toArray:=by obtain⟨h1,h2,h3⟩:=j0m lo hi its.toArray.size;unfold slicePick;rw[h1,h2,h3];simp only[sliceRange_one,pick_run,X7]<;>rfl
def jll(K:k96):V->Option Int->Option Int->Hp->VK->Prop:=λx lo hi H Q=>∃a xs,x=.ref a/\SqL K H a xs/\∀p,H p=ae->Q (.ref p) (upd H p (.lst (Mz xs lo hi)))
def jbu:SlR X (jll X.K):=by intro pins s σ H x v vl vu lo hi sl Q I rx hs pl pu h;obtain⟨a,xs,rfl,hx,q⟩:=h;cases rx;obtain⟨its,r,ht,hz⟩:=I.list hx;have hlen:=r.length;refine⟨"list",_,slot_list_getitem.lookup,ht.isList.typeIs,?_⟩;refine wpAny_getItem_list_slice ht.isList hs pl pu .none (by simp) ?_ (by rw[X7]<;>omega);rw[Et,<-hlen];refine⟨.ref s.heap.objs.size,_,I.laid (t':=s.toks) (o:=.lst (Mz xs lo hi)) (λb ob q=>km _ q) (X3 _) ?_,rfl,q _ (I.hok.fresh (X3 _))⟩;exact⟨Xg (Bl xs lo hi) hz,_,0,(r.drop (HT.sIx xs.length 0 lo)).take (HT.sIx xs.length xs.length hi-HT.sIx xs.length 0 lo),xu _ rfl⟩
def O2:Qg X (.builtin "len") (λxs H Q=>∃p ys,xs=[.ref p]/\(SqL X.K H p ys\/SqT X.K H p ys)/\Q (.int ys.length) H):=by
 intro pins s σ H xs us Q I r h;obtain⟨p,ys,rfl,hq,q⟩:=h;obtain⟨u,rfl,rx⟩:=vals1 r;cases rx;have hn:=Wm;rcases hq with hq|hq
 .obtain⟨its,r',pl,hz⟩:=I.list hq;have hlen:=r'.length;exact Calls.call_len_list pl.isList (by simp only[X7]<;>omega) ⟨.int ys.length,H,I.tok _,⟨s.toks+1,by rw[X7,hlen]⟩,q⟩
 .obtain⟨its,r',pl,hz⟩:=I.tuple hq;have hlen:=r'.length;exact len_tuple pl (by simp only[X7]<;>omega) ⟨.int ys.length,H,I.tok _,⟨s.toks+1,by rw[X7,hlen]⟩,q⟩
def j1y:Qg X (.builtin "len") (λxs H Q=>∃z,xs=[.str z]/\z.length<=av/\Q (.int z.length) H):=by intro pins s σ H xs us Q I r h;obtain⟨z,rfl,hz,q⟩:=h;obtain⟨u,rfl,t,rfl⟩:=vals1 r;have hn:=Wm;exact len_str nofun ⟨.int z.length,H,I.tok _,⟨_,rfl⟩,q⟩
def j1x:Qg X (.type "list") (λxs H Q=>∃p ys,xs=[.ref p]/\(SqL X.K H p ys\/SqT X.K H p ys)/\∀l,H l=ae->Q (.ref l) (upd H l (.lst ys))):=by
 intro pins s σ H xs us Q I r h;obtain⟨p,ys,rfl,hq,q⟩:=h;obtain⟨u,rfl,rx⟩:=vals1 r;cases rx;have fin:∀(its:List ai),Vals ys its->ys.length<=av->∀(h':aE)(c':Nat),(∀b o',s.heap.get? b=a8 o'->h'.get? b=a8 o') ->
   h'.get? s.heap.objs.size=a8 { cls:=.type "list",dict:=ae,data:=.seq its.toArray c',slots:=#[] }->EP X pins σ Q (.ref s.heap.objs.size) { s with heap:=h' }:=λits r' hz h' c' kp e =>
  ⟨.ref s.heap.objs.size,_,I.laid (t':=s.toks) kp (X3 _) (show ji X.prog X.w _ h' _ (.lst ys) from⟨hz,its,c',r',e⟩),rfl,q _ (I.hok.fresh (X3 _))⟩
 rcases hq with hq|hq
 .obtain⟨its,r',pl,hz⟩:=I.list hq;have hlen:=r'.length;obtain⟨o,ho,hc,n,hd⟩:=pl.isList;exact nu p (.inl rfl) ho hc hd (λh' c' kp e=>fin its r' hz h' c' kp e) (by simp only[X7]<;>omega)
 .obtain⟨its,r',pl,hz⟩:=I.tuple hq;have hlen:=r'.length;obtain⟨o,ho,hc,n,hd⟩:=pl;exact nu p (.inr rfl) ho hc hd (λh' c' kp e=>fin its r' hz h' c' kp e) (by simp only[X7]<;>omega)
def j00:Qg X (.type "tuple") (λxs H Q=>∃p ys,xs=[.ref p]/\((SqL X.K H p ys/\∀l,H l=ae->Q (.ref l) (upd H l (.tup ys)))\/(SqT X.K H p ys/\Q (.ref p) H))):=by
 intro pins s σ H xs us Q I r h;obtain⟨p,ys,rfl,h⟩:=h;obtain⟨u,rfl,rx⟩:=vals1 r;cases rx;rcases h with ⟨hq,q⟩|⟨hq,q⟩
 .obtain⟨its,r',pl,hz⟩:=I.list hq;have hlen:=r'.length;refine call_tuple_list pl.isList (λh' kp=>?_) (by simp only[X7]<;>omega);have I1:Inv X pins σ H { s with heap:=h' }:=I.kept (t':=s.toks) kp;have I2:Inv X pins σ (upd H h'.objs.size (.tup ys)) { s with heap:=h'.push { cls:=.type "tuple",data:=.seq its.toArray } } :=
   I1.laid (t':=s.toks) (λb o e=>km _ e) (X3 _) (show ji X.prog X.w _ _ _ (.tup ys) from⟨hz,its,r',IsTup.new _ _,Zu.new _ _⟩)
  exact⟨.ref h'.objs.size,_,I2,rfl,q _ (I1.hok.fresh (X3 _))⟩
 .obtain⟨its,r',pl,hz⟩:=I.tuple hq;exact call_tuple_same pl ⟨.ref p,H,I,rfl,q⟩
def tyV(K:k96)(T:String)(x:V)(H:Hp):Prop:=match x with
 |.str _=>T = "str"
 |.int _=>T = "int"
 |.ref p=>(T = "list"/\∃xs,SqL K H p xs)\/(T = "tuple"/\∃xs,SqT K H p xs) \/
   (T = "dict"/\((∃kvs,H p=a8 (.dK kvs))\/∃kvs,H p=a8 (.dT kvs)))\/(T = "set"/\∃S n,H p=a8 (.set S n))
 |_=>False
def jek{pins:k98}{σ:St}{H:Hp}{s:ao}{T:String}{x:V}{v:ai}(I:Inv X pins σ H s)(r:RelV x v)(ty:tyV X.K T x H) :
  s.TypeIs v T/\∀a,v=.ref a->∃ob,s.heap.get? a=a8 ob/\ob.dict=ae:=by
 cases x with
 |str z =>obtain⟨t,rfl⟩:=r;cases(show T = "str" from ty);exact⟨gr s z t,λ_ e=>nomatch e⟩
 |int i =>obtain⟨t,rfl⟩:=r;cases(show T = "int" from ty);exact⟨gu s i t,λ_ e=>nomatch e⟩
 |ref p =>
  cases r;rcases ty with ⟨rfl,xs,hq⟩|⟨rfl,xs,hq⟩|⟨rfl,hk⟩|⟨rfl,S,n,hk⟩
  .obtain⟨its,_,pl,_⟩:=I.list hq;refine⟨pl.isList.typeIs,λa e=>?_⟩;cases e;obtain⟨o,n,e,c,hd,_⟩:=pl;exact⟨o,e,hd⟩
  .obtain⟨its,_,⟨o,e1,e2,_⟩,_⟩:=I.tuple hq;refine⟨⟨o,e1,e2⟩,λa e=>?_⟩;cases e;exact⟨o,e1,I.tupD hq o e1⟩
  .have z:∃o,s.heap.get? p=a8 o/\o.ExactDict:=by
    rcases hk with ⟨kvs,hk⟩|⟨kvs,hk⟩
    .obtain⟨_,_,_,_,o,_,_,e,ex,_⟩:=I.hok p _ hk;exact⟨o,e,ex⟩
    .obtain⟨_,_,_,_,o,_,_,e,ex,_⟩:=I.hok p _ hk;exact⟨o,e,ex⟩
   obtain⟨o,e,ex⟩:=z;refine⟨⟨o,e,ex.1⟩,λa e2=>?_⟩;cases e2;exact⟨o,e,ex.2.1⟩
  .obtain⟨o,_,_,_,e,ex,_⟩:=I.hok p _ hk;refine⟨⟨o,e,ex.1⟩,λa e2=>?_⟩;cases e2;exact⟨o,e,ex.2.1⟩
 |_=>exact bx ty
def tBM(K:k96)(T:String)(r:V->List V->Hp->VK->Prop)(to:TE)(t:TA):TE:=λσ H Q=>to σ H λx H1=>tyV K T x H1/\t σ H1 λxs H2=>r x xs H2 Q
variable{o e:au}{es:List au}{to:TE}{t:TA}{name:aq}{apos cpos:aO}{T id:String}{r:V->List V->Hp->VK->Prop}
def Wz (pa:PlainAttrs T) (slot:Slot T name id) (hty:typeOf (.builtin id)=pure (.type "method_descriptor")) (hm:MtR X id r) (ho:PE X o to) (ha:PA X (e::es) t)
  (hbase:aW o name X.env (aC o X.env)=aC o X.env:=by rfl)
  (hfew:((aP cpos (af (e::es) X.env)).all (λx=>!x.1)&&(bM cpos (ba [] X.env)).all (λx=>x.1.isSome)
   && decide ((e::es).length+([]:List b7).length+(if ([]:List b7).isEmpty then 0 else 1)<30))=ah:=by rfl)
  (hline:(apos.endLine==cpos.line)=ah:=by rfl) (hs:af (e::es) X.env=(a9,aC e X.env)::af es X.env:=by rfl) (hplain:(aP cpos (af es X.env)).any (·.1)=a9:=by rfl) :
  PE X (.Call (.Attribute o name apos) (e::es) [] cpos) (tBM X.K T r to t):=by
 intro pins s σ H Q I h;refine wpAny_Call_method_late hbase hfew hline rfl (thn (ho pins s σ H _ I h) λv s1 ⟨x,H1,I1,r1,ty,q1⟩=>?_);obtain⟨h1,h2⟩:=jek I1 r1 ty;refine⟨T,id,pa,slot,hty,h1,h2,?_⟩;have hA:=ha cpos pins s1 σ H1 _ I1 q1;rw[hs]at hA ⊢;refine cJ (by show(a9 || (aP cpos (af es X.env)).any (·.1))=a9;rw[hplain]<;>rfl) (cW ?_);exact thn hA λus s2 ⟨vs,H2,I2,r2,q2⟩=>hm pins s2 σ H2 x vs v us Q I2 r1 r2 q2
/- xs.append(e),list.index on a module's tuple .. are MtR facts of 06m -/
end
def MtM(X:Cx)(id:String)(r:V->List V->Hp->VK->Prop):Prop :=
 ∀(pins:k98) (s:ao) (σ:St) (H:Hp) (x:V) (xs:List V) (v:ai) (us:List ai) (Q:VK),Inv X pins σ H s->RelV x v->Vals xs us->r x xs H Q ->
  aw (aB X.prog X.w) X.A (call (.builtin id) (v::us)) (EP X pins σ Q) X.xe s
def Vals.one{x:V}{us:List ai}(h:Vals [x] us):∃u,us=[u]/\RelV x u:=by cases h with|cons r t=>cases t;exact⟨_,rfl,r⟩
def Vals.two:∀{x y:V}{us:List ai},Vals [x,y] us->∃u v,us=[u,v]/\RelV x u/\RelV y v
 |_,_,_,.cons r (.cons q .nil)=>⟨_,_,rfl,r,q⟩
def Vals.reverse{xs:List V}{us:List ai}(h:Vals xs us):Vals xs.reverse us.reverse:=by
 induction h with
 |nil=>exact .nil
 |cons r t ih=>rw[k7,k7];exact Vals.append ih (.cons r .nil)
theorem Vals.rep{xs:List V}{us:List ai}(h:Vals xs us):∀k:Nat,Vals (ak k xs).flatten (ak k us).flatten
 |0=>.nil
 |k+1=>by rw[Xv,Xv,T7,T7];exact Vals.append h (Vals.rep h k)
theorem foldl_rep(its:List ai):∀(k:Nat)(acc:List ai),
  du (λx1 x2=>x1++x2) acc.toArray (ak k its.toArray)=(acc++(ak k its).flatten).toArray
 |0,acc=>by simp
 |k+1,acc=>by
  have e:acc.toArray++its.toArray=(acc++its).toArray:=by simp
  have e2:(acc++its)++(ak k its).flatten=acc++(ak (k+1) its).flatten:=by rw[Xv,T7,T8]
  rw[<-e2,<-foldl_rep its k (acc++its),<-e,Xv,T3]
section
variable{X:Cx}{pins:k98}{σ:St}{H:Hp}{s:ao}{l b:aj}{xs ys zs:List V}
def Inv.lset{its its':List ai}{n:Nat}{f:Array ai->Array ai}{t':Nat}(I:Inv X pins σ H s)(hH:H l=a8 (.lst xs))
  (e:s.heap.get? l=a8 { cls:=.type "list",data:=.seq its.toArray n }) (hf:f its.toArray=its'.toArray) (hv:Vals ys its') (hz:ys.length<=av) :
  Inv X pins σ (upd H l (.lst ys)) { s with heap:=s.heap.update l (dy f),toks:=t' }:=by
 have q:=PySem.IsL.update e f;rw[hf]at q;refine I.write (x:=l) (e:=l) (by rw[hH];exact trivial) (.inl rfl) (λb' u hb hu=>(Heap.get?_update_other s.heap (dy f) (bq hb)).trans hu) ⟨_,q⟩ ?_;exact⟨hz,its',_,hv,q⟩
def Inv.lnew{its:List ai}{t':Nat}(I:Inv X pins σ H s)(hv:Vals ys its)(hz:ys.length<=av) :
  Inv X pins σ (upd H s.heap.objs.size (.lst ys)) { s with heap:=s.heap.push { cls:=.type "list",data:=.seq its.toArray },toks:=t' } :=
 I.laid (λ_ _ q=>km _ q) (X3 _) ⟨hz,its,0,hv,xu _ rfl⟩
def Inv.fresh(I:Inv X pins σ H s):H s.heap.objs.size=ae:=I.hok.fresh (X3 _)
def Inv.lstM(I:Inv X pins σ H s)(hH:H l=a8 (.lst xs)):xs.length<=av/\∃(its:List ai)(n:Nat),Vals xs its/\xs.length=its.length/\s.heap.get? l=a8 { cls:=.type "list",data:=.seq its.toArray n }:=by obtain⟨z,its,n,r,e⟩:=I.hok l _ hH;exact⟨z,its,n,r,r.length,e⟩
def j13{n:Nat}(h:n<=av):bT n=a9:=by unfold bT;exact decide_eq_false nofun
end
section
variable{X:Cx}
def jcf:V->List V->Hp->VK->Prop:=λx vs H Q=>∃l xs y,x=.ref l/\vs=[y]/\H l=a8 (.lst xs)/\xs.length<av/\Q .non (upd H l (.lst (xs++[y])))
def Ml:MtM X "list.append" jcf:=by intro pins s σ H x vs v us Q I rx rv h;obtain⟨l,xs,y,rfl,rfl,hH,hz,q⟩:=h;cases rx;obtain⟨u,rfl,ru⟩:=rv.one;obtain⟨z,its,n,r,hl,e⟩:=I.lstM hH;refine bI iG ⟨_,e,rfl⟩ F.entry_list_append (F.args_list_append_2 _ _) (PySem.list_append l its.toArray n u (by rw[X7];omega)) ⟨e,?_⟩;refine⟨.non,_,I.lset (its':=its++[u]) hH e (by simp) (r.append (.cons ru .nil)) ?_,rfl,q⟩;rw[Xd,iN];omega
def jce:V->List V->Hp->VK->Prop:=λx vs H Q=>∃l b xs zs,x=.ref l/\vs=[.ref b]/\H l=a8 (.lst xs)/\H b=a8 (.lst zs)/\xs.length+zs.length<=av/\Q .non (upd H l (.lst (xs++zs)))
def j6j:MtM X "list.extend" jce:=by
 intro pins s σ H x vs v us Q I rx rv h;obtain⟨l,b,xs,zs,rfl,rfl,hH,hB,hz,q⟩:=h;cases rx;obtain⟨u,rfl,ru⟩:=rv.one;cases ru;obtain⟨z,its,n,r,hl,e⟩:=I.lstM hH;obtain⟨z2,its2,n2,r2,hl2,e2⟩:=I.lstM hB;have hsz:its.toArray.size+its2.toArray.size<=av:=by rw[X7,X7];omega
 have hlong:¬(!its.toArray.isEmpty&&bT (its.toArray.size+its2.toArray.size))=ah:=by rw[j13 hsz,gY];exact xj
 refine bI iF ⟨_,e,rfl⟩ F.entry_list_extend (F.args_list_extend_2 _ _)
  (AutoSeq1.list_extend_list_list_0 l its.toArray n b its2.toArray n2 hlong (by rw[X7];omega) nofun) ⟨e,e2,?_⟩
 refine⟨.non,_,I.lset (its':=its++its2) hH e (by simp) (r.append r2) ?_,rfl,q⟩;rw[Xd];omega
def jln:R2:=λx y H Q=>∃l k xs,x=.ref l/\y=.int k/\H l=a8 (.lst xs)/\-(2^63)<=k/\k<2^63/\xs.length*k.toNat<=av /\
 ∀p,H p=ae->Q (.ref p) (upd H p (.lst (ak k.toNat xs).flatten))
def len_rep{α:Type}(xs:List α)(k:Nat):(ak k xs).flatten.length=k*xs.length:=by
 induction k with
 |zero=>simp
 |succ k ih=>rw[Xv,T7,Xd,ih,lY,Nat.add_comm]
def jfs:OpR X (bg .Mult) jln:=by
 intro pins s σ H x y v u Q I rx ry h;obtain⟨l,k,xs,rfl,rfl,hH,h1,h2,hz,q⟩:=h;cases rx;obtain⟨t,rfl⟩:=ry;obtain⟨z,its,n,r,hl,e⟩:=I.lstM hH;have hlen:its.toArray.size*k.toNat<=av:=by rw[X7,<-hl];exact hz
 have hcap:¬its.toArray.size*k.toNat>(2^63-1)/8:=by
  have:(av:Nat)<=(2^63-1)/8:=by decide
  omega
 have hfit:¬(!Builtin.List.listFitsIndex k)=ah:=by rw[fitsIndex_both h1 h2];exact xj
 have hlong:¬bT (its.toArray.size*k.toNat)=ah:=by rw[j13 hlen];exact xj
 have hnew:du (λx1 x2=>x1++x2) #[] (ak (if its.toArray.isEmpty=ah then 0 else k.toNat) its.toArray)=(ak k.toNat its).flatten.toArray:=by
  have f0:∀m:Nat,du (λx1 x2=>x1++x2) #[] (ak m its.toArray)=(ak m its).flatten.toArray:=λm=>by have:=foldl_rep its m [];rw[cB]at this;exact this
  rw[f0];cases its with
  |nil=>simp
  |cons a r'=>rw[if_neg (by simp)]
 refine iW (T:="list") (U:="int") (by decide) ⟨_,e,rfl⟩ (λs'=>gu s' k t) noFill_list_mul lq eY repeat_list F.slot_int_index.lookup
  (bI eY (gu s k t) kW (kP _ _) (int___rmul___int_list k t l its.toArray n)
   ⟨e,rfl,⟨_,e,rfl⟩,bI F.slot_list_mul ⟨_,e,rfl⟩ F.entry_list_mul (F.args_list_mul_2 _ _) (AutoListH.list___mul___list_int_3 l its.toArray n k t hfit hcap hlong) ⟨e,?_⟩⟩)
 rw[hnew];exact⟨.ref _,_,I.lnew (t':=s.toks) (r.rep k.toNat) (by rw[len_rep,g6];exact hz),rfl,q _ I.fresh⟩
end
end L2
namespace Att
open PySem PySem.W PySem.Calls PyProof.Rows
def Dn{P:n5}{h:aE}:∀(ns:zo)(vs:List ai),WellAll P h vs (ns.map WData.int)->d4 vs ns:=by
 intro ns;induction ns with
 |nil =>intro vs w;rw[de]at w;cases w;exact .nil
 |cons n ns ih =>
  intro vs w;rw[X5]at w;cases w with
  |cons a b =>cases a;exact .cons _ _ (ih _ b)
def j5q{l:dP}{n:Nat}(hn:l.most=a8 n){P:n5}{h:aE}{args:List WData}{vals:List ai}
  (hpre:l.row.toRowW.claim.pre args=ah) (hwl:WellAll P h vals args) :
  ∃a vs ns,vals=[aI a]/\args=[WData.list (ns.map WData.int)]/\h.get? a=a8 { cls:=.type "list",data:=.seq vs.toArray }/\d4 vs ns/\ns.length<=n:=by
 have hsh:WShape.hasAll [] args [.list .int]=ah:=(pre_splitW hpre).1;have hc:l.pre.holds [] { args:=args }=ah:=(pre_splitW hpre).2;obtain⟨d,r,rfl,h1,h2⟩:=hasAllW_cons hsh;obtain rfl:=hasAllW_nil h2;obtain⟨xs,rfl,h3⟩:=hasW_list h1;obtain⟨ns,rfl⟩:=items_int h3;have hlen:ns.length<=n:=by
  unfold OpenLaw.pre at hc;have h4:(WTm.not (.lt (.lit (.int (n:Int))) (.len (.arg 0)))).holds [] { args:=[.list (ns.map .int)] }=ah:=by have h4:=(holds_andW hc).1;rw[hn]at h4;exact h4
  have h5:=condW_of h4 (w_not (w_lt w_lit (w_len_list (w_arg rfl))));rw[xf]at h5;refine Nat.le_of_not_lt λq=>?_;have q':(n:Int)<((ns.length:Nat):Int):=by omega
  first
   |(rw[decide_eq_true q']at h5;exact absurd h5 (by decide))
   |(simp at h5;omega)
 cases hwl with
 |cons w1 w2 =>
  cases w2;cases w1 with
  |list ho hall=>exact⟨_,_,ns,rfl,rfl,ho,Dn ns _ hall,hlen⟩
def j5z(l:dP)(args:List WData):l.row.toRowW.claim.post args (.bool ah) args=ah :=
 postW_of (r:=l.row.toRowW) (X:=(ah==ah))
  (show WShape.has [] (.bool ah) .bool=ah by first|rfl|decide|simp[WShape.has,WShape.arms,WShape.armsAll])
  (show(WTm.eq .res (.lit (.bool ah))).value [] { args:=args,res:=a8 (.bool ah),after:=args }=a8 (.bool (ah==ah))from w_eq_bool (w_res rfl) w_lit) rfl
def attach_call{l:dP}{n:Nat}{q:ay}{loose:List aq}{XP:(aq->Option ai)->aE->Prop}{YP:aD->aE->Prop}{d:DefRec}
  (hn:l.most=a8 n) (hdf:d.params.defaults=[])
  (call:∀(w:aD)(s₀ s₁:ao)(mg mb:k99)(fa:aj)(o:d8)(pm cd doc:ai)(a:aj) (vs:List ai) (ns:zo),
   Ground q loose [] XP w s₀ mg mb s₁.heap->YP w s₁.heap ->
   s₁.heap.get? fa=a8 o->o.data=.func (docDef d.name d.params d.body d.scope pm cd doc)->s₁.heap.CodeRec cd d.name->mg d.name=a8 (.ref fa) ->
   s₁.heap.get? a=a8 { cls:=.type "list",data:=.seq vs.toArray }->d4 vs ns->ns.length<=n->s₁.gens = #[] ->
   bL (aB l.prog w) gP (.call (.ref fa) ⟨[.ref a],[]⟩) (λr s'=>r=.ok (.ret (.bool ah))/\OldK s₁.heap s'.heap/\s'.os=s₁.os/\eJ s'.gens) s₁) :
  ja q loose XP YP l.row.toRowW d [] (λf vs=>jA f vs):=by
 intro w s₀ s₁ mg mb G Y fa o pm cd doc dV kV ho hd hcd hD hmg hg args vals as hpre hlay hrd hwl hlo;obtain rfl:dV=.none:=Dflts.none hD hdf;obtain rfl:kV=.none:=Dflts.noKw hD;obtain⟨a,vs,ns,rfl,rfl,hobj,hints,hlen⟩:=j5q hn hpre hwl;refine enter_call (bG (call w s₀ s₁ mg mb fa o pm cd doc a vs ns G Y ho (fd_plain hd) hcd hmg hobj hints hlen hg) λr s' hq=>?_);obtain⟨rfl,h2,h3,h4⟩:=hq;exact⟨.inl ⟨.bool ah,.bool ah,[],rfl,λ_=>rfl,.bool ah,j5z l _,λ_=>⟨List.Pairwise.nil,λ_ hm=>(nomatch hm)⟩⟩,h2,h3,h4⟩
end Att
namespace L2
open PySem PySem.Spec PyProof.Rows
theorem Kw:∀{vs:List ai}{ns:zo},d4 vs ns->Vals (ns.map V.int) vs
 |_,_,.nil=>.nil
 |_,_,.cons n t h=>.cons ⟨t,rfl⟩ (Kw h)
def Only(ts:List (aj×aq))(H:Hp):Prop:=(∀b,H b=ae\/(∃o xs,H b=a8 (.frz o (.lst xs)))\/∃q,(b,q)∈ts/\H b=a8 (.cod q))/\∀t∈ts,H t.1=a8 (.cod t.2)
def jag(ts:List (aj×aq))(h:aE):Prop:=(ts.map (·.1)).Nodup/\∀t∈ts,(∃c,jQ h c t.1)/\h.get? t.1=a8 (W.tabObj #[])
theorem j2s:∀{ts:List (aj×aq)} {b:aj} {q:aq},ts.lookup b=a8 q->(b,q)∈ts
 |p::r,b,q,h=>by
  rw[Xm]at h;cases e:b==p.1 with
  |true=>rw[e]at h;cases h;rw[beq_iff_eq.mp e];exact xq ..
  |false=>rw[e]at h;exact xg _ (j2s h)
theorem lookup_tab:∀{ts:List (aj×aq)},(ts.map (·.1)).Nodup->∀t∈ts,ts.lookup t.1=a8 t.2
 |[],_,_,h=>by cases h
 |p::r,nd,t,ht=>by
  rw[X5]at nd;rcases xr.mp ht with e|ht
  .subst e;rw[Xm,beq_self_eq_true]
  .have ne:(t.1==p.1)=a9:=beq_eq_false_iff_ne.mpr λz=>(Xk.mp nd).1 (z▸cu ht);rw[Xm,ne];exact lookup_tab (Xk.mp nd).2 t ht
def j91{P:ay}{w:aD}{K:k96}{mg mb:k99}{CX:CXT}{k:Nat}{fa a:aj}{fd:aL}{x:aq}{sp:Sp}{s₁:ao}{vs:List ai}{ns:zo}{ts:List (aj×aq)}
  (KX:K.In s₁.heap) (hns:s₁.heap.Ns ax mg) (hb:s₁.heap.Ns dZ mb) (hbb:∀x:aq,x ≠ "__name__"->mb x=ff x) (hlim:s₁.heap.NoLimit)
  (hbm:∃bm ob,mg "__builtins__" = a8 (.ref bm)/\bm≠dZ/\s₁.heap.get? bm=a8 ob/\ob.cls=.type "module"/\ob.dict=a8 dZ/\ob.data=.plain) (hT:jag ts s₁.heap) (hK0:W.noTabs K=ah) (hg:s₁.gens = #[])
  (ha:s₁.heap.get? a=a8 { cls:=.type "list",data:=.seq vs.toArray }) (hi:d4 vs ns) (hl:ns.length<=av) (hr:Room k gP)
  (F:∀base:aE,K.In base->base.Ns ax mg->FnOk P w K mg base CX k fa fd [x] sp) (hbind:∀(s:ao)(u:ai),dJ s fd ⟨[u],[]⟩ [(x,u)])
  (hsp:∀H:Hp,Only ts H->SqL K H a (ns.map V.int)->sp [.ref a] H (λv H'=>v=.bl ah/\∀b o,H b=a8 o->H' b=a8 o) λ_ _ _=>False)
  (hCX:∀H e s',CX [] H s₁ (λ_ _ _=>False) e s'->False) :
  bL (aB P w) gP (.call (.ref fa) ⟨[.ref a],[]⟩) (λr s'=>r=.ok (.ret (.bool ah))/\OldK s₁.heap s'.heap/\s'.os=s₁.os/\eJ s'.gens) s₁:=by
 have rv:=Kw hi;have lenV:=hi.length;have at_:∀{q:aq}{b:aj},(b,q)∈ts->s₁.heap.get? b=a8 (W.tabObj #[]):=λ{q b} h=>(hT.2 _ h).2;have core:∀H:Hp,Only ts H->SqL K H a (ns.map V.int)->HOk P w H s₁.heap->(∀b,H b≠ae->b=a\/∃q,(b,q)∈ts)->(H a≠ae->K.lookup a=ae) ->
   bL (aB P w) gP (.call (.ref fa) ⟨[.ref a],[]⟩) (λr s'=>r=.ok (.ret (.bool ah))/\OldK s₁.heap s'.heap/\s'.os=s₁.os/\eJ s'.gens) s₁:=by
  intro H hO hS hok hA hK;have base_of:∀{b:aj}{o:d8},s₁.heap.get? b=a8 o->H b=ae->(Ri s₁.heap H).get? b=a8 o:=λe n=>j9d e n;have noA:∀{b:aj}{o:d8},s₁.heap.get? b=a8 o->(∀vs n,o.data≠.seq vs n)->(∀vs,o.data≠.fields vs)->H b=ae:=λ{b o} e d d2=>by
   cases q:H b with
   |none=>rfl
   |some u =>
    rcases hA b (by rw[q];simp)with e'|⟨q',e'⟩
    .subst e';rw[ha]at e;cases e;exact absurd rfl (d _ _)
    .rw[at_ e']at e;cases e;exact absurd rfl (d2 _)
  have nsK:∀{b:aj}{m:k99},s₁.heap.Ns b m->(Ri s₁.heap H).Ns b m:=λ{b m} ⟨o,es,ep,e,d,r⟩=>⟨o,es,ep,base_of e (noA e (λ_ _ z=>by rw[d]at z;cases z) λ_ z=>by rw[d]at z;cases z),d,r⟩
  have hKb:K.In (Ri s₁.heap H):=λb o e=>base_of (KX b o e) (by
   cases q:H b with
   |none=>rfl
   |some u =>
    rcases hA b (by rw[q];simp)with e'|⟨q',e'⟩
    .subst e'
     rw[hK (by rw[q];simp)]at e;cases e
    .have e2:=KX b o e
     rw[at_ e']at e2
     have h2:=Pj.mp hK0 (b,o) (W.mem_of_lookupK e)
     cases e2
     exact absurd (show a9=ah from h2) xj)
  have hM:Mod K mg (Ri s₁.heap H):=⟨hKb,nsK hns,⟨mb,nsK hb,hbb⟩,(let ⟨mc,h1,h2⟩:=hlim;⟨mc,nsK h1,h2⟩),
   let ⟨bm,ob,b1,b2,b3,b4,b5,b6⟩:=hbm;⟨bm,ob,b1,b2,base_of b3 (noA b3 (λ_ _ z=>by rw[b6]at z;cases z) λ_ z=>by rw[b6]at z;cases z),b4,b5,b6⟩⟩
  have e0:Env0 P w K mg (Ri s₁.heap H) gP [] s₁ H:=⟨rfl,hM,λb o e=>jcr e,Nat.le_of_eq (j6z _ _),trivial,λb hb=>absurd (show b∈([]:List aj)from hb) (by simp),hok,.of_eq hg⟩
  refine bG ((F _ hKb (nsK hns)).run gP [] s₁ H ⟨[.ref a],[]⟩ [.ref a] [.ref a] _ _ hr e0 (hbind s₁ (.ref a)) (.cons rfl .nil) (hsp H hO hS)) λr s' h=>?_;cases r with
  |error e=>exact(hCX H e s' h).elim
  |ok fl =>
   cases fl with
   |next=>exact bx h
   |brk=>exact bx h
   |cont=>exact bx h
   |ret u =>
    obtain⟨v,H',os,bare,un,hok',r',q,sm⟩:=h;have q':v=.bl ah:=q;subst q';obtain rfl:u=bW ah:=r';have main:∀b o,s₁.heap.get? b=a8 o->s'.heap.get? b=a8 o\/((∃q,(b,q)∈ts)/\o=W.tabObj #[]/\∃ps,s'.heap.get? b=a8 (W.tabObj ps)):=λb o e=>by
     cases q:H b with
     |none=>exact .inl (un.keep b o e q (by intro z;exact absurd (show b∈([]:List aj)from z) (by simp)) (by simp))
     |some u =>
      rcases hO.1 b with z|⟨ob,xs,z⟩|⟨q',hq,z⟩
      .rw[q]at z;cases z
      .have z2:=un.frzs b ob _ z;obtain⟨e1,_⟩:=hok b _ z;obtain⟨e2,_⟩:=hok' b _ z2;rw[e]at e1;cases e1;exact .inl e2
      .obtain⟨ps,e2,_⟩:=(show ji P w H' s'.heap b (.cod q')from hok' b _ (sm b _ z))
       rw[at_ hq]at e;exact .inr ⟨⟨q',hq⟩,(az e).symm,ps,e2⟩
    refine⟨rfl,⟨λb o e=>?_,λb o e=>?_⟩,os,bare⟩
    .rcases main b o e with z|⟨⟨q,hq⟩,rfl,ps,z⟩
     .exact .inl z
     .obtain⟨c,hc⟩:=(hT.2 _ hq).1;exact .inr (.inl ⟨(hc.tab (at_ hq)).isCodeTable,rfl,#[],ps,rfl,by rw[z,Array.empty_append]⟩)
    .rcases main b o e with z|⟨_,_,ps,z⟩
     .exact⟨o,z⟩
     .exact⟨_,z⟩
 have lkT:∀b q,ts.lookup b=a8 q->(b,q)∈ts:=λb q h=>j2s h;have ofT:∀t∈ts,ts.lookup t.1=a8 t.2:=lookup_tab hT.1;have okT:∀(H:Hp) b q,(b,q)∈ts->ji P w H s₁.heap b (.cod q):=λH b q h=>⟨#[],at_ h,trivial,λpos cv z=>by cases z⟩
 cases hk:K.lookup a with
 |some o =>
  have e:=KX a o hk;rw[ha]at e;cases e;refine core (λb=>(ts.lookup b).map HO.cod) ⟨λb=>?_,λt ht=>by show(ts.lookup t.1).map HO.cod=_;rw[ofT t ht];rfl⟩ (.inr ⟨_,vs.toArray,_,hk,rfl,rfl,rfl,by rw[X7,lenV];exact hl,by simpa using rv⟩) (λb u z=>?_) (λb z=>?_) λz=>?_
  .cases e:ts.lookup b with
   |none=>exact .inl (by show(ts.lookup b).map HO.cod=_;rw[e];rfl)
   |some q=>exact .inr (.inr ⟨q,lkT b q e,by show(ts.lookup b).map HO.cod=_;rw[e];rfl⟩)
  .obtain⟨q,e,rfl⟩:=Xl.mp z;exact okT _ b q (lkT b q e)
  .cases e:ts.lookup b with
   |none=>exact absurd (by show(ts.lookup b).map HO.cod=_;rw[e];rfl) z
   |some q=>exact .inr ⟨q,lkT b q e⟩
  .cases e:ts.lookup a with
   |none=>exact absurd (by show(ts.lookup a).map HO.cod=_;rw[e];rfl) z
   |some q=>have:=at_ (lkT a q e);rw[ha]at this;cases this
 |none =>
  have na:∀q,(a,q)∉ts:=λq h=>by have:=at_ h;rw[ha]at this;cases this
  refine core (λb=>if b=a then a8 (.frz { cls:=.type "list",data:=.seq vs.toArray } (.lst (ns.map V.int))) else(ts.lookup b).map HO.cod) ⟨λb=>?_,λt ht=>?_⟩ (.inl (.inr ⟨{ cls:=.type "list",data:=.seq vs.toArray },if_pos rfl⟩)) (λb u z=>?_) (λb z=>?_) λ_=>hk
  .by_cases hb:b=a
   .exact .inr (.inl ⟨_,_,if_pos hb⟩)
   .cases e:ts.lookup b with
    |none=>exact .inl (by show(if b=a then _ else _)=_;rw[if_neg hb,e];rfl)
    |some q=>exact .inr (.inr ⟨q,lkT b q e,by show(if b=a then _ else _)=_;rw[if_neg hb,e];rfl⟩)
  .have nb:t.1≠a:=λz=>na t.2 (z▸ht);show(if t.1=a then _ else _)=_;rw[if_neg nb,ofT t ht];rfl
  .by_cases hb:b=a
   .have z':=(if_pos hb).symm.trans z;cases z';subst hb;exact⟨ha,by rw[xf];exact hl,vs,_,rv,ha⟩
   .have z':=(if_neg hb).symm.trans z;obtain⟨q,e,rfl⟩:=Xl.mp z';exact okT _ b q (lkT b q e)
  .by_cases hb:b=a
   .exact .inl hb
   .cases e:ts.lookup b with
    |none=>exact absurd (by show(if b=a then _ else _)=_;rw[if_neg hb,e];rfl) z
    |some q=>exact .inr ⟨q,lkT b q e⟩
def walk_of{l:dP}{n k:Nat}{q:ay}{loose:List aq}{XP:(aq->Option ai)->aE->Prop}{YP:aD->aE->Prop}{d:DefRec}{K:n5->k96}{CX:aD->CXT}{sp:aD->Sp}{x:aq}{ts:aD->List (aj×aq)}
  (hn:l.most=a8 n) (hn2:n<=av) (hdf:d.params.defaults=[]) (hr:Room k gP)
  (hY:∀(w:aD)(h:aE),YP w h->(K w.params).In h/\jag (ts w) h) (hK0:∀w:aD,W.noTabs (K w.params)=ah)
  (F:∀(w:aD)(mg:k99)(fa:aj)(h:aE),(K w.params).In h->h.Ns ax mg->mg d.name=a8 (.ref fa) ->
   ∃fd:aL,(∀(s:ao)(u:ai),dJ s fd ⟨[u],[]⟩ [(x,u)]) /\
    ∀base:aE,(K w.params).In base->base.Ns ax mg->FnOk l.prog w (K w.params) mg base (CX w) k fa fd [x] (sp w))
  (hsp:∀(w:aD)(H:Hp)(a:aj)(ns:zo),ns.length<=n->Only (ts w) H->SqL (K w.params) H a (ns.map V.int)->sp w [.ref a] H (λv H'=>v=.bl ah/\∀b o,H b=a8 o->H' b=a8 o) λ_ _ _=>False)
  (hCX:∀(w:aD)(H:Hp)(s:ao)(e:ai)(s':ao),CX w [] H s (λ_ _ _=>False) e s'->False) :
  ja q loose XP YP l.row.toRowW d [] (λf vs=>jA f vs):=by
 refine Att.attach_call hn hdf λw s₀ s₁ mg mb fa o pm cd doc a vs ns G Y ho hd hcd hmg hobj hints hlen hg=>?_;obtain⟨KX,hT⟩:=hY w _ Y;obtain⟨fd,hb,hF⟩:=F w mg fa _ KX G.T.g hmg;exact j91 KX G.T.g G.T.b G.T.builtins G.T.nolimit G.T.bmain hT (hK0 w) hg hobj hints (Xg hlen hn2) hr hF hb (λH hO hS=>hsp w H a ns hlen hO hS) λH e s'=>hCX w H s₁ e s'
end L2
/- THE LAST THEOREM (shape;LID,My.* are yours):
 My.Adr: a structure of the addresses that your layer names (classes,functions);My.Txt K t: a structure (Prop) of the equations over K;
 My.txt_mk:{K} {implicit addresses ..} (e1:bo K ax "law" = a8 (a8 (.ref f))) (e2:K.lookup f=a8 ⟨oc,od,.func (fnOf "law" "law" params body scope dV kV doc pm an cdv ct),sl⟩) (e3:codeIn K cdv "law" = ah) ..:∃t,My.Txt K t
(the tactic k_is has no namespace: write k_is) -/
namespace L2
open PySem PySem.Spec PyProof.Rows
noncomputable def zx(s:aS):dQ:=match s with
 |.FunctionDef _ a _ _ _ _ _ _ _ _=>a
 |_=>{ posonlyargs:=[],args:=[],vararg:=ae,kwonlyargs:=[],kw_defaults:=[],kwarg:=ae,defaults:=[] }
noncomputable def jm(s:aS):List aS:=match s with
 |.FunctionDef _ _ b _ _ _ _ _ _ _=>b
 |_=>[]
noncomputable def jb(s:aS):b8:=match s with
 |.FunctionDef _ _ _ _ _ _ sc _ _ _=>sc
 |_=>{ kind:=.function,names:=[],isGenerator:=a9,isCoroutine:=a9 }
noncomputable abbrev CX0:CXT:=λ_ _ _ _ _ _=>False
noncomputable abbrev E0:XK:=λ_ _ _=>False
def Oe{X:Cx}:j24 CX0 X E0:=λ_ _ _ _ _ _ _ h=>h.elim
structure Fun(K:k96)(x qual:aq)(st:aS)(f:aj)(fd:aL):Prop where
 ex:∃(oc:ai)(od:Option aj)(dV kV doc pm:ai)(an:Option aj)(cdv ct:ai)(osl:Array (Option ai)),
  fd=W.fnOf x qual (zx st) (jm st) (jb st) dV kV doc pm an cdv ct/\K.lookup f=a8 ⟨oc,od,.func fd,osl⟩/\W.codeIn K cdv qual=ah
 kp:W.keepIn K (.ref f)=ah
section
variable{P:ay}{w:aD}{K:k96}{mg:k99}{base:aE}
def Fun.binds{x qual:aq}{st:aS}{f:aj}{kV doc pm:ai}{an:Option aj}{cdv ct:ai}{ps:List aq}(F:Fun K x qual st f (W.fnOf x qual (zx st) (jm st) (jb st) .none kV doc pm an cdv ct))
  (h:∀(kV doc pm:ai)(an:Option aj)(cdv ct:ai)(us:List ai),us.length=ps.length->eU (W.fnOf x qual (zx st) (jm st) (jb st) .none kV doc pm an cdv ct) ⟨us,[]⟩=pure (ps.zip us)):Binds K (W.fnOf x qual (zx st) (jm st) (jb st) .none kV doc pm an cdv ct) ps []:=.all (h kV doc pm an cdv ct)
def Wo{x qual:aq}{st:aS}{f:aj}{oc:ai}{od an:Option aj}{osl:Array (Option ai)}{dV kV doc pm cdv ct:ai}(l:K.lookup f=a8 ⟨oc,od,.func (W.fnOf x qual (zx st) (jm st) (jb st) dV kV doc pm an cdv ct),osl⟩)
  (c:W.codeIn K cdv qual=ah) (k:W.keepIn K (.ref f)=ah):Fun K x qual st f (W.fnOf x qual (zx st) (jm st) (jb st) dV kV doc pm an cdv ct):=⟨⟨oc,od,dV,kV,doc,pm,an,cdv,ct,osl,rfl,l,c⟩,k⟩
end
def K1{A B:Prop}(h:B):if a9=ah then A else B:=by rw[if_neg xj];exact h
def Lz{A B:Prop}(h:A):if ah=ah then A else B:=by rw[if_pos rfl];exact h
def j0(H H':Hp):Prop:=∀b o,H b=a8 o->H' b=a8 o
def j0.refl(H:Hp):j0 H H:=λ_ _ h=>h
def j0.trans{H H1 H2:Hp}(a:j0 H H1)(b:j0 H1 H2):j0 H H2:=λc o h=>b c o (a c o h)
def j0.free{H H':Hp}(e:j0 H H'){l:aj}(h:H' l=ae):H l=ae:=by
 cases q:H l with
 |none=>rfl
 |some o =>rw[e l o q]at h;cases h
def j0.seq{K:k96}{H H':Hp}{a:aj}{xs:List V}(e:j0 H H')(h:SqL K H a xs):SqL K H' a xs:=by
 rcases h with (h|⟨o,h⟩)|h
 .exact .inl (.inl (e _ _ h))
 .exact .inl (.inr ⟨o,e _ _ h⟩)
 .exact .inr h
set_option genInjectivity true in
inductive D where
 |non
 |bl (b:Bool)
 |int (i:Int)
 |str (x:aq)
 |tup (ds:List D)
 |lst (ds:List D)
 |dct (ks:List zo) (ds:List D)
 |sct (kvs:List (aq×Int))
 |fn (x:aq) (cs:List D)
noncomputable def kvI(kvs:List (aq×Int)):List (Key×V):=kvs.map λp=>(.inr p.1,.int p.2)
noncomputable def jx(x:aq):aq:=x ++ ".<locals>." ++ "<lambda>"
noncomputable abbrev Tx:=dQ×au×b8
noncomputable def jlr:au->Option Tx
 |.Lambda a b sc _=>a8 (a,b,sc)
 |.Call _ es _ _=>match es.getLast? with
  |some (.Lambda a b sc _)=>a8 (a,b,sc)
  |_=>ae
 |_=>ae
noncomputable def Nk(b:List aS):Option Tx:=match b.getLast? with
 |some (.Return (a8 e) _)=>jlr e
 |_=>ae
noncomputable def Z0(K:k96)(x:aq):Option Tx:=match W.nsIn K ax x with
 |some (a8 (.ref f))=>match K.lookup f with
  |some ⟨_,_,.func fd,_⟩=>match fd.body with
   |.stmts b=>Nk b
   |_=>ae
  |_=>ae
 |_=>ae
noncomputable def v5(sc:b8):List aq:=((sc.names.filter λp=>p.2==.free).map (·.1)).reverse
def vf(H:Hp):List aj->List V->Prop
 |[],vs=>vs=[]
 |c::cs,vs=>∃v r o u,vs=v::r/\H c=a8 (.frz o (.own 0))/\o.data=.cell (a8 u)/\RelV v u/\vf H cs r
theorem vf.mono{H H':Hp}(g:j0 H H'):∀{cs:List aj}{vs:List V},vf H cs vs->vf H' cs vs
 |[],_,h=>h
 |_::_,_,⟨v,r,o,u,e,h,d,rv,l⟩=>⟨v,r,o,u,e,g _ _ h,d,rv,l.mono g⟩
structure LamAt(K:k96)(H:Hp)(x:aq)(a c:aj)(t:Tx)(cl:List (aq×aj))(vs:List V):Prop where
 tx:Z0 K x=a8 t
 fo:∃pm ctv,H a=a8 (.frz (W.kla_obj "<lambda>" (jx x) t.1 t.2.1 t.2.2 cl pm c ctv) (.own 0))
 co:∃oc,H c=a8 (.frz oc (.own 0))/\Ba oc (jx x)
 nm:cl.map (·.1)=v5 t.2.2
 nd:(cl.map (·.2)).Nodup
 cs:vf H (cl.map (·.2)) vs
def LamAt.mono{K:k96}{H H':Hp}{x:aq}{a c:aj}{tx:Tx}{cl:List (aq×aj)}{vs:List V}(g:j0 H H')(h:LamAt K H x a c tx cl vs):LamAt K H' x a c tx cl vs :=
 ⟨h.tx,let ⟨pm,ctv,e⟩:=h.fo;⟨pm,ctv,g _ _ e⟩,let ⟨oc,e,q⟩:=h.co;⟨oc,g _ _ e,q⟩,h.nm,h.nd,h.cs.mono g⟩
noncomputable def del(H:Hp)(A:List aj):Hp:=λb=>if b∈A then ae else H b
section
variable{H H' F:Hp}{A A':List aj}{a b:aj}{o:HO}
def qj(h:b∈A):del H A b=ae:=if_pos h
def j7(h:b∉A):del H A b=H b:=if_neg h
def of_del(h:del H A b=a8 o):b∉A/\H b=a8 o:=by
 by_cases e:b∈A
 .rw[qj e]at h;cases h
 .rw[j7 e]at h;exact⟨e,h⟩
def je(g:j0 H H'):j0 (del H A) (del H' A):=λb o h=>by obtain⟨n,e⟩:=of_del h;rw[j7 n];exact g b o e
end
def j0.seqT{K:k96}{H H':Hp}{a:aj}{xs:List V}(e:j0 H H')(h:SqT K H a xs):SqT K H' a xs:=by
 rcases h with (h|⟨o,h⟩)|h
 .exact .inl (.inl (e _ _ h))
 .exact .inl (.inr ⟨o,e _ _ h⟩)
 .exact .inr h
mutual
def Enc(K:k96)(H:Hp):D->V->Prop
 |.non,v=>v=.non
 |.bl b,v=>v=.bl b
 |.int i,v=>v=.int i
 |.str x,v=>v=.str x
 |.tup ds,v=>∃a xs,v=.ref a/\SqT K H a xs/\j4 K H ds xs
 |.lst ds,v=>∃a xs,v=.ref a/\SqL K H a xs/\j4 K H ds xs
 |.dct ks ds,v=>∃(a:aj)(xs:List (zo×aj×ai)) (ep:Nat) (vs:List V),v=.ref a/\H a=a8 (.dI xs ep)/\ks=(xs.map λx=>x.1)/\(∀x∈xs,SqT K H x.2.1 (x.1.map V.int))/\Vals vs (xs.map λx=>x.2.2)/\j4 K H ds vs
 |.sct kvs,v=>∃a:aj,v=.ref a/\H a=a8 (.dK (kvI kvs))
 |.fn x ds,v=>∃(a c:aj)(tx:Tx)(cl:List (aq×aj)) (vs:List V),v=.ref a/\LamAt K H x a c tx cl vs/\j4 K (del H (cl.map (·.2))) ds vs
def j4(K:k96)(H:Hp):List D->List V->Prop
 |[],xs=>xs=[]
 |d::ds,xs=>∃x r,xs=x::r/\Enc K H d x/\j4 K H ds r
end
mutual
theorem Enc.mono{K:k96}{H H':Hp}(g:j0 H H'):∀{d:D}{v:V},Enc K H d v->Enc K H' d v
 |.non,_,h=>h
 |.bl _,_,h=>h
 |.int _,_,h=>h
 |.str _,_,h=>h
 |.tup _,_,⟨a,xs,e,q,l⟩=>⟨a,xs,e,g.seqT q,j4.mono g l⟩
 |.lst _,_,⟨a,xs,e,q,l⟩=>⟨a,xs,e,g.seq q,j4.mono g l⟩
 |.dct _ _,_,⟨a,xs,ep,vs,e,q,ek,kt,rv,l⟩=>⟨a,xs,ep,vs,e,g _ _ q,ek,λx hx=>g.seqT (kt x hx),rv,j4.mono g l⟩
 |.sct _,_,⟨a,e,q⟩=>⟨a,e,g _ _ q⟩
 |.fn _ _,_,⟨a,c,tx,cl,vs,e,q,l⟩=>⟨a,c,tx,cl,vs,e,q.mono g,j4.mono (je g) l⟩
theorem j4.mono{K:k96}{H H':Hp}(g:j0 H H'):∀{ds:List D}{xs:List V},j4 K H ds xs->j4 K H' ds xs
 |[],_,h=>h
 |_::_,_,⟨x,r,e,h,l⟩=>⟨x,r,e,Enc.mono g h,j4.mono g l⟩
end
section
variable{K:k96}{H H':Hp}{ds ds':List D}{xs ys:List V}
theorem j4.length:∀{ds:List D}{xs:List V},j4 K H ds xs->xs.length=ds.length
 |[],_,h=>by cases h;rfl
 |_::_,_,⟨x,r,e,_,l⟩=>by subst e;simp[j4.length l]
theorem j4.get:∀{ds:List D}{xs:List V}{i:Nat}{d:D},j4 K H ds xs->ds[i]?=a8 d->∃x,xs[i]?=a8 x/\Enc K H d x
 |[],_,i,d,_,e=>by simp at e
 |_::_,_,0,d,⟨x,r,e,h,_⟩,q=>by subst e;simp at q;subst q;exact⟨x,rfl,h⟩
 |_::_,_,i+1,d,⟨x,r,e,_,l⟩,q=>by subst e;simp at q;obtain⟨y,hy,hd⟩:=j4.get l q;exact⟨y,by simpa using hy,hd⟩
theorem j4.get':∀{ds:List D}{xs:List V}{i:Nat}{x:V},j4 K H ds xs->xs[i]?=a8 x->∃d,ds[i]?=a8 d/\Enc K H d x
 |[],_,i,d,h,e=>by cases h;simp at e
 |d::_,_,0,y,⟨x,r,e,h,_⟩,q=>by subst e;simp at q;subst q;exact⟨d,rfl,h⟩
 |_::_,_,i+1,y,⟨x,r,e,_,l⟩,q=>by subst e;simp at q;obtain⟨y,hy,hd⟩:=j4.get' l q;exact⟨y,by simpa using hy,hd⟩
theorem j4.append:∀{ds ds':List D}{xs ys:List V},j4 K H ds xs->j4 K H ds' ys->j4 K H (ds++ds') (xs++ys)
 |[],_,_,_,h,h'=>by cases h;exact h'
 |_::_,_,_,_,⟨x,r,e,h,l⟩,h'=>by subst e;exact⟨x,_,rfl,h,j4.append l h'⟩
def j4.one{d:D}{x:V}(h:Enc K H d x):j4 K H [d] [x]:=⟨x,[],rfl,h,rfl⟩
theorem j4.take:∀{ds:List D}{xs:List V}(n:Nat),j4 K H ds xs->j4 K H (ds.take n) (xs.take n)
 |[],_,n,h=>by cases h;simp;exact rfl
 |_::_,_,0,⟨x,r,e,h,l⟩=>by simp;exact rfl
 |_::_,_,n+1,⟨x,r,e,h,l⟩=>by subst e;exact⟨x,_,rfl,h,j4.take n l⟩
theorem j4.drop:∀{ds:List D}{xs:List V}(n:Nat),j4 K H ds xs->j4 K H (ds.drop n) (xs.drop n)
 |[],_,n,h=>by cases h;simp;exact rfl
 |_::_,_,0,h=>h
 |_::_,_,n+1,⟨x,r,e,h,l⟩=>by subst e;exact j4.drop n l
theorem j4.rep{ds:List D}{xs:List V}(h:j4 K H ds xs):∀k:Nat,j4 K H (ak k ds).flatten (ak k xs).flatten
 |0=>rfl
 |k+1=>by rw[Xv,Xv,T7,T7];exact h.append (j4.rep h k)
def j4.ints(ns:zo):j4 K H (ns.map D.int) (ns.map V.int):=by
 induction ns with
 |nil=>exact rfl
 |cons n ns ih=>exact⟨_,_,rfl,rfl,ih⟩
end
section
variable{H H' F:Hp}{A A':List aj}{a b:aj}{o:HO}
def qp:del H []=H:=funext λb=>if_neg (by simp)
def jk:j0 (del H A) H:=λ_ _ h=>(of_del h).2
def J0(h:∀b,b∈A'->b∈A):j0 (del H A) (del H A'):=λb o e=>by obtain⟨n,e⟩:=of_del e;rw[j7 λz=>n (h b z)];exact e
def Vq(h:a∈A):del (upd H a o) A=del H A:=funext λb=>by
 by_cases e:b∈A
 .rw[qj e,qj e]
 .rw[j7 e,j7 e,jd];rintro rfl;exact e h
noncomputable def mrg(A:List aj)(H F:Hp):Hp:=λb=>if b∈A then H b else F b
def J4(h:b∈A):mrg A H F b=H b:=if_pos h
def jl(h:b∉A):mrg A H F b=F b:=if_neg h
def Vr(h:∀a∈A,F a=ae):del (mrg A H F) A=F:=funext λb=>by
 by_cases e:b∈A
 .rw[qj e,h b e]
 .rw[j7 e,jl e]
def N6(g:j0 (del H A) F):j0 H (mrg A H F):=λb o e=>by
 by_cases z:b∈A
 .rw[J4 z];exact e
 .rw[jl z];exact g b o (by rw[j7 z];exact e)
def j6(h:H a=ae):j0 H (upd H a o):=λb u q=>by rw[jd (v7 q h)];exact q
end
def Hd(o:Option HO):Prop:=(∃xs,o=a8 (.lst xs))\/∃xs ep,o=a8 (.dI xs ep)
section
variable{X:Cx}{pins:k98}{σ σ':St}{H F:Hp}{s s':ao}{A:List aj}
def Inv.noFs(I:Inv X pins σ H s){b:aj}(hb:b∈X.fs):H b=ae:=by
 have q:b∈frs X.stack:=by
  rcases I.ok.stk with e|⟨e,_⟩
  .rw[e];exact hb
  .rw[e];have hb:b∈frs X.outer:=hb;unfold frs at hb ⊢;rw[cy];split
   .exact hb
   .exact xg _ hb
 exact I.stkFree b q
def Inv.hide(I:Inv X pins σ H s)(hA:∀a∈A,Hd (H a)):Inv X (pins++Y8 A s.heap) σ (del H A) s where
 ok:=I.ok
 os:=I.os
 bare:=I.bare
 base:={
  keep:=I.base.keep
  slot:=I.base.slot
  free:=λb o e n hx=>by
   have q:=I.base.free b o e n hx
   by_cases z:b∈A
   .exact qj z
   .rw[j7 z];exact q
  there:=I.base.there
  tups:=λb xs e=>by
   have q:=I.base.tups b xs e
   rw[j7];exact q
   intro z;rcases hA b z with ⟨ys,e'⟩|⟨ys,ep,e'⟩<;>(rw[q]at e';cases e')
  frzs:=λb o u e=>by
   have q:=I.base.frzs b o u e
   rw[j7];exact q
   intro z;rcases hA b z with ⟨ys,e'⟩|⟨ys,ep,e'⟩<;>(rw[q]at e';cases e')
  tbls:=λb ps e=>by
   obtain⟨more,q⟩:=I.base.tbls b ps e
   refine⟨more,?_⟩
   rw[j7];exact q
   intro z;rcases hA b z with ⟨ys,e'⟩|⟨ys,ep,e'⟩<;>(rw[q]at e';cases e') }
 loc:=I.loc
 cell:=I.cell
 free:=by
  by_cases z:X.env.locals∈A
  .exact qj z
  .rw[j7 z];exact I.free
 freeC:=λx c e=>by
  by_cases z:c∈A
  .exact qj z
  .rw[j7 z];exact I.freeC x c e
 pin:=λp hp=>by
  rw[<-T8]at hp;rcases Xw.mp hp with hp|hp
  .obtain⟨h1,h2,h3⟩:=I.pin p hp;refine⟨h1,?_,h3⟩;by_cases z:p.1∈A
   .exact qj z
   .rw[j7 z];exact h2
  .obtain⟨h1,h2⟩:=Ik hp;rcases hA _ h1 with ⟨xs,e⟩|⟨xs,ep,e⟩
   .refine⟨h2,qj h1,λz=>?_,λz=>?_,λv z=>?_⟩
    .rw[z,I.free]at e;cases e
    .rw[I.noFs z]at e;cases e
    .obtain⟨_,its,n,_,q⟩:=(show ji X.prog X.w H s.heap p.1 (.lst xs)from I.hok _ _ e)
     rw[h2]at q;rw[az q]at z;cases z
   .refine⟨h2,qj h1,λz=>?_,λz=>?_,λv z=>?_⟩
    .rw[z,I.free]at e;cases e
    .rw[I.noFs z]at e;cases e
    .obtain⟨_,_,_,ob,es,q,_,qd,_⟩:=(show ji X.prog X.w H s.heap p.1 (.dI xs ep)from I.hok _ _ e)
     rw[h2]at q;rw[az q,qd]at z;cases z
 hok:=λa o e=>by
  obtain⟨n,e⟩:=of_del e;refine ji.stay (I.hok a o e) (λb u _ q=>q) (λb q=>?_) (λb xs q=>?_) (λb _ _ q=>?_)
  .rw[j7];exact q;intro z;rcases hA b z with ⟨ys,e'⟩|⟨ys,ep,e'⟩<;>(rw[q]at e';cases e')
  .rw[j7];exact q;intro z;rcases hA b z with ⟨ys,e'⟩|⟨ys,ep,e'⟩<;>(rw[q]at e';cases e')
  .rw[j7];exact q;intro z;rcases hA b z with ⟨ys,e'⟩|⟨ys,ep,e'⟩<;>(rw[q]at e';cases e')
 len:=I.len
def Inv.unhide(I0:Inv X pins σ H s)(hA:∀a∈A,Hd (H a))(I:Inv X (pins++Y8 A s.heap) σ' F s') :
  (∀a∈A,F a=ae)/\Inv X pins σ' (mrg A H F) s':=by
 have pinned:∀a∈A,∃o,s.heap.get? a=a8 o/\s'.heap.get? a=a8 o/\F a=ae:=λa ha=>by
  have ob:∃o,s.heap.get? a=a8 o:=by
   rcases hA a ha with ⟨xs,e⟩|⟨xs,ep,e⟩
   .obtain⟨_,its,n,_,q⟩:=(show ji X.prog X.w H s.heap a (.lst xs)from I0.hok _ _ e)
    exact⟨_,q⟩
   .obtain⟨_,_,_,o,es,q,_⟩:=(show ji X.prog X.w H s.heap a (.dI xs ep)from I0.hok _ _ e)
    exact⟨_,q⟩
  obtain⟨o,q⟩:=ob;obtain⟨h1,h2,_⟩:=I.pin (a,_) (Xc _ (Xc _ (Je ha q)));exact⟨_,q,h1,h2⟩
 have hF:∀a∈A,F a=ae:=λa ha=>let ⟨_,_,_,q⟩:=pinned a ha;q;have out:∀{b:aj}{o:HO},F b=a8 o->b∉A:=λ{b o} e z=>by rw[hF b z]at e;cases e
 refine⟨hF,?_⟩;exact{
  ok:=I.ok
  os:=I.os
  bare:=I.bare
  base:={
   keep:=I.base.keep
   slot:=I.base.slot
   free:=λb o e n hx=>by
    by_cases z:b∈A
    .rw[J4 z];exact I0.base.free b o e n hx
    .rw[jl z];exact I.base.free b o e n hx
   there:=I.base.there
   tups:=λb xs e=>by
    have q:=I.base.tups b xs e
    rw[jl (out q)];exact q
   frzs:=λb o u e=>by
    have q:=I.base.frzs b o u e
    rw[jl (out q)];exact q
   tbls:=λb ps e=>by
    obtain⟨more,q⟩:=I.base.tbls b ps e
    exact⟨more,by rw[jl (out q)];exact q⟩ }
  loc:=I.loc
  cell:=I.cell
  free:=by
   by_cases z:X.env.locals∈A
   .rw[J4 z];exact I0.free
   .rw[jl z];exact I.free
  freeC:=λx c e=>by
   by_cases z:c∈A
   .rw[J4 z];exact I0.freeC x c e
   .rw[jl z];exact I.freeC x c e
  pin:=λp hp=>by
   obtain⟨h1,h2,h3⟩:=I.pin p (by rw[<-T8];exact Pu _ hp)
   refine⟨h1,?_,h3⟩
   by_cases z:p.1∈A
   .rw[J4 z];exact(I0.pin p hp).2.1
   .rw[jl z];exact h2
  hok:=λa o e=>by
   by_cases z:a∈A
   .rw[J4 z]at e
    obtain⟨o',q1,q2,_⟩:=pinned a z
    rcases hA a z with ⟨xs,e'⟩|⟨xs,ep,e'⟩
    .rw[e']at e;cases e
     obtain⟨hl,its,n,r,q⟩:=(show ji X.prog X.w H s.heap a (.lst xs)from I0.hok _ _ e')
     rw[q]at q1;cases q1
     exact⟨hl,its,n,r,q2⟩
    .rw[e']at e;cases e
     obtain⟨z1,z2,z3,ob,es,q,z4⟩:=(show ji X.prog X.w H s.heap a (.dI xs ep)from I0.hok _ _ e')
     rw[q]at q1;cases q1
     exact⟨z1,z2,z3,_,es,q2,z4⟩
   .rw[jl z]at e
    refine ji.stay (I.hok a o e) (λb u _ q=>q) (λb q=>?_) (λb xs q=>?_) (λb _ _ q=>?_)
    .rw[jl (out q)];exact q
    .rw[jl (out q)];exact q
    .rw[jl (out q)];exact q
  len:=I.len }
end
def J8(X:Cx)(e:au):TE:=λσ H Q=>∀pins s,Inv X pins σ H s->aw (aB X.prog X.w) X.A (aC e X.env) (EP X pins σ Q) X.xe s
def Cy(X:Cx)(e:au):TT:=λσ H Q=>∀pins s,Inv X pins σ H s->aw (aB X.prog X.w) X.A (gw e X.env (aC e X.env)) (TP X pins σ Q) X.xe s
def U6(X:Cx)(es:List au):TA:=λσ H Q=>∀pos pins s,Inv X pins σ H s->aw (aB X.prog X.w) X.A (iw (aP pos (af es X.env))) (AP X pins σ Q) X.xe s
def Cz(X:Cx)(st:aS):TS:=λD σ H=>∀pins s,Inv X pins σ H s->aw (aB X.prog X.w) X.A (exec st X.env) (SP X pins D) X.xe s
def Vx(X:Cx)(sts:List aS):TS:=λD σ H=>∀pins s,Inv X pins σ H s->aw (aB X.prog X.w) X.A (execs sts X.env) (SP X pins D) X.xe s
def La(X:Cx)(tg iter:au):TI:=λσ H R=>∀pins s,Inv X pins σ H s ->
 aw (aB X.prog X.w) X.A (aC iter X.env) (λv s1=>aw (aB X.prog X.w) X.A (iI v) (PIE X pins σ tg R) X.xe s1) X.xe s
section
variable{X:Cx}{e tg:au}{es:List au}{st:aS}{sts:List aS}{σ:St}{H:Hp}
def peS:PE X e (J8 X e):=λpins s _ _ _ I h=>h pins s I
def ptS:PT X e (Cy X e):=λpins s _ _ _ I h=>h pins s I
def paS:PA X es (U6 X es):=λpos pins s _ _ _ I h=>h pos pins s I
def psS:PS X st (Cz X st):=λpins s _ _ _ I h=>h pins s I
def Yi:PSs X sts (Vx X sts):=λpins s _ _ _ I h=>h pins s I
def piS:PI X tg e (La X tg e):=λpins s _ _ _ I h=>h pins s I
def PE.to{t:TE}(h:PE X e t){Q:VK}(q:t σ H Q):J8 X e σ H Q:=λpins s I=>h pins s σ H Q I q
def PT.to{t:TT}(h:PT X e t){Q:Bool->Hp->Prop}(q:t σ H Q):Cy X e σ H Q:=λpins s I=>h pins s σ H Q I q
def PA.to{t:TA}(h:PA X es t){Q:List V->Hp->Prop}(q:t σ H Q):U6 X es σ H Q:=λpos pins s I=>h pos pins s σ H Q I q
def PS.to{t:TS}(h:PS X st t){D:Ends}(q:t D σ H):Cz X st D σ H:=λpins s I=>h pins s σ H D I q
def PSs.to{t:TS}(h:PSs X sts t){D:Ends}(q:t D σ H):Vx X sts D σ H:=λpins s I=>h pins s σ H D I q
def PI.to{t:TI}(h:PI X tg e t){R:It->Hp->Prop}(q:t σ H R):La X tg e σ H R:=λpins s I=>h pins s σ H R I q
def Fy{A:List aj}{Q Q':VK}(hA:∀a∈A,Hd (H a))(h:J8 X e σ (del H A) Q')(hq:∀v F,Q' v F->(∀a∈A,F a=ae)->Q v (mrg A H F)):J8 X e σ H Q :=
 λpins s I=>thn (h _ s (I.hide hA)) λv s' ⟨x,F,I',r,q⟩=>let ⟨n,I2⟩:=I.unhide hA I';⟨x,_,I2,r,hq x F q n⟩
def j42{A:List aj}{Q Q':Bool->Hp->Prop}(hA:∀a∈A,Hd (H a))(h:Cy X e σ (del H A) Q')(hq:∀v F,Q' v F->(∀a∈A,F a=ae)->Q v (mrg A H F)):Cy X e σ H Q :=
 λpins s I=>thn (h _ s (I.hide hA)) λv s' ⟨F,I',q⟩=>let ⟨n,I2⟩:=I.unhide hA I';⟨_,I2,hq v F q n⟩
def Fx{A:List aj}{R R':It->Hp->Prop}(hA:∀a∈A,Hd (H a))(h:La X tg e σ (del H A) R')(hq:∀J F,R' J F->(∀a∈A,F a=ae)->R J (mrg A H F)):La X tg e σ H R :=
 λpins s I=>thn (h _ s (I.hide hA)) λv s' h1=>thn h1 λitv s2 ⟨it,fp,tn,J,F,e,I',T,t0,fk,q⟩=>by
  obtain⟨n,I2⟩:=I.unhide hA I';refine⟨it,fp,tn,J,_,e,I2,T,t0,λb hb=>?_,hq J F q n⟩;obtain⟨f0,f1,f2,f3,f4,f5⟩:=fk b hb;refine⟨?_,f1,f2,f3,f4,λp hp=>f5 p (by rw[<-T8];exact Pu _ hp)⟩;by_cases z:b∈A
  .exfalso;have ob:∃o,s.heap.get? b=a8 o:=by
    rcases hA b z with ⟨xs,e⟩|⟨xs,ep,e⟩
    .obtain⟨_,its,n,_,q⟩:=(show ji X.prog X.w H s.heap b (.lst xs)from I.hok _ _ e)
     exact⟨_,q⟩
    .obtain⟨_,_,_,o,es,q,_⟩:=(show ji X.prog X.w H s.heap b (.dI xs ep)from I.hok _ _ e)
     exact⟨_,q⟩
   obtain⟨o,q⟩:=ob;exact f5 (b,o) (Xc _ (Xc _ (Je z q))) rfl
  .rw[jl z];exact f0
end
inductive Sl where
 |un
 |val (d:D)
 |own (a:aj) (ds:List D)
 |raw (a:aj) (o:d8) (x:aq)
noncomputable abbrev Rho:=List Sl
noncomputable def Sl.addr:Sl->Option aj
 |.own a _=>a8 a
 |_=>ae
noncomputable def owns(ρ:Rho):List aj:=ρ.filterMap Sl.addr
def Qu{ρ:Rho}{i:Nat}{a:aj}{ds:List D}(h:ρ[i]?=a8 (.own a ds)):a∈owns ρ:=Td.mpr ⟨_,Xq h,rfl⟩
def Vy{ρ:Rho}{a:aj}(h:a∈owns ρ):∃(i:Nat)(ds:List D),ρ[i]?=a8 (.own a ds):=by
 obtain⟨s,hs,e⟩:=Td.mp h;obtain⟨i,hi⟩:=List.mem_iff_getElem?.mp hs;cases s with
 |own b ds=>cases e;exact⟨i,ds,hi⟩
 |un=>cases e
 |val d=>cases e
 |raw b o x=>cases e
def jq(s:Sl)(ρ:Rho):owns (s::ρ)=(match s.addr with|some a=>a::owns ρ|none=>owns ρ):=by unfold owns;rw[cy];cases s.addr<;>rfl
theorem jf{s:Sl}(hs:s.addr=ae):∀{ρ:Rho}{i:Nat},(owns (ρ.set i s)).Sublist (owns ρ)
 |[],_=>d5 _
 |x::r,0=>by
  rw[Xy,jq,jq,hs];cases x.addr with
  |none=>exact d5 _
  |some a=>exact List.sublist_cons_self _ _
 |x::r,i+1=>by
  rw[Xz,jq,jq];have ih:=jf hs (ρ:=r) (i:=i);cases x.addr with
  |none=>exact ih
  |some a=>exact ih.cons_cons a
theorem Yj{a:aj}{ds ds':List D}:∀{ρ:Rho}{i:Nat},ρ[i]?=a8 (.own a ds)->owns (ρ.set i (.own a ds'))=owns ρ
 |[],_,h=>by simp at h
 |x::r,0,h=>by simp at h;subst h;rw[Xy,jq,jq];rfl
 |x::r,i+1,h=>by simp at h;rw[Xz,jq,jq,Yj h]
theorem Bj{s:Sl}(hs:s.addr=ae):∀{ρ:Rho}{i:Nat},(∀a l,ρ[i]?≠a8 (.own a l))->owns (ρ.set i s)=owns ρ
 |[],_,_=>rfl
 |x::r,0,h=>by
  rw[Xy,jq,jq,hs];cases x with
  |own a l=>exact absurd rfl (h a l)
  |un=>rfl
  |val d=>rfl
  |raw a o x=>rfl
 |x::r,i+1,h=>by rw[Xz,jq,jq,Bj hs (λa l=>by simpa using h a l)]
theorem Jq{a:aj}{ds:List D}:∀{ρ:Rho}{i:Nat},(owns ρ).Nodup->a∉owns ρ->(owns (ρ.set i (.own a ds))).Nodup/\∀b∈owns (ρ.set i (.own a ds)),b=a\/b∈owns ρ
 |[],_,n,_=>⟨n,λb hb=>.inr hb⟩
 |x::r,0,n,h=>by
  rw[Xy,jq];rw[jq]at n h;have e:(Sl.own a ds).addr=a8 a:=rfl;rw[e];cases q:x.addr with
  |none =>rw[q]at n h;exact⟨Xk.mpr ⟨h,n⟩,λb hb=>(xr.mp hb).elim .inl λz=>.inr (by rw[jq,q];exact z)⟩
  |some c =>rw[q]at n h;exact⟨Xk.mpr ⟨λz=>h (xg _ z),(Xk.mp n).2⟩,λb hb=>(xr.mp hb).elim .inl λz=>.inr (by rw[jq,q];exact xg _ z)⟩
 |x::r,i+1,n,h=>by
  rw[Xz,jq];rw[jq]at n h;cases q:x.addr with
  |none =>rw[q]at n h;obtain⟨i1,i2⟩:=Jq (ds:=ds) (i:=i) n h;exact⟨i1,λb hb=>(i2 b hb).elim .inl λz=>.inr (by rw[jq,q];exact z)⟩
  |some c =>
   rw[q]at n h;obtain⟨n1,n2⟩:=Xk.mp n;obtain⟨i1,i2⟩:=Jq (ds:=ds) (i:=i) n2 (λz=>h (xg _ z));refine⟨Xk.mpr ⟨λz=>?_,i1⟩,λb hb=>?_⟩
   .rcases i2 c z with e|z
    .subst e;exact h (xq ..)
    .exact n1 z
   .rcases xr.mp hb with e|z
    .exact .inr (by rw[jq,q];exact e▸xq ..)
    .exact(i2 b z).elim .inl λz=>.inr (by rw[jq,q];exact xg _ z)
theorem U9{a:aj}{l l':List D}:∀{ρ:Rho}{i j:Nat},(owns ρ).Nodup->ρ[i]?=a8 (.own a l)->ρ[j]?=a8 (.own a l')->i=j
 |[],i,_,_,h,_=>by simp at h
 |x::r,0,0,_,_,_=>rfl
 |x::r,0,j+1,n,h,h'=>by simp at h h';subst h;rw[jq]at n;exact absurd (Qu h') (Xk.mp n).1
 |x::r,i+1,0,n,h,h'=>by simp at h h';subst h';rw[jq]at n;exact absurd (Qu h) (Xk.mp n).1
 |x::r,i+1,j+1,n,h,h'=>by
  simp at h h';have n':(owns r).Nodup:=by
   rw[jq]at n;cases q:x.addr with
   |none=>rw[q]at n;exact n
   |some c=>rw[q]at n;exact(Xk.mp n).2
  rw[U9 n' h h']
noncomputable def Zz:List aq:=["worst_cost_of_ask","least_numbers","whole_cost_of_ask","round_numbers"]
def TabOk(K:k96)(H:Hp):Prop:=∀x∈Zz,∀c P,W.tabIn K x=a8 (c,P)->H P=a8 (.cod (jx x))
section
variable{K:k96}{H H':Hp}
def TabOk.mono(h:TabOk K H)(g:j0 H H'):TabOk K H':=λx hx c P e=>g _ _ (h x hx c P e)
def TabOk.upd{a:aj}{o u:HO}(h:TabOk K H)(e:H a=a8 u)(n:∀q,u≠.cod q):TabOk K (upd H a o):=λx hx c P z=>by have q:=h x hx c P z;rw[jd];exact q;intro y;subst y;rw[e]at q;exact n _ (az q)
def TabOk.del{A:List aj}(h:TabOk K H)(hA:∀a∈A,∃xs,H a=a8 (.lst xs)):TabOk K (del H A):=λx hx c P z=>by have q:=h x hx c P z;rw[j7];exact q;intro y;obtain⟨xs,e⟩:=hA _ y;rw[q]at e;cases e
end
noncomputable def rfN:aq:="@"
def j08(K:k96)(F:Hp)(a:aj)(o:d8)(x:aq):Prop:=x=rfN\/(F a=a8 (.frz o (.own a))/\W.nsIn K ax x=a8 (a8 o.cls))
def j08.mono{K:k96}{F F':Hp}{a:aj}{o:d8}{x:aq}(h:j08 K F a o x)(g:j0 F F'):j08 K F' a o x:=h.elim .inl λh=>.inr ⟨g _ _ h.1,h.2⟩
structure Rep(K:k96)(ρ:Rho)(σ:St)(H:Hp):Prop where
 len:σ.length=ρ.length
 val:∀(i:Nat)(d:D),ρ[i]?=a8 (.val d)->∃v,σ[i]?=a8 (a8 v)/\Enc K (del H (owns ρ)) d v
 own:∀(i:Nat)(a:aj)(ds:List D),ρ[i]?=a8 (.own a ds)->σ[i]?=a8 (a8 (.ref a))/\∃xs,H a=a8 (.lst xs)/\j4 K (del H (owns ρ)) ds xs
 nd:(owns ρ).Nodup
 raw:∀(i:Nat)(a:aj)(o:d8)(x:aq),ρ[i]?=a8 (.raw a o x)->σ[i]?=a8 (a8 (.ref a))/\j08 K (del H (owns ρ)) a o x
 tb:TabOk K H
section
variable{K:k96}{ρ ρ':Rho}{σ:St}{H H':Hp}{i:Nat}{d:D}{v:V}{a:aj}{ds ds':List D}{xs:List V}
def Rep.owned(R:Rep K ρ σ H):∀a∈owns ρ,∃xs,H a=a8 (.lst xs):=λa h=>by obtain⟨i,ds,e⟩:=Vy h;obtain⟨_,xs,q,_⟩:=R.own i a ds e;exact⟨xs,q⟩
def Rep.fresh(R:Rep K ρ σ H)(h:H a=ae):a∉owns ρ:=λz=>by obtain⟨xs,e⟩:=R.owned a z;rw[h]at e;cases e
def Rep.grow(R:Rep K ρ σ H)(g:j0 H H'):Rep K ρ σ H' :=
 ⟨R.len,λi d e=>let ⟨v,q,h⟩:=R.val i d e;⟨v,q,h.mono (je g)⟩,λi a ds e=>let ⟨q,xs,h,l⟩:=R.own i a ds e;⟨q,xs,g _ _ h,l.mono (je g)⟩,R.nd,λi a o x e=>let ⟨q,h⟩:=R.raw i a o x e;⟨q,h.mono (je g)⟩,R.tb.mono g⟩
def getElem?_set_of{α:Type}{l:List α}{i j:Nat}{x y:α}(h:(l.set i x)[j]?=a8 y):(i=j/\y=x/\i<l.length)\/(i≠j/\l[j]?=a8 y):=by
 rw[dN]at h;split at h
 .rename_i e;subst e;split at h
  .rename_i z;cases h;exact .inl ⟨rfl,rfl,z⟩
  .cases h
 .rename_i e;exact .inr ⟨e,h⟩
def Jb{α:Type}{l:List α}{i:Nat}{x:α}(h:i<l.length):(l.set i x)[i]?=a8 x:=by simp[h]
def jz{α:Type}{l:List α}{i j:Nat}{x:α}(h:i≠j):(l.set i x)[j]?=l[j]?:=by simp[h]
def Rep.set_val(R:Rep K ρ σ H)(e:Enc K (del H (owns ρ)) d v):Rep K (ρ.set i (.val d)) (σ.set i (a8 v)) H:=by
 have sub:(owns (ρ.set i (.val d))).Sublist (owns ρ):=jf rfl;have g:j0 (del H (owns ρ)) (del H (owns (ρ.set i (.val d)))):=J0 λb hb=>sub.subset hb;refine⟨by simp[R.len],λj d' h=>?_,λj a ds h=>?_,sub.nodup R.nd,λj a o x h=>?_,R.tb⟩
 .rcases getElem?_set_of h with ⟨rfl,z,hl⟩|⟨n,h⟩
  .cases z;exact⟨v,Jb (by rw[R.len];exact hl),e.mono g⟩
  .obtain⟨u,q,h⟩:=R.val j d' h;exact⟨u,by rw[jz n];exact q,h.mono g⟩
 .rcases getElem?_set_of h with ⟨rfl,z,_⟩|⟨n,h⟩
  .cases z
  .obtain⟨q,xs,h,l⟩:=R.own j a ds h;exact⟨by rw[jz n];exact q,xs,h,l.mono g⟩
 .rcases getElem?_set_of h with ⟨rfl,z,_⟩|⟨n,h⟩
  .cases z
  .obtain⟨q,h⟩:=R.raw j a o x h;exact⟨by rw[jz n];exact q,h.mono g⟩
def Rep.set_un{v:Option V}(R:Rep K ρ σ H):Rep K (ρ.set i .un) (σ.set i v) H:=by
 have sub:(owns (ρ.set i .un)).Sublist (owns ρ):=jf rfl;have g:j0 (del H (owns ρ)) (del H (owns (ρ.set i .un))):=J0 λb hb=>sub.subset hb;refine⟨by simp[R.len],λj d' h=>?_,λj a ds h=>?_,sub.nodup R.nd,λj a o x h=>?_,R.tb⟩
 .rcases getElem?_set_of h with ⟨rfl,z,hl⟩|⟨n,h⟩
  .cases z
  .obtain⟨u,q,h⟩:=R.val j d' h;exact⟨u,by rw[jz n];exact q,h.mono g⟩
 .rcases getElem?_set_of h with ⟨rfl,z,_⟩|⟨n,h⟩
  .cases z
  .obtain⟨q,xs,h,l⟩:=R.own j a ds h;exact⟨by rw[jz n];exact q,xs,h,l.mono g⟩
 .rcases getElem?_set_of h with ⟨rfl,z,_⟩|⟨n,h⟩
  .cases z
  .obtain⟨q,h⟩:=R.raw j a o x h;exact⟨by rw[jz n];exact q,h.mono g⟩
def Rep.set_own(R:Rep K ρ σ H)(g:j0 H H')(ha:H a=ae)(e:H' a=a8 (.lst xs))(l:j4 K (del H' (a::owns ρ)) ds xs):Rep K (ρ.set i (.own a ds)) (σ.set i (a8 (.ref a))) H':=by
 have na:=R.fresh ha;obtain⟨nd,sub⟩:=Jq (ds:=ds) (i:=i) R.nd na;have g1:j0 (del H' (a::owns ρ)) (del H' (owns (ρ.set i (.own a ds)))):=J0 λb hb=>by
  rcases sub b hb with e|z
  .exact e▸xq ..
  .exact xg _ z
 have g2:j0 (del H (owns ρ)) (del H' (a::owns ρ)):=λb o q=>by
  obtain⟨n,q⟩:=of_del q;rw[j7];exact g b o q;intro z;rcases xr.mp z with e|z
  .subst e;rw[ha]at q;cases q
  .exact n z
 refine⟨by simp[R.len],λj d' h=>?_,λj b ds' h=>?_,nd,λj b o x h=>?_,R.tb.mono g⟩
 .rcases getElem?_set_of h with ⟨rfl,z,hl⟩|⟨n,h⟩
  .cases z
  .obtain⟨u,q,h⟩:=R.val j d' h;exact⟨u,by rw[jz n];exact q,h.mono (g2.trans g1)⟩
 .rcases getElem?_set_of h with ⟨rfl,z,hl⟩|⟨n,h⟩
  .cases z;exact⟨Jb (by rw[R.len];exact hl),xs,e,l.mono g1⟩
  .obtain⟨q,ys,h,l⟩:=R.own j b ds' h;exact⟨by rw[jz n];exact q,ys,g _ _ h,l.mono (g2.trans g1)⟩
 .rcases getElem?_set_of h with ⟨rfl,z,hl⟩|⟨n,h⟩
  .cases z
  .obtain⟨q,h⟩:=R.raw j b o x h;exact⟨by rw[jz n];exact q,h.mono (g2.trans g1)⟩
def Rep.upd_own(R:Rep K ρ σ H)(h:ρ[i]?=a8 (.own a ds))(l:j4 K (del H (owns ρ)) ds' xs):Rep K (ρ.set i (.own a ds')) σ (upd H a (.lst xs)):=by
 have eo:owns (ρ.set i (.own a ds'))=owns ρ:=Yj h;have ed:del (upd H a (.lst xs)) (owns ρ)=del H (owns ρ):=Vq (Qu h);refine⟨by simp[R.len],λj d' q=>?_,λj b l' q=>?_,by rw[eo];exact R.nd,λj b o x q=>?_,let ⟨_,_,z,_⟩:=R.own i a ds h;R.tb.upd z λ_ y=>by cases y⟩
 .rw[eo,ed];rcases getElem?_set_of q with ⟨_,z,_⟩|⟨n,q⟩
  .cases z
  .exact R.val j d' q
 .rw[eo,ed];rcases getElem?_set_of q with ⟨rfl,z,_⟩|⟨n,q'⟩
  .cases z;exact⟨(R.own i a ds h).1,xs,j8,l⟩
  .obtain⟨z,ys,y,l''⟩:=R.own j b l' q';refine⟨z,ys,?_,l''⟩;have nb:b≠a:=λe=>n (U9 R.nd h (e▸q'));rw[jd nb];exact y
 .rw[eo,ed];rcases getElem?_set_of q with ⟨_,z,_⟩|⟨n,q⟩
  .cases z
  .exact R.raw j b o x q
def Rep.freeze(R:Rep K ρ σ H)(h:ρ[i]?=a8 (.own a ds)):Rep K (ρ.set i (.val (.lst ds))) σ H:=by
 obtain⟨hs,xs,hx,l⟩:=R.own i a ds h;have sub:(owns (ρ.set i (.val (.lst ds)))).Sublist (owns ρ):=jf rfl;have g:j0 (del H (owns ρ)) (del H (owns (ρ.set i (.val (.lst ds))))):=J0 λb hb=>sub.subset hb;have na:a∉owns (ρ.set i (.val (.lst ds))):=λz=>by
  obtain⟨j,l',q⟩:=Vy z;rcases getElem?_set_of q with ⟨_,z,_⟩|⟨n,q⟩
  .cases z
  .exact n (U9 R.nd h q)
 refine⟨by simp[R.len],λj d' q=>?_,λj b l' q=>?_,sub.nodup R.nd,λj b o x q=>?_,R.tb⟩
 .rcases getElem?_set_of q with ⟨rfl,z,_⟩|⟨n,q⟩
  .cases z;exact⟨_,hs,a,xs,rfl,.inl (.inl (by rw[j7 na];exact hx)),l.mono g⟩
  .obtain⟨u,q,h⟩:=R.val j d' q;exact⟨u,q,h.mono g⟩
 .rcases getElem?_set_of q with ⟨rfl,z,_⟩|⟨n,q⟩
  .cases z
  .obtain⟨q,ys,h,l⟩:=R.own j b l' q;exact⟨q,ys,h,l.mono g⟩
 .rcases getElem?_set_of q with ⟨_,z,_⟩|⟨n,q⟩
  .cases z
  .obtain⟨q,h⟩:=R.raw j b o x q;exact⟨q,h.mono g⟩
end
def DE(X:Cx)(ρ:Rho)(e:au)(d:D):Prop:=∀σ H Q,Rep X.K ρ σ H->(∀v H',j0 H H'->Enc X.K (del H' (owns ρ)) d v->Q v H')->J8 X e σ H Q
def DT(X:Cx)(ρ:Rho)(e:au)(d:D):Prop:=∀σ H Q,Rep X.K ρ σ H->(∀v H',j0 H H'->Enc X.K H' d v->Q v H')->J8 X e σ H Q
def DO(X:Cx)(ρ:Rho)(e:au)(ds:List D):Prop:=∀σ H Q,Rep X.K ρ σ H->(∀a xs H',j0 H H'->H a=ae->H' a=a8 (.lst xs)->j4 X.K (del H' (a::owns ρ)) ds xs->Q (.ref a) H')->J8 X e σ H Q
def DL(X:Cx)(ρ:Rho)(e:au)(ds:List D):Prop:=∀σ H Q,Rep X.K ρ σ H->(∀a xs H',j0 H H'->H' a=a8 (.lst xs)->j4 X.K (del H' (owns ρ)) ds xs->Q (.ref a) H')->J8 X e σ H Q
def DB(X:Cx)(ρ:Rho)(e:au)(b:Bool):Prop:=∀σ H Q,Rep X.K ρ σ H->(∀H',j0 H H'->Q b H')->Cy X e σ H Q
def DA(X:Cx)(ρ:Rho)(es:List au)(ds:List D):Prop:=∀σ H Q,Rep X.K ρ σ H->(∀vs H',j0 H H'->j4 X.K (del H' (owns ρ)) ds vs->Q vs H')->U6 X es σ H Q
def DTA(X:Cx)(ρ:Rho)(es:List au)(ds:List D):Prop:=∀σ H Q,Rep X.K ρ σ H->(∀vs H',j0 H H'->j4 X.K H' ds vs->Q vs H')->U6 X es σ H Q
def j87(X:Cx)(e:au):TT:=λσ H Q=>∀whole pins s,Inv X pins σ H s->aw (aB X.prog X.w) X.A (gw e X.env whole) (TP X pins σ Q) X.xe s
def pwS{X:Cx}{e:au}:PW X e (j87 X e):=λwhole pins s _ _ _ I h=>h whole pins s I
def PW.to{X:Cx}{e:au}{t:TT}{σ:St}{H:Hp}(h:PW X e t){Q:Bool->Hp->Prop}(q:t σ H Q):j87 X e σ H Q:=λwhole pins s I=>h whole pins s σ H Q I q
def DW(X:Cx)(ρ:Rho)(e:au)(b:Bool):Prop:=∀σ H Q,Rep X.K ρ σ H->(∀H',j0 H H'->Q b H')->j87 X e σ H Q
mutual
noncomputable def Zd:D->Bool
 |.lst _=>a9
 |.dct _ _=>a9
 |.sct _=>a9
 |.fn _ _=>a9
 |.tup ds=>za ds
 |_=>ah
noncomputable def za:List D->Bool
 |[]=>ah
 |d::ds=>Zd d&&za ds
end
mutual
theorem Enc.hide{K:k96}{H:Hp}{A:List aj}(hA:∀a∈A,Hd (H a)):∀{d:D}{v:V},Zd d=ah->Enc K H d v->Enc K (del H A) d v
 |.non,_,_,h=>h
 |.bl _,_,_,h=>h
 |.int _,_,_,h=>h
 |.str _,_,_,h=>h
 |.lst _,_,n,_=>by cases n
 |.dct _ _,_,n,_=>by cases n
 |.sct _,_,n,_=>by cases n
 |.fn _ _,_,n,_=>by cases n
 |.tup ds,_,n,⟨a,xs,e,q,l⟩=>by
  refine⟨a,xs,e,?_,j4.hide hA (by simpa [Zd]using n) l⟩;have out:∀{o:HO},H a=a8 o->(∀ys,o≠.lst ys)->(∀ys ep,o≠.dI ys ep)->del H A a=a8 o:=λ{o} h z z2=>by
   rw[j7];exact h;intro y;rcases hA a y with ⟨ys,e'⟩|⟨ys,ep,e'⟩
   .rw[h]at e';cases e';exact z ys rfl
   .rw[h]at e';cases e';exact z2 ys ep rfl
  rcases q with (q|⟨o,q⟩)|q
  .exact .inl (.inl (out q (λ_ z=>by cases z) λ_ _ z=>by cases z))
  .exact .inl (.inr ⟨o,out q (λ_ z=>by cases z) λ_ _ z=>by cases z⟩)
  .exact .inr q
theorem j4.hide{K:k96}{H:Hp}{A:List aj}(hA:∀a∈A,Hd (H a)):∀{ds:List D}{xs:List V},za ds=ah->j4 K H ds xs->j4 K (del H A) ds xs
 |[],_,_,h=>h
 |d::ds,_,n,⟨x,r,e,h,l⟩=>by
  have n':Zd d=ah/\za ds=ah:=by simpa [za]using n
  exact⟨x,r,e,Enc.hide hA n'.1 h,j4.hide hA n'.2 l⟩
end
section
variable{X:Cx}{ρ:Rho}{e a b c:au}{es:List au}{d da db:D}{ds ds':List D}{i j:Int}{pos:aO}{k:Nat}{x:aq}
def DE.toT(h:DE X ρ e d):DT X ρ e d:=λσ H Q R q=>h σ H Q R λv H' g l=>q v H' g (l.mono jk)
def DT.toE(h:DT X ρ e d)(n:Zd d=ah:=by rfl):DE X ρ e d:=λσ H Q R q=>h σ H Q R λv H' g l=>q v H' g (l.hide (λa ha=>.inl ((R.grow g).owned a ha)) n)
def DO.toL(h:DO X ρ e ds):DL X ρ e ds:=λσ H Q R q=>h σ H Q R λa xs H' g n m l=>q a xs H' g m (l.mono (J0 λb hb=>xg _ hb))
def DO.toE(h:DO X ρ e ds):DE X ρ e (.lst ds):=λσ H Q R q=>h σ H Q R λa xs H' g n m l =>q _ H' g ⟨a,xs,rfl,.inl (.inl (by rw[j7 (R.fresh n)];exact m)),l.mono (J0 λb hb=>xg _ hb)⟩
def DL.toT(h:DL X ρ e ds):DT X ρ e (.lst ds):=λσ H Q R q=>h σ H Q R λa xs H' g m l=>q _ H' g ⟨a,xs,rfl,.inl (.inl m),l.mono jk⟩
def DW.toB{k:Bool}(h:DW X ρ e k):DB X ρ e k:=λσ H Q R q pins s I=>h σ H Q R q _ pins s I
def DE.eq(h:DE X ρ e d){d':D}(q:d=d'):DE X ρ e d':=q▸h
def DB.eq{b b':Bool}(h:DB X ρ e b)(q:b=b'):DB X ρ e b':=q▸h
end
section
variable{X:Cx}{ρ:Rho}{e a b c:au}{es:List au}{d da db:D}{ds ds':List D}{i j:Int}{pos p:aO}{k:Nat}{x:aq}
def DE.var(k:Nat)(h:ρ[k]?=a8 (.val d))(hN:X.N[k]?=a8 x:=by rfl)(hv:Vis X.env.scope x:=by first|exact aV rfl|exact bU (aV rfl)|exact bU (bU rfl))
  (hd:(x==k9a)=a9:=by decide) (hcd:(x==k9b)=a9:=by decide):DE X ρ (.Name x pos) d:=λσ H Q R q=>by
 obtain⟨v,hs,en⟩:=R.val k d h;exact(Jc hN hv hd hcd).to ⟨v,hs,q v H (j0.refl H) en⟩
def DL.var(k:Nat){l:aj}(h:ρ[k]?=a8 (.own l ds))(hN:X.N[k]?=a8 x:=by rfl)(hv:Vis X.env.scope x:=by first|exact aV rfl|exact bU (aV rfl)|exact bU (bU rfl))
  (hd:(x==k9a)=a9:=by decide) (hcd:(x==k9b)=a9:=by decide):DL X ρ (.Name x pos) ds:=λσ H Q R q=>by
 obtain⟨hs,xs,m,en⟩:=R.own k l ds h;exact(Jc hN hv hd hcd).to ⟨_,hs,q l xs H (j0.refl H) m en⟩
def DE.glob {u:ai} {v:V} (hg:Gl X x) (hm:X.mg x=a8 u) (r:RelV v u) (h:∀H,Enc X.K H d v) (hd:(x==k9a)=a9:=by decide):DE X ρ (.Name x pos) d :=
 λσ H Q R q=>(jcl hg hm r hd).to (q v H (j0.refl H) (h _))
def DE.int{i:Int}{n:Nat}{pos:aO}:DE X ρ (.Constant (.int i) n pos) (.int i):=λσ H Q R q=>j0x.to (q _ H (j0.refl H) rfl)
def DE.bl{b:Bool}{n:Nat}:DE X ρ (.Constant (.bool b) n pos) (.bl b):=λσ H Q R q=>jjf.to (q _ H (j0.refl H) rfl)
def DE.non{n:Nat}:DE X ρ (.Constant .none n pos) .non:=λσ H Q R q=>j68.to (q _ H (j0.refl H) rfl)
def DE.str{y:aq}{n:Nat}:DE X ρ (.Constant (.str y) n pos) (.str y):=λσ H Q R q=>j66.to (q _ H (j0.refl H) rfl)
def DE.arI0{op:kB}{g:Int->Int->Int}(ho:OpR X (bg op) (rI0 λi j=>.int (g i j)))(ha:DT X ρ a (.int i))(hb:DT X ρ b (.int j)):DE X ρ (.BinOp a op b pos) (.int (g i j)):=λσ H Q R q =>(Uq ho peS peS).to (ha σ H _ R λv H1 g1 e1=>hb σ H1 _ (R.grow g1) λu H2 g2 e2=>⟨i,j,e1,e2,q _ H2 (g1.trans g2) rfl⟩)
def DE.arI{op:kB}{C:Int->Int->Prop}{g:Int->Int->Int}(ho:OpR X (bg op) (rI C λi j=>.int (g i j)))(ha:DT X ρ a (.int i))(hb:DT X ρ b (.int j))(hC:C i j):DE X ρ (.BinOp a op b pos) (.int (g i j)):=λσ H Q R q =>(Uq ho peS peS).to (ha σ H _ R λv H1 g1 e1=>hb σ H1 _ (R.grow g1) λu H2 g2 e2=>⟨i,j,e1,e2,hC,q _ H2 (g1.trans g2) rfl⟩)
def DE.add(ha:DT X ρ a (.int i))(hb:DT X ρ b (.int j)):DE X ρ (.BinOp a .Add b pos) (.int (i+j)):=DE.arI0 jfx ha hb
def DE.sub(ha:DT X ρ a (.int i))(hb:DT X ρ b (.int j)):DE X ρ (.BinOp a .Sub b pos) (.int (i-j)):=DE.arI0 jfp ha hb
def DE.mul(ha:DT X ρ a (.int i))(hb:DT X ρ b (.int j))(h:j59 i j):DE X ρ (.BinOp a .Mult b pos) (.int (i*j)):=DE.arI jfu ha hb h
def DE.mod(ha:DT X ρ a (.int i))(hb:DT X ρ b (.int j))(h:0<j):DE X ρ (.BinOp a .Mod b pos) (.int (i%j)):=DE.arI jfv ha hb h
def DE.pow(ha:DT X ρ a (.int i))(hb:DT X ρ b (.int j))(h:j58 i j):DE X ρ (.BinOp a .Pow b pos) (.int (i^j.toNat)):=DE.arI jft ha hb h
def DE.shl(ha:DT X ρ a (.int i))(hb:DT X ρ b (.int j))(h:j58 i j):DE X ρ (.BinOp a .LShift b pos) (.int (i*2^j.toNat)):=DE.arI (g:=λi j=>i*2^j.toNat) jfr ha hb h
def DE.neg(ha:DT X ρ a (.int i)):DE X ρ (.UnaryOp .USub a pos) (.int (-i)):=λσ H Q R q =>(jje jej peS).to (ha σ H _ R λv H1 g1 e1=>⟨i,e1,q _ H1 g1 rfl⟩)
def DE.cmpI{op:iL}{g:Int->Int->Bool}(ho:OpR X (aX op) (rI0 λi j=>.bl (g i j)))(hm:aH op b=a9)(ha:DT X ρ a (.int i))(hb:DT X ρ b (.int j)):DE X ρ (.Compare a [op] [b] pos) (.bl (g i j)):=λσ H Q R q =>(J9 ho peS peS hm).to (ha σ H _ R λv H1 g1 e1=>hb σ H1 _ (R.grow g1) λu H2 g2 e2=>⟨i,j,e1,e2,q _ H2 (g1.trans g2) rfl⟩)
def DB.cmpI{op:iL}{g:Int->Int->Bool}(ho:OpR X (aX op) (rI0 λi j=>.bl (g i j)))(hm:aH op b=a9)(ha:DT X ρ a (.int i))(hb:DT X ρ b (.int j)):DB X ρ (.Compare a [op] [b] pos) (g i j):=λσ H Q R q =>(Jp ho peS peS hm).to (ha σ H _ R λv H1 g1 e1=>hb σ H1 _ (R.grow g1) λu H2 g2 e2=>⟨i,j,e1,e2,_,rfl,q H2 (g1.trans g2)⟩)
def DB.lt(ha:DT X ρ a (.int i))(hb:DT X ρ b (.int j)):DB X ρ (.Compare a [.Lt] [b] pos) (decide (i<j)):=DB.cmpI jap (zc _) ha hb
def DB.le(ha:DT X ρ a (.int i))(hb:DT X ρ b (.int j)):DB X ρ (.Compare a [.LtE] [b] pos) (decide (i<=j)):=DB.cmpI jaq (zc _) ha hb
def DB.gt(ha:DT X ρ a (.int i))(hb:DT X ρ b (.int j)):DB X ρ (.Compare a [.Gt] [b] pos) (decide (j<i)):=DB.cmpI jar (zc _) ha hb
def DB.ge(ha:DT X ρ a (.int i))(hb:DT X ρ b (.int j)):DB X ρ (.Compare a [.GtE] [b] pos) (decide (j<=i)):=DB.cmpI jas (zc _) ha hb
def DE.lt(ha:DT X ρ a (.int i))(hb:DT X ρ b (.int j)):DE X ρ (.Compare a [.Lt] [b] pos) (.bl (decide (i<j))):=DE.cmpI jap (zc _) ha hb
def DE.le(ha:DT X ρ a (.int i))(hb:DT X ρ b (.int j)):DE X ρ (.Compare a [.LtE] [b] pos) (.bl (decide (i<=j))):=DE.cmpI jaq (zc _) ha hb
def DE.gt(ha:DT X ρ a (.int i))(hb:DT X ρ b (.int j)):DE X ρ (.Compare a [.Gt] [b] pos) (.bl (decide (j<i))):=DE.cmpI jar (zc _) ha hb
def DE.ge(ha:DT X ρ a (.int i))(hb:DT X ρ b (.int j)):DE X ρ (.Compare a [.GtE] [b] pos) (.bl (decide (j<=i))):=DE.cmpI jas (zc _) ha hb
noncomputable def D.sc:D->Option V
 |.non=>a8 .non
 |.bl b=>a8 (.bl b)
 |.int i=>a8 (.int i)
 |.str x=>a8 (.str x)
 |_=>ae
def D.sc_enc{K:k96}{H:Hp}{d:D}{u v:V}(h:d.sc=a8 u)(q:Enc K H d v):v=u:=by cases d<;>simp[D.sc]at h<;>subst h<;>exact q
def DE.eqS{u v:V}(ha:DT X ρ a da)(hb:DT X ρ b db)(h1:da.sc=a8 u:=by rfl)(h2:db.sc=a8 v:=by rfl)(h:Lb u v=ah:=by rfl):DE X ρ (.Compare a [.Eq] [b] pos) (.bl (decide (u=v))):=λσ H Q R q =>
 (J9 jat peS peS (zc _)).to (ha σ H _ R λx H1 g1 e1=>hb σ H1 _ (R.grow g1) λy H2 g2 e2=>by
  cases D.sc_enc h1 e1;cases D.sc_enc h2 e2;exact⟨h,q _ H2 (g1.trans g2) rfl⟩)
def DE.neS{u v:V}(ha:DT X ρ a da)(hb:DT X ρ b db)(h1:da.sc=a8 u:=by rfl)(h2:db.sc=a8 v:=by rfl)(h:Lb u v=ah:=by rfl):DE X ρ (.Compare a [.NotEq] [b] pos) (.bl (!decide (u=v))):=λσ H Q R q =>
 (J9 jao peS peS (zc _)).to (ha σ H _ R λx H1 g1 e1=>hb σ H1 _ (R.grow g1) λy H2 g2 e2=>by
  cases D.sc_enc h1 e1;cases D.sc_enc h2 e2;exact⟨h,q _ H2 (g1.trans g2) rfl⟩)
def DB.eqS{u v:V}(ha:DT X ρ a da)(hb:DT X ρ b db)(h1:da.sc=a8 u:=by rfl)(h2:db.sc=a8 v:=by rfl)(h:Lb u v=ah:=by rfl):DB X ρ (.Compare a [.Eq] [b] pos) (decide (u=v)):=λσ H Q R q =>
 (Jp jat peS peS (zc _)).to (ha σ H _ R λx H1 g1 e1=>hb σ H1 _ (R.grow g1) λy H2 g2 e2=>by
  cases D.sc_enc h1 e1;cases D.sc_enc h2 e2;exact⟨h,_,rfl,q H2 (g1.trans g2)⟩)
def DB.neS{u v:V}(ha:DT X ρ a da)(hb:DT X ρ b db)(h1:da.sc=a8 u:=by rfl)(h2:db.sc=a8 v:=by rfl)(h:Lb u v=ah:=by rfl):DB X ρ (.Compare a [.NotEq] [b] pos) (!decide (u=v)):=λσ H Q R q =>
 (Jp jao peS peS (zc _)).to (ha σ H _ R λx H1 g1 e1=>hb σ H1 _ (R.grow g1) λy H2 g2 e2=>by
  cases D.sc_enc h1 e1;cases D.sc_enc h2 e2;exact⟨h,_,rfl,q H2 (g1.trans g2)⟩)
def Rq(i j:Int):decide (V.int i=V.int j)=decide (i=j):=by
 by_cases h:i=j
 .subst h;simp
 .rw[decide_eq_false h,decide_eq_false (λz=>h (V.int.inj z))]
def j3i(i j:Bool):decide (V.bl i=V.bl j)=(i==j):=by cases i<;>cases j<;>rfl
def j1q(i j:aq):decide (V.str i=V.str j)=decide (i=j):=by
 by_cases h:i=j
 .subst h;simp
 .rw[decide_eq_false h,decide_eq_false (λz=>h (V.str.inj z))]
def DE.eqI(ha:DT X ρ a (.int i))(hb:DT X ρ b (.int j)):DE X ρ (.Compare a [.Eq] [b] pos) (.bl (decide (i=j))):=(DE.eqS ha hb).eq (by rw[Rq])
def DE.neI(ha:DT X ρ a (.int i))(hb:DT X ρ b (.int j)):DE X ρ (.Compare a [.NotEq] [b] pos) (.bl (!decide (i=j))):=(DE.neS ha hb).eq (by rw[Rq])
def DB.eqI(ha:DT X ρ a (.int i))(hb:DT X ρ b (.int j)):DB X ρ (.Compare a [.Eq] [b] pos) (decide (i=j)):=(DB.eqS ha hb).eq (by rw[Rq])
def DB.neI(ha:DT X ρ a (.int i))(hb:DT X ρ b (.int j)):DB X ρ (.Compare a [.NotEq] [b] pos) (!decide (i=j)):=(DB.neS ha hb).eq (by rw[Rq])
def DE.neB{x y:Bool}(ha:DT X ρ a (.bl x))(hb:DT X ρ b (.bl y)):DE X ρ (.Compare a [.NotEq] [b] pos) (.bl (x != y)):=(DE.neS ha hb).eq (by rw[j3i];rfl)
def DB.neB{x y:Bool}(ha:DT X ρ a (.bl x))(hb:DT X ρ b (.bl y)):DB X ρ (.Compare a [.NotEq] [b] pos) (x != y):=(DB.neS ha hb).eq (by rw[j3i];rfl)
noncomputable def D.isNon:D->Bool
 |.non=>ah
 |_=>a9
def Io{K:k96}{H:Hp}{d:D}{v:V}(q:Enc K H d v):decide (v=V.non)=d.isNon:=by
 cases d with
 |non=>cases(show v=.non from q);rfl
 |bl b=>cases(show v=.bl b from q);rfl
 |int b=>cases(show v=.int b from q);rfl
 |str b=>cases(show v=.str b from q);rfl
 |tup l=>obtain⟨a,xs,e,_⟩:=q;subst e;rfl
 |lst l=>obtain⟨a,xs,e,_⟩:=q;subst e;rfl
 |dct ks l=>obtain⟨a,xs,ep,vs,e,_⟩:=q;subst e;rfl
 |sct k=>obtain⟨a,e,_⟩:=q;subst e;rfl
 |fn x l=>obtain⟨a,c,tx,cl,vs,e,_⟩:=q;subst e;rfl
def DB.isN{n:Nat}{p2:aO}(ha:DT X ρ a d):DB X ρ (.Compare a [.Is] [.Constant .none n p2] pos) d.isNon:=λσ H Q R q =>(jff (jfn peS)).to (ha σ H _ R λx H1 g1 e1=>⟨_,rfl,by rw[Io e1];exact q H1 g1⟩)
def DB.val{k:Bool}(ha:DT X ρ a (.bl k))(he:∀whole,gw a X.env whole=(do let v <-whole;lC a.pos;iy [v] (truthy v)):=by intro _;rfl):DB X ρ a k:=λσ H Q R q =>(jfd peS he).to (ha σ H _ R λx H1 g1 e1=>⟨_,e1,q H1 g1⟩)
def DW.and1{k:Bool}(ha:DB X ρ a k):DW X ρ (.BoolOp .And [a] pos) k:=λσ H Q R q=>(jcg ptS).to (ha σ H Q R q)
def DW.or1{k:Bool}(ha:DB X ρ a k):DW X ρ (.BoolOp .Or [a] pos) k:=λσ H Q R q=>(jfb ptS).to (ha σ H Q R q)
def DW.and{k m:Bool}{rest:List au}(ha:DB X ρ a k)(hb:k=ah->DW X ρ (.BoolOp .And (b::rest) pos) m):DW X ρ (.BoolOp .And (a::b::rest) pos) (k&&m):=λσ H Q R q =>
 (jfc ptS pwS).to (ha σ H _ R λH1 g1=>by
  cases k with
  |false=>exact K1 (q H1 g1)
  |true=>exact Lz (hb rfl σ H1 Q (R.grow g1) λH2 g2=>q H2 (g1.trans g2)))
def DW.or{k m:Bool}{rest:List au}(ha:DB X ρ a k)(hb:k=a9->DW X ρ (.BoolOp .Or (b::rest) pos) m):DW X ρ (.BoolOp .Or (a::b::rest) pos) (k || m):=λσ H Q R q =>
 (jjc ptS pwS).to (ha σ H _ R λH1 g1=>by
  cases k with
  |true=>exact Lz (q H1 g1)
  |false=>exact K1 (hb rfl σ H1 Q (R.grow g1) λH2 g2=>q H2 (g1.trans g2)))
def DB.not{k:Bool}(ha:DB X ρ a k):DB X ρ (.UnaryOp .Not a pos) (!k):=λσ H Q R q=>(jfe ptS).to (ha σ H _ R λH1 g1=>q H1 g1)
def DE.and{k m:Bool}{rest:List au}(ha:DT X ρ a (.bl k))(hb:k=ah->DE X ρ (.BoolOp .And (b::rest) pos) (.bl m)):DE X ρ (.BoolOp .And (a::b::rest) pos) (.bl (k&&m)):=λσ H Q R q =>
 (jfl peS peS).to (ha σ H _ R λx H1 g1 e1=>⟨k,e1,by
  cases k with
  |false=>exact K1 (q _ H1 g1 rfl)
  |true=>exact Lz (hb rfl σ H1 Q (R.grow g1) λv H2 g2=>q v H2 (g1.trans g2))⟩)
def DE.ite{k:Bool}{d':D}(hc:DB X ρ c k)(ha:k=ah->DE X ρ a d)(hb:k=a9->DE X ρ b d'):DE X ρ (.IfExp c a b pos) (if k=ah then d else d'):=λσ H Q R q =>
 (j0y ptS peS peS).to (hc σ H _ R λH1 g1=>by
  cases k with
  |true=>exact Lz (ha rfl σ H1 Q (R.grow g1) λv H2 g2 z=>q v H2 (g1.trans g2) (by rw[if_pos rfl];exact z))
  |false=>exact K1 (hb rfl σ H1 Q (R.grow g1) λv H2 g2 z=>q v H2 (g1.trans g2) (by rw[if_neg xj];exact z)))
def DA.nil:DA X ρ [] []:=λσ H Q R q=>jt.to (q [] H (j0.refl H) rfl)
def DA.cons(ha:DE X ρ a d)(hr:DA X ρ es ds)(hs:af (a::es) X.env=(a9,aC a X.env)::af es X.env:=by rfl):DA X ρ (a::es) (d::ds):=λσ H Q R q =>(jc peS paS hs).to (ha σ H _ R λv H1 g1 e1=>hr σ H1 _ (R.grow g1) λvs H2 g2 e2=>q _ H2 (g1.trans g2) ⟨v,vs,rfl,e1.mono (je g2),e2⟩)
def DTA.nil:DTA X ρ [] []:=λσ H Q R q=>jt.to (q [] H (j0.refl H) rfl)
def DTA.cons(ha:DT X ρ a d)(hr:DTA X ρ es ds)(hs:af (a::es) X.env=(a9,aC a X.env)::af es X.env:=by rfl):DTA X ρ (a::es) (d::ds):=λσ H Q R q =>(jc peS paS hs).to (ha σ H _ R λv H1 g1 e1=>hr σ H1 _ (R.grow g1) λvs H2 g2 e2=>q _ H2 (g1.trans g2) ⟨v,vs,rfl,e1.mono g2,e2⟩)
def DE.tup{n:Nat}{x1}(h:DA X ρ es ds)(hl:ds.length<=av:=by simp only[xx,tu];decide):DE X ρ (.Tuple es x1 pos) (.tup ds):=λσ H Q R q =>(j65 paS).to (h σ H _ R λvs H1 g1 e1=>⟨by rw[e1.length];exact hl,λp hp=>q _ _ (g1.trans (j6 hp)) ⟨p,vs,rfl,.inl (.inl (by rw[j7 ((R.grow g1).fresh hp)];exact j8)),e1.mono (je (j6 hp))⟩⟩)
def DO.lst(h:DA X ρ es ds)(hl:ds.length<=av:=by simp only[xx,tu];decide):DO X ρ (.List es pos) ds:=λσ H Q R q =>
 (jfk paS).to (h σ H _ R λvs H1 g1 e1=>⟨by rw[e1.length];exact hl,λp hp=>q p vs _ (g1.trans (j6 hp)) (g1.free hp) j8 (e1.mono λb o z=>by
  obtain⟨n,z⟩:=of_del z
  rw[j7];exact j6 hp b o z
  intro y
  rcases xr.mp y with y|y
  .subst y;rw[hp]at z;cases z
  .exact n y)⟩)
def j4.atI{K:k96}{H:Hp}{xs:List V}(h:j4 K H ds xs)(q:atI ds i=a8 d):∃x,L2.atI xs i=a8 x/\Enc K H d x:=by
 unfold L2.atI at q ⊢;rw[h.length];cases z:ixN ds.length i with
 |none=>rw[z]at q;cases q
 |some k =>rw[z]at q;exact h.get q
noncomputable def cutD(ds:List D)(lo hi:Option Int):List D:=(ds.drop (HT.sIx ds.length 0 lo)).take (HT.sIx ds.length ds.length hi-HT.sIx ds.length 0 lo)
def j4.cut{K:k96}{H:Hp}{xs:List V}(h:j4 K H ds xs)(lo hi:Option Int):j4 K H (cutD ds lo hi) (Mz xs lo hi):=by unfold cutD Mz;rw[h.length];exact(h.drop _).take _
def Ro{K:k96}{H1:Hp}{A:List aj}{ds:List D}{xs:List V}{p:aj}{o:HO}(hp:H1 p=ae)(e1:j4 K (del H1 A) ds xs):j4 K (del (upd H1 p o) (p::A)) ds xs:=e1.mono λb o z=>by
 obtain⟨n,z⟩:=of_del z;rw[j7];exact j6 hp b o z;intro y;rcases xr.mp y with y|y
 .subst y;rw[hp]at z;cases z
 .exact n y
def DO.rep(ha:DL X ρ a ds)(hb:DT X ρ b (.int i))(h1:-(2^63)<=i)(h2:i<2^63)(hl:ds.length*i.toNat<=av):DO X ρ (.BinOp a .Mult b pos) (ak i.toNat ds).flatten:=λσ H Q R q =>
 (Uq jfs peS peS).to (ha σ H _ R λl xs H1 g1 m1 e1=>hb σ H1 _ (R.grow g1) λu H2 g2 e2 =>
  ⟨l,i,xs,rfl,e2,g2 _ _ m1,h1,h2,by rw[e1.length];exact hl,λp hp=>q p _ _ ((g1.trans g2).trans (j6 hp)) ((g1.trans g2).free hp) j8 (Ro hp ((e1.mono (je g2)).rep _))⟩)
def DE.lenT (ha:DT X ρ a (.tup ds)) (hm:X.mg "len" = ae) (hg:Gl X "len":=by rfl) (hs:af [a] X.env=[(a9,aC a X.env)]:=by rfl) {p2:aO}:DE X ρ (.Call (.Name "len" p2) [a] [] pos) (.int ds.length):=λσ H Q R q =>(J3 O2 hg hm dj (jc peS jt hs) (by decide) (by decide) hs).to (ha σ H _ R λv H1 g1 ⟨l,xs,e,sq,en⟩=>⟨l,xs,by rw[e],.inr sq,q _ H1 g1 (by rw[en.length];rfl)⟩)
def DE.lenL (ha:DT X ρ a (.lst ds)) (hm:X.mg "len" = ae) (hg:Gl X "len":=by rfl) (hs:af [a] X.env=[(a9,aC a X.env)]:=by rfl) {p2:aO}:DE X ρ (.Call (.Name "len" p2) [a] [] pos) (.int ds.length):=λσ H Q R q =>(J3 O2 hg hm dj (jc peS jt hs) (by decide) (by decide) hs).to (ha σ H _ R λv H1 g1 ⟨l,xs,e,sq,en⟩=>⟨l,xs,by rw[e],.inl sq,q _ H1 g1 (by rw[en.length];rfl)⟩)
end
def framed(sp:Sp):Sp:=λvs H Q E=>∃A:List aj,(∀a∈A,∃xs,H a=a8 (.lst xs))/\sp vs (del H A) (λv F=>(∀a∈A,F a=ae)->Q v (mrg A H F)) E
def FnOk.framed{P:ay}{w:aD}{K:k96}{mg:k99}{base:aE}{k:Nat}{f:aj}{fd:aL}{ps:List aq}{sp:Sp}(F:FnOk P w K mg base CX0 k f fd ps sp) :
  FnOk P w K mg base CX0 k f fd ps (framed sp) where
 len:=λvs H Q E ⟨A,_,h⟩=>F.len vs _ _ _ h
 run:=by
  rintro A0 outer s H args us vs Q E hr e0 hb rv ⟨A,hA,h⟩;have nd:∀{b:aj},H b=ae->del H A b=ae:=λ{b} q=>by
   by_cases z:b∈A
   .exact qj z
   .rw[j7 z];exact q
  have out:∀{b:aj}{o:HO},H b=a8 o->(∀ys,o≠.lst ys)->del H A b=a8 o:=λ{b o} q z=>by rw[j7];exact q;intro y;obtain⟨ys,e'⟩:=hA b y;rw[q]at e';cases e';exact z ys rfl
  have e1:Env0 P w K mg base A0 outer s (del H A):=⟨e0.frames,e0.mod,λb o q=>⟨(e0.bs b o q).1,nd (e0.bs b o q).2⟩,e0.bsz,e0.funs,λb hb=>nd (e0.frf b hb),
   λa o q=>by
    obtain⟨_,q⟩:=of_del q
    exact ji.stay (e0.hok a o q) (λb u _ z=>z) (λb z=>out z λ_ y=>by cases y) (λb xs z=>out z λ_ y=>by cases y) (λb _ _ z=>out z λ_ y=>by cases y),e0.bare⟩
  refine bG (F.run A0 outer s (del H A) args us vs _ E hr e1 hb rv h) λr s' hq=>?_;cases r with
  |error e=>exact(show False from hq).elim
  |ok fl =>
   cases fl with
   |next=>exact(show False from hq).elim
   |brk=>exact(show False from hq).elim
   |cont=>exact(show False from hq).elim
   |ret u =>
    obtain⟨v,H',os,bare,un,hok',rel,q⟩:=(show CE outer P w (del H A) s _ u s' from hq)
    have kept:∀a∈A,∃o,s.heap.get? a=a8 o/\s'.heap.get? a=a8 o/\H' a=ae:=λa ha=>by
     obtain⟨xs,e⟩:=hA a ha;obtain⟨_,its,n,_,z⟩:=(show ji P w H s.heap a (.lst xs)from e0.hok _ _ e)
     have nf:a∉frs outer:=λy=>by rw[e0.frf a y]at e;cases e
     exact⟨_,z,un.keep a _ z (qj ha) nf (by simp),un.free a _ z (qj ha) (by simp)⟩
    have hF:∀a∈A,H' a=ae:=λa ha=>let ⟨_,_,_,z⟩:=kept a ha;z;have outF:∀{b:aj}{o:HO},H' b=a8 o->b∉A:=λ{b o} e z=>by rw[hF b z]at e;cases e
    refine⟨v,mrg A H H',os,bare,?_,λa o e=>?_,rel,q hF⟩
    .exact{
      keep:=λb o e n=>un.keep b o e (nd n)
      slot:=λb o e n=>un.slot b o e (nd n)
      free:=λb o e n hx=>by
       by_cases z:b∈A
       .rw[J4 z];exact n
       .rw[jl z];exact un.free b o e (nd n) hx
      there:=un.there
      tups:=λb xs e=>by
       have z:=un.tups b xs (out e λ_ y=>by cases y)
       rw[jl (outF z)];exact z
      frzs:=λb o u e=>by
       have z:=un.frzs b o u (out e λ_ y=>by cases y)
       rw[jl (outF z)];exact z
      tbls:=λb ps e=>by
       obtain⟨more,z⟩:=un.tbls b ps (out e λ_ y=>by cases y)
       exact⟨more,by rw[jl (outF z)];exact z⟩ }
    .by_cases z:a∈A
     .rw[J4 z]at e;obtain⟨xs,e'⟩:=hA a z;rw[e']at e;cases e;obtain⟨hl,its,n,r,y⟩:=(show ji P w H s.heap a (.lst xs)from e0.hok _ _ e')
      obtain⟨o',q1,q2,_⟩:=kept a z;rw[y]at q1;cases q1;exact⟨hl,its,n,r,q2⟩
     .rw[jl z]at e;refine ji.stay (hok' a o e) (λb u _ q=>q) (λb q=>?_) (λb xs q=>?_) (λb _ _ q=>?_)
      .rw[jl (outF q)];exact q
      .rw[jl (outF q)];exact q
      .rw[jl (outF q)];exact q
def spP(K:k96)(S:List D->D->Prop):Sp:=λvs H Q _=>∃A ds d,TabOk K H/\(∀a∈A,∃xs,H a=a8 (.lst xs))/\j4 K (del H A) ds vs/\S ds d/\∀v H',j0 H H'->Enc K (del H' A) d v->Q v H'
def spF(K:k96)(S:List D->List D->Prop):Sp:=λvs H Q _=>∃A ds l,TabOk K H/\(∀a∈A,∃xs,H a=a8 (.lst xs))/\j4 K (del H A) ds vs/\S ds l /\
 ∀a xs H',j0 H H'->H a=ae->H' a=a8 (.lst xs)->j4 K (del H' (a::A)) l xs->Q (.ref a) H'
def jle(K:k96)(S:List D->D->Prop):Sp:=λvs H Q _=>∃ds d,TabOk K H/\j4 K H ds vs/\S ds d/\∀v H',j0 H H'->Enc K H' d v->Q v H'
def jlh(K:k96)(S:List D->List D->Prop):Sp:=λvs H Q _=>∃ds l,TabOk K H/\j4 K H ds vs/\S ds l/\∀a xs H',j0 H H'->H a=ae->H' a=a8 (.lst xs)->j4 K (del H' [a]) l xs->Q (.ref a) H'
section
variable{P:ay}{w:aD}{K:k96}{mg:k99}{base:aE}{k:Nat}{f:aj}{fd:aL}{ps:List aq}
def FnOk.toP{S:List D->D->Prop}(F:FnOk P w K mg base CX0 k f fd ps (jle K S)):FnOk P w K mg base CX0 k f fd ps (spP K S) :=
 F.framed.imp λvs H Q E ⟨A,ds,d,tb,hA,en,hS,q⟩=>⟨A,hA,ds,d,tb.del hA,en,hS,λv F g e hF=>q v _ (N6 g) (by rw[Vr hF];exact e)⟩
def FnOk.toF{S:List D->List D->Prop}(F:FnOk P w K mg base CX0 k f fd ps (jlh K S)):FnOk P w K mg base CX0 k f fd ps (spF K S) :=
 F.framed.imp λvs H Q E ⟨A,ds,l,tb,hA,en,hS,q⟩=>⟨A,hA,ds,l,tb.del hA,en,hS,λa xs F g n e l' hF=>by
  have na:a∉A:=λz=>by rw[hF a z]at e;cases e
  refine q a xs _ (N6 g) (by rw[j7 na]at n;exact n) (by rw[jl na];exact e) (l'.mono λb o z=>?_)
  obtain⟨n1,z⟩:=of_del z
  have nb:b∉A:=λy=>by rw[hF b y]at z;cases z
  rw[j7,jl nb];exact z
  intro y
  rcases xr.mp y with y|y
  .exact n1 (by rw[y];exact xm.mpr rfl)
  .exact nb y⟩
end
noncomputable def j4t:List aq:=["dearest_way","cost_on_whole","worst_table","worst_plan","foe_answer","whole_table","whole_plan","mean_price"]
noncomputable def kG(us ws:List ai):List ai:=match ws with
 |[w]=>us++[w]
 |_=>[]
noncomputable def kGV(vs zs:List V):List V:=match zs with
 |[z]=>vs++[z]
 |_=>[]
def Dfl(K:k96)(x:aq)(fd:aL)(ps:List aq):Prop:=x∈j4t->Binds K fd ps [.none]/\KBinds K fd ps ["prices"] kG kGV
structure Cal(X:Cx)(x:aq)(sp:Sp):Prop where
 ex:∃(k:Nat)(f:aj)(fd:aL)(ps:List aq),FnOk X.prog X.w X.K X.mg X.base CX0 k f fd ps sp/\Room (k+1) X.A/\X.mg x=a8 (.ref f)/\W.keepIn X.K (.ref f)=ah/\Binds X.K fd ps []/\Dfl X.K x fd ps
section
variable{X:Cx}{ρ:Rho}{e a:au}{es:List au}{d:D}{ds l:List D}{pos p:aO}{x:aq}
def DE.call{S:List D->D->Prop}(c:Cal X x (spP X.K S))(ha:DA X ρ (e::es) ds)(hS:S ds d)(hg:Gl X x:=by rfl)(hdb:(x==k9a)=a9:=by decide)
  (he:af (e::es) X.env=(a9,aC e X.env)::af es X.env:=by rfl) (hpl:(aP pos (af es X.env)).any (·.1)=a9:=by rfl):DE X ρ (.Call (.Name x p) (e::es) [] pos) d:=λσ H Q R q=>by
 obtain⟨k,f,fd,ps,F,hr,hm,hk,hb,_⟩:=c.ex;refine(Yy F (hr.mono (Pn _)) hg hm hk hb .nil Oe paS hdb he hpl).to (ha σ H _ R λvs H1 g1 e1=>?_);show spP X.K S (vs++[]) H1 Q E0;rw[Xn];exact⟨owns ρ,ds,d,R.tb.mono g1,(R.grow g1).owned,e1,hS,λv H2 g2 z=>q v H2 (g1.trans g2) z⟩
def DT.call{S:List D->D->Prop}(c:Cal X x (spP X.K S))(ha:DTA X ρ (e::es) ds)(hS:S ds d)(hg:Gl X x:=by rfl)(hdb:(x==k9a)=a9:=by decide)
  (he:af (e::es) X.env=(a9,aC e X.env)::af es X.env:=by rfl) (hpl:(aP pos (af es X.env)).any (·.1)=a9:=by rfl):DT X ρ (.Call (.Name x p) (e::es) [] pos) d:=λσ H Q R q=>by
 obtain⟨k,f,fd,ps,F,hr,hm,hk,hb,_⟩:=c.ex;refine(Yy F (hr.mono (Pn _)) hg hm hk hb .nil Oe paS hdb he hpl).to (ha σ H _ R λvs H1 g1 e1=>?_);show spP X.K S (vs++[]) H1 Q E0;rw[Xn];exact⟨[],ds,d,R.tb.mono g1,(λa h=>nomatch h),by rw[qp];exact e1,hS,λv H2 g2 z=>q v H2 (g1.trans g2) (by rw[qp]at z;exact z)⟩
def DO.call{S:List D->List D->Prop}(c:Cal X x (spF X.K S))(ha:DA X ρ (e::es) ds)(hS:S ds l)(hg:Gl X x:=by rfl)(hdb:(x==k9a)=a9:=by decide)
  (he:af (e::es) X.env=(a9,aC e X.env)::af es X.env:=by rfl) (hpl:(aP pos (af es X.env)).any (·.1)=a9:=by rfl):DO X ρ (.Call (.Name x p) (e::es) [] pos) l:=λσ H Q R q=>by
 obtain⟨k,f,fd,ps,F,hr,hm,hk,hb,_⟩:=c.ex;refine(Yy F (hr.mono (Pn _)) hg hm hk hb .nil Oe paS hdb he hpl).to (ha σ H _ R λvs H1 g1 e1=>?_);show spF X.K S (vs++[]) H1 Q E0;rw[Xn];exact⟨owns ρ,ds,l,R.tb.mono g1,(R.grow g1).owned,e1,hS,λa xs H2 g2 n m z=>q a xs H2 (g1.trans g2) (g1.free n) m z⟩
end
inductive Rt where
 |val (d:D)
 |fresh (ds:List D)
noncomputable def Rt.d:Rt->D
 |.val d=>d
 |.fresh l=>.lst l
structure Po where
 nx:Rho->Prop
 rt:Rt->Prop
 bk:Rho->Prop:=λ_=>False
 ct:Rho->Prop:=λ_=>False
 ex:aq->Rho->Prop:=λ_ _=>False
structure FlQ(q:ai->Prop)(N:aj->Prop)(H:Hp)(h:aE)(e:aj)(C:ai):Prop where
 new:∀b,N b->b≠e
 free:H e=ae
 obj:∃(oe:d8)(vs:Array ai)(a0:ai),h.get? e=a8 oe/\oe.cls=C/\oe.data=.fields vs/\vs[0]?=a8 a0 /\
  (vs[1]?=a8 .none\/∃(T:aj)(oT:d8)(ts:Array ai)(fl:ai),vs[1]?=a8 (.ref T)/\T≠e/\h.get? T=a8 oT/\oT.data=.fields ts/\(ts[3]?=a8 fl/\q fl)/\H T=ae/\∀b,N b->b≠T)
def flN(v:ai):Prop:=v=.none
def flF(env:d9)(v:ai):Prop:=v=.none\/∃L,env.frame=a8 L/\v=cR L
abbrev Fl(N:aj->Prop)(H:Hp)(h:aE)(e:aj)(C:ai):Prop:=FlQ flN N H h e C
def FlQ.up{q q':ai->Prop}{N N':aj->Prop}{H:Hp}{h:aE}{e:aj}{C:ai}(F:FlQ q N H h e C)(hq:∀v,q v->q' v)(hN:∀b,N' b->N b):FlQ q' N' H h e C:=by refine⟨λb hb=>F.new b (hN b hb),F.free,?_⟩;obtain⟨oe,vs,a0,z1,z2,z3,z4,z5⟩:=F.obj;refine⟨oe,vs,a0,z1,z2,z3,z4,z5.imp id ?_⟩;rintro⟨T,oT,ts,fl,y1,y2,y3,y4,⟨y5,y6⟩,y7,y8⟩;exact⟨T,oT,ts,fl,y1,y2,y3,y4,⟨y5,hq _ y6⟩,y7,λb hb=>y8 b (hN b hb)⟩
def Old(X:Cx)(pins:k98)(b:aj):Prop:=(∃o,X.s₀.heap.get? b=a8 o/\b∉X.ex)\/(∃p∈X.pn++pins,p.1=b)\/b=X.env.locals\/∃x,X.env.cells.lookup x=a8 b
def W8(X:Cx)(σ:St)(H:Hp)(x:aq):Prop:=∀(pins:k98) (H':Hp) (s':ao) (e:aj) (C:ai),Inv X pins σ H' s'->j0 H H'->X.mg x=a8 C->FlQ (flF X.env) (Old X pins) H' s'.heap e C->X.xe (.ref e) s'
def W8.mono{X:Cx}{σ:St}{H H1:Hp}{x:aq}(h:W8 X σ H x)(g:j0 H H1):W8 X σ H1 x:=λpins H' s' e C I g'=>h pins H' s' e C I (g.trans g')
def Fr0(ρ ρ':Rho)(H H':Hp):Prop:=j0 (del H (owns ρ)) (del H' (owns ρ'))
def Ks(K:k96)(ρ:Rho)(H H':Hp)(v:V):Rt->Prop
 |.val d=>j0 (del H (owns ρ)) H'/\Enc K H' d v
 |.fresh ds=>∃a xs,v=.ref a/\j0 (del H (owns ρ)) (del H' [a])/\H' a=a8 (.lst xs)/\j4 K (del H' [a]) ds xs
structure EndsOk(X:Cx)(ρ:Rho)(H:Hp)(P:Po)(E:Ends):Prop where
 nx:∀ρ' σ' H',P.nx ρ'->Rep X.K ρ' σ' H'->Fr0 ρ ρ' H H'->E.nx σ' H'
 bk:∀ρ' σ' H',P.bk ρ'->Rep X.K ρ' σ' H'->Fr0 ρ ρ' H H'->E.bk σ' H'
 ct:∀ρ' σ' H',P.ct ρ'->Rep X.K ρ' σ' H'->Fr0 ρ ρ' H H'->E.ct σ' H'
 rt:∀r v H',P.rt r->Ks X.K ρ H H' v r->E.rt v H'
 ex:∀x ρ' σ' H',P.ex x ρ'->Rep X.K ρ' σ' H'->Fr0 ρ ρ' H H'->W8 X σ' H' x
def Ks.step{K:k96}{ρ ρ1:Rho}{H H1 H':Hp}{v:V}{r:Rt}(f:Fr0 ρ ρ1 H H1)(h:Ks K ρ1 H1 H' v r):Ks K ρ H H' v r:=by
 cases r with
 |val d=>exact⟨f.trans h.1,h.2⟩
 |fresh ds=>obtain⟨a,xs,e,g,m,l⟩:=h;exact⟨a,xs,e,f.trans g,m,l⟩
def EndsOk.step{X:Cx}{ρ ρ1:Rho}{H H1:Hp}{P:Po}{E:Ends}(h:EndsOk X ρ H P E)(f:Fr0 ρ ρ1 H H1):EndsOk X ρ1 H1 P E :=
 ⟨λρ' σ' H' n R g=>h.nx ρ' σ' H' n R (f.trans g),λρ' σ' H' n R g=>h.bk ρ' σ' H' n R (f.trans g),λρ' σ' H' n R g=>h.ct ρ' σ' H' n R (f.trans g),λr v H' n g=>h.rt r v H' n (Ks.step f g),λx ρ' σ' H' n R g=>h.ex x ρ' σ' H' n R (f.trans g)⟩
def Fr0.grow{ρ:Rho}{H H':Hp}(g:j0 H H'):Fr0 ρ ρ H H':=je g
def Fr0.refl(ρ:Rho)(H:Hp):Fr0 ρ ρ H H:=j0.refl _
def Fr0.drop{ρ ρ':Rho}{H:Hp}(h:∀b∈owns ρ',b∈owns ρ):Fr0 ρ ρ' H H:=J0 h
def Fr0.new{ρ:Rho}{H H':Hp}{i:Nat}{a:aj}{ds:List D}{K:k96}{σ:St}(R:Rep K ρ σ H)(g:j0 H H')(n:H a=ae):Fr0 ρ (ρ.set i (.own a ds)) H H':=λb o q=>by
 obtain⟨nb,q⟩:=of_del q;rw[j7];exact g b o q;intro z;rcases(Jq (ds:=ds) (i:=i) R.nd (R.fresh n)).2 b z with e|z
 .subst e;rw[n]at q;cases q
 .exact nb z
def DS(X:Cx)(ρ:Rho)(st:aS)(P:Po):Prop:=∀σ H E,Rep X.K ρ σ H->EndsOk X ρ H P E->Cz X st E σ H
def DSs(X:Cx)(ρ:Rho)(sts:List aS)(P:Po):Prop:=∀σ H E,Rep X.K ρ σ H->EndsOk X ρ H P E->Vx X sts E σ H
section
variable{X:Cx}{ρ:Rho}{e a b c:au}{es:List au}{st:aS}{rest sa sb body:List aS}{P:Po}{d:D}{ds ds':List D}{pos p p1 p2 p3:aO}{x:aq}{i:Nat}
def DSs.nil(h:P.nx ρ):DSs X ρ [] P:=λσ H E R q=>j31.to (q.nx ρ σ H h R (Fr0.refl ρ H))
def DSs.cons{N:Rho->Prop}(h1:DS X ρ st { P with nx:=N })(h2:∀ρ1,N ρ1->DSs X ρ1 rest P):DSs X ρ (st::rest) P:=λσ H E R q =>(Jj psS Yi).to (h1 σ H { E with nx:=Vx X rest E } R ⟨λρ' σ' H' n R' f=>h2 ρ' n σ' H' E R' (q.step f),q.bk,q.ct,q.rt,q.ex⟩)
def DSs.freeze(i:Nat){l:aj}(h:ρ[i]?=a8 (.own l ds))(h2:DSs X (ρ.set i (.val (.lst ds))) body P):DSs X ρ body P:=λσ H E R q =>h2 σ H E (R.freeze h) (q.step (.drop λb hb=>(jf rfl).subset hb))
def DS.set(i:Nat)(he:DE X ρ e d)(h:P.nx (ρ.set i (.val d)))(hN:X.N.Nodup)(hi:X.N[i]?=a8 x:=by rfl)(hx:Loc X.env.scope x:=by first|exact aV rfl|exact bU rfl)
  (hs:aN e (a8 (.Name x p)) pos.line X.env=pure a9:=by rfl) (hf:X.fn x=ah\/X.env.scope.names.lookup x=a8 .local:=by first|exact .inl rfl|exact .inr rfl):DS X ρ (.Assign [.Name x p] e pos) P:=λσ H E R q =>
 (Y6 hN hi hx peS hs hf).to (he σ H _ R λv H1 g1 e1=>q.nx _ _ H1 h ((R.grow g1).set_val e1) (j0.trans (Fr0.grow g1) (Fr0.drop λb hb=>(jf rfl).subset hb)))
def DS.setO(i:Nat)(he:DO X ρ e ds)(h:∀l,P.nx (ρ.set i (.own l ds)))(hN:X.N.Nodup)(hi:X.N[i]?=a8 x:=by rfl)(hx:Loc X.env.scope x:=by first|exact aV rfl|exact bU rfl)
  (hs:aN e (a8 (.Name x p)) pos.line X.env=pure a9:=by rfl) (hf:X.fn x=ah\/X.env.scope.names.lookup x=a8 .local:=by first|exact .inl rfl|exact .inr rfl):DS X ρ (.Assign [.Name x p] e pos) P:=λσ H E R q =>
 (Y6 hN hi hx peS hs hf).to (he σ H _ R λl xs H1 g1 n m e1=>q.nx _ _ H1 (h l) (R.set_own g1 n m e1) (.new R g1 n))
def DS.if{k:Bool}(hc:DB X ρ c k)(ha:k=ah->DSs X ρ sa P)(hb:k=a9->DSs X ρ sb P):DS X ρ (.If c sa sb pos) P:=λσ H E R q =>
 (jan ptS Yi Yi).to (hc σ H _ R λH1 g1=>by
  cases k with
  |true=>exact Lz (ha rfl σ H1 E (R.grow g1) (q.step (.grow g1)))
  |false=>exact K1 (hb rfl σ H1 E (R.grow g1) (q.step (.grow g1))))
def DS.ret(he:DT X ρ e d)(h:P.rt (.val d)):DS X ρ (.Return (a8 e) pos) P:=λσ H E R q =>(Y7 peS).to (he σ H _ R λv H1 g1 e1=>q.rt _ v H1 h ⟨jk.trans g1,e1⟩)
def DS.retO(he:DO X ρ e ds)(h:P.rt (.fresh ds)):DS X ρ (.Return (a8 e) pos) P:=λσ H E R q =>
 (Y7 peS).to (he σ H _ R λl xs H1 g1 n m e1=>q.rt _ _ H1 h ⟨l,xs,rfl,(λb o z=>by
  obtain⟨nb,z⟩:=of_del z
  rw[j7];exact g1 b o z
  intro y;rw[xm.mp y,n]at z;cases z),m,e1.mono (J0 λb hb=>by rw[xm.mp hb];exact xq ..)⟩)
def DS.retV(k:Nat){l:aj}(hk:ρ[k]?=a8 (.own l ds))(h:P.rt (.fresh ds))(hN:X.N[k]?=a8 x:=by rfl)(hv:Vis X.env.scope x:=by first|exact aV rfl|exact bU (aV rfl)|exact bU (bU rfl))
  (hd:(x==k9a)=a9:=by decide) (hcd:(x==k9b)=a9:=by decide):DS X ρ (.Return (a8 (.Name x p)) pos) P:=λσ H E R q=>by
 obtain⟨hs,xs,m,en⟩:=R.own k l ds hk;have g:j0 (del H (owns ρ)) (del H [l]):=J0 λb hb=>by rw[xm.mp hb];exact Qu hk
 exact(Y7 (Jc hN hv hd hcd)).to ⟨_,hs,q.rt _ _ H h ⟨l,xs,rfl,g,m,en.mono g⟩⟩
def DS.expr(he:DT X ρ e d)(h:P.nx ρ)(hs:aN e ae pos.line X.env=pure a9:=by rfl):DS X ρ (.Expr e pos) P:=λσ H E R q =>(Wj peS hs).to (he σ H _ R λv H1 g1 e1=>q.nx ρ σ H1 h (R.grow g1) (.grow g1))
def j72{σ:St}{H H':Hp}{l:aj}{o:HO}(hk:ρ[i]?=a8 (.own l ds))(g:j0 H H'):Fr0 ρ (ρ.set i (.own l ds')) H (upd H' l o):=by unfold Fr0;rw[Yj hk,Vq (Qu hk)];exact je g
def DS.append(i:Nat){l:aj}(hk:ρ[i]?=a8 (.own l ds))(he:DE X ρ e d)(hl:ds.length<av)(h:P.nx (ρ.set i (.own l (ds++[d]))))
  (hN:X.N[i]?=a8 x:=by rfl) (hv:Vis X.env.scope x:=by first|exact aV rfl|exact bU (aV rfl)|exact bU (bU rfl)) (hd:(x==k9a)=a9:=by decide) (hcd:(x==k9b)=a9:=by decide)
  (hst:af [e] X.env=[(a9,aC e X.env)]:=by rfl) (hline:(p1.endLine==p2.line)=ah:=by rfl)
  (hbase:aW (.Name x p) "append" X.env (aC (.Name x p) X.env)=aC (.Name x p) X.env:=by rfl) (hfew:((aP p2 (af [e] X.env)).all (λx=>!x.1)&&(bM p2 (ba [] X.env)).all (λx=>x.1.isSome)
   && decide (([e]:List au).length+([]:List b7).length+(if ([]:List b7).isEmpty then 0 else 1)<30))=ah:=by rfl)
  (hs:aN (.Call (.Attribute (.Name x p) "append" p1) [e] [] p2) ae pos.line X.env=pure a9:=by rfl) :
  DS X ρ (.Expr (.Call (.Attribute (.Name x p) "append" p1) [e] [] p2) pos) P:=λσ H E R q=>by
 obtain⟨hσ,xs,m,en⟩:=R.own i l ds hk;refine(Wj (Wz cz iG PySem.F.type_list_append Ml (Jc hN hv hd hcd) (jc peS jt hst) hbase hfew hline hst rfl) hs).to ?_;refine⟨_,hσ,.inl ⟨rfl,xs,.inl (.inl m)⟩,he σ H _ R λv H1 g1 e1=>⟨l,xs,v,rfl,rfl,g1 _ _ m,by rw[en.length];exact hl,?_⟩⟩;exact q.nx _ σ _ h ((R.grow g1).upd_own hk ((en.mono (je g1)).append (.one e1))) (j72 (σ:=σ) hk g1)
def DS.extend(i:Nat){l:aj}(hk:ρ[i]?=a8 (.own l ds))(he:DO X ρ e ds')(hl:ds.length+ds'.length<=av)(h:P.nx (ρ.set i (.own l (ds++ds'))))
  (hN:X.N[i]?=a8 x:=by rfl) (hv:Vis X.env.scope x:=by first|exact aV rfl|exact bU (aV rfl)|exact bU (bU rfl)) (hd:(x==k9a)=a9:=by decide) (hcd:(x==k9b)=a9:=by decide)
  (hst:af [e] X.env=[(a9,aC e X.env)]:=by rfl) (hline:(p1.endLine==p2.line)=ah:=by rfl)
  (hbase:aW (.Name x p) "extend" X.env (aC (.Name x p) X.env)=aC (.Name x p) X.env:=by rfl) (hfew:((aP p2 (af [e] X.env)).all (λx=>!x.1)&&(bM p2 (ba [] X.env)).all (λx=>x.1.isSome)
   && decide (([e]:List au).length+([]:List b7).length+(if ([]:List b7).isEmpty then 0 else 1)<30))=ah:=by rfl)
  (hs:aN (.Call (.Attribute (.Name x p) "extend" p1) [e] [] p2) ae pos.line X.env=pure a9:=by rfl) :
  DS X ρ (.Expr (.Call (.Attribute (.Name x p) "extend" p1) [e] [] p2) pos) P:=λσ H E R q=>by
 obtain⟨hσ,xs,m,en⟩:=R.own i l ds hk;refine(Wj (Wz cz iF PySem.F.type_list_extend j6j (Jc hN hv hd hcd) (jc peS jt hst) hbase hfew hline hst rfl) hs).to ?_;refine⟨_,hσ,.inl ⟨rfl,xs,.inl (.inl m)⟩,he σ H _ R λb ys H1 g1 n1 m1 e1=>⟨l,b,xs,ys,rfl,rfl,g1 _ _ m,m1,by rw[en.length,e1.length];exact hl,?_⟩⟩;exact q.nx _ σ _ h ((R.grow g1).upd_own hk ((en.mono (je g1)).append (e1.mono (J0 λc hc=>xg _ hc)))) (j72 (σ:=σ) hk g1)
def Vc(K:k96)(F:Hp)(J:It)(ds:List D):Prop:=∀(i:Nat)(H:Hp)(A:List aj),j0 F (del H A)->(∀a∈A,H a≠ae) ->
 (i<ds.length->J.go i H)/\(ds.length<=i->J.stop i H)/\∀x H',J.yld i H x H'->j0 H H'/\∀d,ds[i]?=a8 d->Enc K (del H' A) d x
def DI(X:Cx)(ρ:Rho)(tg it:au)(ds:List D):Prop:=∀σ H R,Rep X.K ρ σ H->(∀J H',j0 H H'->Vc X.K (del H' (owns ρ)) J ds->R J H')->La X tg it σ H R
variable{tg it:au}
def j6w{K:k96}{F:Hp}{l:aj}{xs:List V}(sq:SqL K F l xs)(en:j4 K F ds xs):Vc K F (Itl K l) ds:=λi H A g hA=>by
 have sq':SqL K H l xs:=jk.seq (g.seq sq);refine⟨λh=>?_,λh=>⟨xs,sq',by rw[en.length];exact h⟩,λx H' ⟨e,y⟩=>?_⟩
 .obtain⟨v,hv,_⟩:=en.get (kh h);exact⟨xs,v,sq',hv⟩
 .subst e;refine⟨j0.refl _,λd hd=>?_⟩;obtain⟨v,hv,ev⟩:=en.get hd;have e:=y xs sq';rw[hv]at e;cases e;exact ev.mono g
def j95{K:k96}{F:Hp}{l:aj}{xs:List V}(sq:SqT K F l xs)(en:j4 K F ds xs):Vc K F (Itt K l) ds:=λi H A g hA=>by
 have sq':SqT K H l xs:=jk.seqT (g.seqT sq);refine⟨λh=>?_,λh=>⟨xs,sq',by rw[en.length];exact h⟩,λx H' ⟨e,y⟩=>?_⟩
 .obtain⟨v,hv,_⟩:=en.get (kh h);exact⟨xs,v,sq',hv⟩
 .subst e;refine⟨j0.refl _,λd hd=>?_⟩;obtain⟨v,hv,ev⟩:=en.get hd;have e:=y xs sq';rw[hv]at e;cases e;exact ev.mono g
def DI.lst(h:DE X ρ it (.lst ds)):DI X ρ tg it ds:=λσ H R r q=>(jcj peS).to (h σ H _ r λv H1 g1 ⟨l,xs,e,sq,en⟩=>⟨l,e,⟨xs,jk.seq sq⟩,q _ H1 g1 (j6w sq en)⟩)
def DI.tup(h:DE X ρ it (.tup ds)):DI X ρ tg it ds:=λσ H R r q=>(jfi peS).to (h σ H _ r λv H1 g1 ⟨l,xs,e,sq,en⟩=>⟨l,e,⟨xs,jk.seqT sq⟩,q _ H1 g1 (j95 sq en)⟩)
noncomputable def upto(lo:Int)(n:Nat):List D:=(aA n).map λk=>D.int (lo+(k:Nat))
def Dl{K:k96}{F:Hp}(lo:Int)(n:Nat):Vc K F (Itr lo n) (upto lo n):=λi H A g hA=>by
 have hl:(upto lo n).length=n:=by unfold upto;rw[xf,Xj]
 rw[hl];refine⟨λh=>h,λh=>h,λx H' ⟨e,y⟩=>?_⟩;subst e;refine⟨j0.refl _,λd hd=>?_⟩;unfold upto at hd;rw[X4]at hd;cases z:(aA n)[i]? with
 |none=>rw[z]at hd;cases hd
 |some k =>
  rw[z]at hd;have ek:k=i:=by have:=P0 (n:=n) (i:=i) (by have:=(X6.mp z).1;rwa [Xj]at this);rw[this]at z;exact(az z).symm
  subst ek;cases hd;exact y
def DI.range1 {n:Int} (h:DT X ρ a (.int n)) (hm:X.mg "range" = ae) (h1:-(2^62)<=n) (h2:n<2^62) (hg:Gl X "range":=by rfl) (hs:af [a] X.env=[(a9,aC a X.env)]:=by rfl):DI X ρ tg (.Call (.Name "range" p) [a] [] pos) (upto 0 n.toNat):=λσ H R r q =>(j64 hg hm (jc peS jt hs) hs).to (h σ H _ r λv H1 g1 e=>⟨n,by rw[show v=.int n from e],h1,h2,q _ H1 g1 (Dl 0 _)⟩)
def DI.range2 {m n:Int} (h:DT X ρ a (.int m)) (h':DT X ρ b (.int n)) (hm:X.mg "range" = ae) (h1:-(2^62)<=m) (h2:m<2^62) (h3:-(2^62)<=n) (h4:n<2^62) (hg:Gl X "range":=by rfl) (hs:af [a,b] X.env=[(a9,aC a X.env),(a9,aC b X.env)]:=by rfl)
  (hs2:af [b] X.env=[(a9,aC b X.env)]:=by rfl) (hs3:af [a,b] X.env=(a9,aC a X.env)::af [b] X.env:=by rfl):DI X ρ tg (.Call (.Name "range" p) [a,b] [] pos) (upto m (n-m).toNat):=λσ H R r q =>
 (j63 hg hm (jc peS (jc peS jt hs2) hs3) hs hs2).to (h σ H _ r λv H1 g1 e=>h' σ H1 _ (r.grow g1) λu H2 g2 e2=>⟨m,n,by rw[show v=.int m from e,show u=.int n from e2],⟨h1,h2,h3,h4⟩,q _ H2 (g1.trans g2) (Dl m _)⟩)
def j88(X:Cx)(tg:au):TG:=λv σ H Q=>∀pins s u,Inv X pins σ H s->RelV v u->aw (aB X.prog X.w) X.A (fO tg X.env u) (λ_ s'=>∃σ' H',Inv X pins σ' H' s'/\Q σ' H') X.xe s
def pgS:PG X tg (j88 X tg):=λpins s σ H v u Q I r h=>h pins s u I r
def PG.to{t:TG}{σ:St}{H:Hp}{v:V}{Q:St->Hp->Prop}(h:PG X tg t)(q:t v σ H Q):j88 X tg v σ H Q:=λpins s u I r=>h pins s σ H v u Q I r q
def DG(X:Cx)(ρ:Rho)(tg:au)(d:D)(ρ':Rho):Prop:=(∀b∈owns ρ',b∈owns ρ)/\∀σ H v Q,Rep X.K ρ σ H->Enc X.K (del H (owns ρ)) d v->(∀σ',Rep X.K ρ' σ' H->Q σ' H)->j88 X tg v σ H Q
def DG.name(i:Nat)(hN:X.N.Nodup)(hi:X.N[i]?=a8 x:=by rfl)(hx:Loc X.env.scope x:=by first|exact aV rfl|exact bU rfl)(hf:X.fn x=ah\/X.env.scope.names.lookup x=a8 .local:=by first|exact .inl rfl|exact .inr rfl):DG X ρ (.Name x p) d (ρ.set i (.val d)) :=
 ⟨λb hb=>(jf rfl).subset hb,λσ H v Q R en q=>(Yx hN hi hx hf).to (q _ (R.set_val en))⟩
def DS.for(W:Nat->Rho->Prop)(hi:DI X ρ tg it ds)(h0:W 0 ρ)(hs:∀i d ρ',ds[i]?=a8 d->W i ρ'->∃ρ2,DG X ρ' tg d ρ2/\DSs X ρ2 body { nx:=W (i+1),rt:=P.rt,bk:=P.nx,ct:=W (i+1),ex:=P.ex })
  (hd:∀ρ',W ds.length ρ'->P.nx ρ') (hc:X.calm=ah) (hp:i5 (aB X.prog X.w) X.A X.env X.xe) (hf:∀x,aG it X.env x=pure x:=by intro _;rfl):DS X ρ (.For tg it body [] pos) P:=λσ H E R q=>by
 refine(j5y hp hc piS pgS Yi hf).to (hi σ H _ R λJ H1 g1 ok=>?_);refine⟨λi m σ' H'=>∃ρ',W i ρ'/\Rep X.K ρ' σ' H'/\Fr0 ρ ρ' H1 H'/\m=ds.length-i/\i<=ds.length,⟨ds.length,ρ,h0,R.grow g1,Fr0.refl _ _,rfl,Pq _⟩,?_⟩;rintro i m σ' H' ⟨ρ',w,R',f,rfl,hle⟩;obtain⟨go,stop,yld⟩:=ok i H' (owns ρ') f λa ha=>by obtain⟨xs,e⟩:=R'.owned a ha;rw[e];simp
 by_cases hlt:i<ds.length
 .refine .inr ⟨go hlt,λσ2 H2=>∃ρ2,W (i+1) ρ2/\Rep X.K ρ2 σ2 H2/\Fr0 ρ ρ2 H1 H2,λσ2 H2 ⟨ρ2,w2,R2,f2⟩=>⟨ds.length-(i+1),by omega,ρ2,w2,R2,f2,rfl,hlt⟩,λx H2 y=>?_⟩;obtain⟨g2,en⟩:=yld x H2 y;obtain⟨ρ2,⟨sub,hG⟩,hB⟩:=hs i ds[i] ρ' (kh hlt) w;refine hG σ' H2 x _ (R'.grow g2) (en _ (kh hlt)) λσ3 R3=>?_;have f2:Fr0 ρ ρ2 H1 H2:=j0.trans f (j0.trans (Fr0.grow g2) (Fr0.drop sub));refine hB σ3 H2 _ R3 ⟨λρ3 σ4 H4 n R4 f4=>⟨ρ3,n,R4,f2.trans f4⟩,λρ3 σ4 H4 n R4 f4=>q.nx ρ3 σ4 H4 n R4 ((Fr0.grow g1).trans (f2.trans f4)),λρ3 σ4 H4 n R4 f4=>⟨ρ3,n,R4,f2.trans f4⟩,λr v H4 n z=>q.rt r v H4 n (Ks.step ((Fr0.grow g1).trans f2) z),λx ρ3 σ4 H4 n R4 f4=>q.ex x ρ3 σ4 H4 n R4 ((Fr0.grow g1).trans (f2.trans f4))⟩
 .have e:i=ds.length:=by omega
  subst e;exact .inl ⟨stop (X3 _),q.nx ρ' σ' H' (hd ρ' w) R' ((Fr0.grow g1).trans f)⟩
end
noncomputable def qi(N:List aq)(ds:List D):Rho:=ds.map Sl.val++ak (N.length-ds.length) Sl.un
def Za(N:List aq)(ds:List D):owns (qi N ds)=[]:=by
 unfold owns qi;rw[List.filterMap_append];have h1:(ds.map Sl.val).filterMap Sl.addr=[]:=List.filterMap_eq_nil_iff.mpr λs hs=>by obtain⟨d,_,rfl⟩:=X8.mp hs;rfl
 have h2:(ak (N.length-ds.length) Sl.un).filterMap Sl.addr=[]:=List.filterMap_eq_nil_iff.mpr λs hs=>by rw[(List.mem_replicate.mp hs).2];rfl
 rw[h1,h2];rfl
def Y5{K:k96}{H:Hp}{N:List aq}{ds:List D}{vs:List V}(tb:TabOk K H)(h:j4 K H ds vs):Rep K (qi N ds) (start N vs) H:=by
 have ho:=Za N ds;have hl:=h.length;refine⟨by unfold qi start;simp[hl],λi d e=>?_,λi a l e=>?_,by rw[ho];exact eZ,λi a o y e=>?_,tb⟩
 .rw[ho,qp];unfold qi at e;by_cases z:i<ds.length
  .rw[t8 (by simpa using z),X4]at e;rw[kh z]at e;cases e;obtain⟨v,hv,en⟩:=h.get (kh z);refine⟨v,?_,en⟩;unfold start;rw[t8 (by rw[xf,hl];exact z),X4,hv];rfl
  .rw[dr (by simpa using z)]at e;have:=Xq e;cases(List.mem_replicate.mp this).2
 .have:=Qu e;rw[ho]at this;cases this
 .unfold qi at e;rcases Xw.mp (Xq e)with z|z
  .obtain⟨d,_,q⟩:=X8.mp z;cases q
  .cases(List.mem_replicate.mp z).2
section
variable{P:ay}{w:aD}{K:k96}{mg:k99}{base:aE}{x qual:aq}{st:aS}{f:aj}{fd:aL}{N ps:List aq}{k:Nat}
def M4(K:k96)(f:aj)(cdv:ai):Prop:=∃(oc:ai)(od:Option aj)(fd:aL)(sl:Array (Option ai)),K.lookup f=a8 ⟨oc,od,.func fd,sl⟩/\fd.code=cdv
def Fun.okC{sp:Sp}(F:Fun K x qual st f fd)(S:FnScope N ps (jb st))(len:∀vs H Q E,sp vs H Q E->vs.length=ps.length)
  (hbody:∀(cdv:ai)(A:aF)(outer:List d9)(s:ao)(H:Hp)(vs:List V)(Q:VK) (E:XK),M4 K f cdv->Room k (A.deeper (bD qual (jb st) s.heap.objs.size f cdv))->sp vs H Q E ->
   ∃t,PSs (zq CX0 P w K mg base N qual (jb st) f cdv A outer s H E).nox (jm st) t/\t { nx:=λ_ H'=>Q .non H',rt:=Q } (start N vs) H):FnOk P w K mg base CX0 (k+1) f fd ps sp:=by
 obtain⟨oc,od,dV,kV,doc,pm,an,cdv,ct,osl,rfl,lk,hcd⟩:=F.ex;refine jb1 lk hcd S len λA outer s H vs Q E hr hsp=>?_;obtain⟨t,h,q⟩:=hbody cdv A outer s H vs Q E ⟨oc,od,_,osl,lk,rfl⟩ hr hsp;exact⟨t,h.nox,q⟩
def K4{S:List D->D->Prop}(F:Fun K x qual st f fd)(Sc:FnScope N ps (jb st))(hl:∀ds d,S ds d->ds.length=ps.length)
  (hbody:∀(cdv:ai)(A:aF)(outer:List d9)(s:ao)(H:Hp)(E:XK),M4 K f cdv->Room k (A.deeper (bD qual (jb st) s.heap.objs.size f cdv))->∀ds d,S ds d ->
   DSs (zq CX0 P w K mg base N qual (jb st) f cdv A outer s H E).nox (qi N ds) (jm st) { nx:=λ_=>d=.non,rt:=λr=>r.d=d }):FnOk P w K mg base CX0 (k+1) f fd ps (spP K S):=by
 refine FnOk.toP (F.okC Sc (λvs H Q E ⟨ds,d,tb,en,hS,_⟩=>by rw[en.length];exact hl ds d hS) λcdv A outer s H vs Q E hcv hr ⟨ds,d,tb,en,hS,q⟩=>⟨_,Yi,?_⟩);have ho:=Za N ds;refine hbody cdv A outer s H E hcv hr ds d hS (start N vs) H _ (Y5 tb en) ⟨λρ' σ' H' n R f=>?_,λ_ _ _ z=>z.elim,λ_ _ _ z=>z.elim,λr v H' n z=>?_,λ_ _ _ _ z=>z.elim⟩
 .subst n;unfold Fr0 at f;rw[ho,qp]at f;exact q _ H' (f.trans jk) rfl
 .cases r with
  |val d' =>cases(show d'=d from n);obtain⟨g,en'⟩:=z;rw[ho,qp]at g;exact q v H' g en'
  |fresh l =>cases(show D.lst l=d from n);obtain⟨a,xs,e,g,m,en'⟩:=z;rw[ho,qp]at g;exact q v H' (g.trans jk) ⟨a,xs,e,.inl (.inl m),en'.mono jk⟩
def j9g{S:List D->List D->Prop}(F:Fun K x qual st f fd)(Sc:FnScope N ps (jb st))(hl:∀ds d,S ds d->ds.length=ps.length)
  (hbody:∀(cdv:ai)(A:aF)(outer:List d9)(s:ao)(H:Hp)(E:XK),M4 K f cdv->Room k (A.deeper (bD qual (jb st) s.heap.objs.size f cdv))->∀ds l,S ds l ->
   DSs (zq CX0 P w K mg base N qual (jb st) f cdv A outer s H E).nox (qi N ds) (jm st) { nx:=λ_=>False,rt:=λr=>r=.fresh l }):FnOk P w K mg base CX0 (k+1) f fd ps (spF K S):=by
 refine FnOk.toF (F.okC Sc (λvs H Q E ⟨ds,d,tb,en,hS,_⟩=>by rw[en.length];exact hl ds d hS) λcdv A outer s H vs Q E hcv hr ⟨ds,l,tb,en,hS,q⟩=>⟨_,Yi,?_⟩);have ho:=Za N ds;refine hbody cdv A outer s H E hcv hr ds l hS (start N vs) H _ (Y5 tb en) ⟨λρ' σ' H' n R f=>n.elim,λ_ _ _ z=>z.elim,λ_ _ _ z=>z.elim,λr v H' n z=>?_,λ_ _ _ _ z=>z.elim⟩;cases(show r=.fresh l from n);obtain⟨a,xs,e,g,m,en'⟩:=z;rw[ho,qp]at g;subst e;refine q a xs H' (g.trans jk) ?_ m en';cases y:H a with
 |none=>rfl
 |some o=>have:=g a o y;rw[qj (xm.mpr rfl)]at this;cases this
end
section
variable{prog:ay}{w:aD}{A:aF}{R:eL->ao->Prop}{s:ao}
def O1{elt target iter:au}{ifs:List au}{scope:b8}{pos:aO}{it acc:ai}{env:d9}(I:Nat->ao->Prop)
  (turn:∀n s,I n s->aw (aB prog w) A (cZ it) (λr s₁=>match r with
   |none=>R (.ok .next) s₁
   |some v=>aw (aB prog w) A (fj target it v) (λ_ s₁'=>aw (aB prog w) A (fO target env v) (λ_ s₂ =>
     aw (aB prog w) A (forIn ifs ah λc r=>if r=ah then do let ok <-gw c env (aC c env);pure (c8 ok)else pure (c8 r)) (λok s₃ =>
      if ok=ah then aw (aB prog w) A (aC elt env) (λx s₄ =>
       aw (aB prog w) A (call (.builtin "list.append") [acc,x]) (λ_ s₅=>∃m,m<n/\I m s₅) (λ_ _=>False) s₄) (λ_ _=>False) s₃
      else ∃m,m<n/\I m s₃) (λ_ _=>False) s₂) (λ_ _=>False) s₁') (λ_ _=>False) s₁) (λ_ _=>False) s)
  (n:Nat) (h:I n s) :
  bL (aB prog w) A (.compLoop (.ListComp elt [⟨target,iter,ifs,0⟩] scope pos) 0 it acc env) R s:=by
 refine codeAny_loop rfl I (λn s hI=>?_) n h;show aw _ A ((compTurn (.ListComp elt [⟨target,iter,ifs,0⟩] scope pos) 0 it acc env).onRaise (λx=>do noteFrame x env;theTreesLotGoes x)) _ _ s;refine wpAny_noted ?_;rw[compTurn_list];refine aa (gc (aa (bB (turn n s hI) (λr s₁ h₁=>?_) λ_ _ h'=>h'.elim)));cases r with
 |none=>exact ar h₁
 |some v =>
  refine aa (bB h₁ (λ_ s₁' h₁'=>?_) λ_ _ h'=>h'.elim);refine aa (bB h₁' (λ_ s₂ h₂=>aa (bB h₂ (λok s₃ h₃=>?_) λ_ _ h'=>h'.elim)) λ_ _ h'=>h'.elim);cases ok with
  |false=>exact ar ⟨rfl,h₃⟩
  |true =>exact aa (aa (bB h₃ (λx s₄ h₄=>aa (bB h₄ (λ_ s₅ h₅=>ar (ar ⟨rfl,h₅⟩)) λ_ _ h'=>h'.elim)) λ_ _ h'=>h'.elim))
end
noncomputable def zb(env:d9):List (aq×bC)->List (aq×aj)->List (aq×aj)
 |[],acc=>acc
 |(n,k)::r,acc=>zb env r (if k==.free then(match env.cells.lookup n with|some a=>(n,a)::acc|none=>acc)else acc)
def Ru{scope:b8}{env:d9}(h:∀y∈scope.names,y.2=.free->(env.cells.lookup y.1).isSome=ah):dY scope env=pure (zb env scope.names []):=by
 simp only[dY];have step:∀(names:List (aq×bC)) (acc:List (aq×aj)),(∀y∈names,y.2=.free->(env.cells.lookup y.1).isSome=ah) ->
   (forIn names acc (λx r=>(do if (x.2==bp)=ah then(do let a <-cellOf env x.1;pure (c8 ((x.1,a)::r)))else pure (c8 r):mZ _)):mZ _)=pure (zb env names acc):=by
  intro names;induction names with
  |nil=>intro acc _;rfl
  |cons y r ih =>
   intro acc hy;obtain⟨n,k⟩:=y;rw[gC];by_cases e:(k==bp)=ah
   .have hk:k=.free:=by simpa using e
    have hs:=hy (n,k) (xq ..) hk;obtain⟨a,ha⟩:=Xx.mp hs;have hc:cellOf env n=pure a:=by unfold cellOf;rw[ha]
    simp only[e,if_true,hc,pure_bind];rw[ih _ λz hz=>hy z (xg _ hz)];simp only[zb,e,if_true,ha]
   .have e':(k==bp)=a9:=by simpa using e
    simp only[e',ph,if_false,pure_bind];rw[ih _ λz hz=>hy z (xg _ hz)];simp only[zb,e',ph,if_false]
 have:=step scope.names [] h;rw[show(forIn scope.names ([]:List (aq×aj)) λx r=>_)=_ from this];rfl
theorem Ec{env:d9}{y:aq}{c:aj}:∀{names:List (aq×bC)} {acc:List (aq×aj)},(∀y c,acc.lookup y=a8 c->env.cells.lookup y=a8 c)->(zb env names acc).lookup y=a8 c->env.cells.lookup y=a8 c
 |[],acc,h,q=>h y c q
 |(n,k)::r,acc,h,q=>by
  unfold zb at q;refine Ec (acc:=_) ?_ q;intro z d hz;split at hz
  .split at hz
   .rename_i a ha;rw[Xm]at hz;split at hz
    .rename_i e;have e':z=n:=by simpa using e
     subst e';cases hz;exact ha
    .exact h z d hz
   .exact h z d hz
  .exact h z d hz
theorem Dw{env:d9}{y:aq}:∀{names:List (aq×bC)} {acc:List (aq×aj)},(acc.lookup y).isSome=ah->((zb env names acc).lookup y).isSome=ah
 |[],acc,h=>h
 |(n,k)::r,acc,h=>by
  unfold zb;refine Dw ?_;split
  .split
   .rw[Xm];split
    .rfl
    .exact h
   .exact h
  .exact h
theorem Rv{env:d9}{y:aq}(hs:(env.cells.lookup y).isSome=ah):∀{names:List (aq×bC)} {acc:List (aq×aj)},(y,bp)∈names->((zb env names acc).lookup y).isSome=ah
 |[],acc,h=>nomatch h
 |(n,k)::r,acc,h=>by
  unfold zb;rcases xr.mp h with e|h
  .cases e;refine Dw ?_;obtain⟨a,ha⟩:=Xx.mp hs;rw[if_pos (by rfl),ha];rw[Xm];simp
  .exact Rv hs h
noncomputable def v6(scope:b8)(env:d9)(N:List aq)(cs:List Nat):Bool :=
 scope.names.all (λy=>(y.2 != .cell || scope.names.lookup y.1==a8 .cell)&&(y.2 != .local || scope.names.lookup y.1==a8 .local)&&(y.2 != .free || ((env.cells.lookup y.1).isSome&&(env.kindOf y.1==a8 .cell || env.kindOf y.1==a8 .free)))) &&
 (aA N.length).all (λj=>cs.contains j || (match N[j]? with|some y=>scope.names.lookup y != a8 .local&&scope.names.lookup y != a8 .cell|none=>ah))
def lookup_mem{α β:Type}[BEq α][LawfulBEq α]{l:List (α×β)}{a:α}{b:β}(h:l.lookup a=a8 b):(a,b)∈l:=by
 induction l with
 |nil=>cases h
 |cons x r ih =>
  obtain⟨c,d⟩:=x;rw[Xm]at h;split at h
  .rename_i e;cases h;have e':a=c:=by simpa using e
   subst e';exact xq ..
  .exact xg _ (ih h)
theorem Jf{env:d9}{x:aq}{k':bC}:∀{names:List (aq×bC)},
  (names.map λ(n,k)=>if (k==bp&&env.scope.kind==.function&&env.kindOf n==a8 .cell) then(n,bJ) else(n,k)).lookup x=a8 k' ->
  ∃k,names.lookup x=a8 k/\(k'=k\/(k=.free/\k'=.cell))
 |[],h=>by cases h
 |(n,k)::r,h=>by
  rw[X5]at h;rw[Xm];by_cases hc:(k==bp&&env.scope.kind==.function&&env.kindOf n==a8 .cell)=ah
  .dsimp only at h;rw[if_pos hc,Xm]at h;cases e:x==n with
   |true =>
    rw[e]at h;cases h;have:(k==bp)=ah:=by
     cases z:k==bp with
     |true=>rfl
     |false=>rw[z]at hc;simp at hc
    exact⟨k,rfl,.inr ⟨by simpa using this,rfl⟩⟩
   |false=>rw[e]at h;exact Jf h
  .dsimp only at h;rw[if_neg hc,Xm]at h;cases e:x==n with
   |true=>rw[e]at h;cases h;exact⟨_,rfl,.inl rfl⟩
   |false=>rw[e]at h;exact Jf h
theorem Ui:∀(names:List (aq×bC)) (n:Nat) (acc:List (aq×aj)),aT n names acc=aT n names []++acc
 |[],_,_=>rfl
 |(x,k)::r,n,acc=>by
  unfold aT;split
  .rw[Ui r (n+1) ((x,n)::acc),Ui r (n+1) [(x,n)],T8];rfl
  .exact Ui r n acc
theorem Dy:∀{names:List (aq×bC)} {n:Nat} {x:aq} {c:aj},(x,c)∈aT n names []->(x,bJ)∈names/\n<=c
 |[],_,_,_,h=>nomatch h
 |(y,k)::r,n,x,c,h=>by
  unfold aT at h;split at h
  .rename_i hk;rw[Ui]at h;rcases Xw.mp h with h|h
   .have q:=Dy h;exact⟨xg _ q.1,Nat.le_of_succ_le q.2⟩
   .cases xm.mp h;have hk:k=bJ:=by simpa using hk
    subst hk;exact⟨xq ..,X3 _⟩
  .have q:=Dy h;exact⟨xg _ q.1,q.2⟩
theorem Yt{β:Type}:∀{l m:List (aq×β)} {y:aq},(l++m).lookup y=(l.lookup y).or (m.lookup y)
 |[],m,y=>rfl
 |(x,b)::r,m,y=>by
  rw[c7,Xm,Xm];split
  .rfl
  .exact Yt
def Ed{names:List (aq×bC)}{n:Nat}{acc:List (aq×aj)}{y:aq}{c:aj}(h:(aT n names acc).lookup y=a8 c) :
  ((y,c)∈aT n names []/\(y,bJ)∈names/\n<=c)\/((aT n names []).lookup y=ae/\acc.lookup y=a8 c):=by
 rw[Ui,Yt]at h;cases e:(aT n names []).lookup y with
 |some c'=>rw[e]at h;cases h;have q:=lookup_mem e;exact .inl ⟨q,Dy q⟩
 |none=>rw[e]at h;exact .inr ⟨rfl,h⟩
def jhs{names:List (aq×bC)}{n:Nat}{acc:List (aq×aj)}{y:aq}(h:(y,bJ)∉names):(aT n names acc).lookup y=acc.lookup y:=by
 rw[Ui,Yt];cases e:(aT n names []).lookup y with
 |some c'=>exact absurd (Dy (lookup_mem e)).1 h
 |none=>rfl
def jdx{names:List (aq×bC)}{n:Nat}{acc:List (aq×aj)}{y:aq}(h:(acc.lookup y).isSome=ah):∃c,(aT n names acc).lookup y=a8 c:=by
 rw[Ui,Yt];cases e:(aT n names []).lookup y with
 |some c'=>exact⟨c',rfl⟩
 |none=>obtain⟨c,hc⟩:=Xx.mp h;exact⟨c,hc⟩
def j18{M:iK}{A:aF}{E:k97}{s:ao}{scope:b8}{globals:aj}{closure:List (aq×aj)}{qual:aq}{env:d9}{Q:d9->ao->Prop}
  (hQ:Q { scope:=scope,locals:=s.heap.objs.size,globals:=globals,cells:=aT (s.heap.objs.size+1) scope.names closure,qual:=qual,func:=ae,code:=env.code,frame:=env.frame,builtins:=env.builtins }
   { s with heap:=jG (s.heap.push { cls:=.type "dict",data:=.dict #[] }) scope.names }) :
  aw M A (dX scope globals closure [] qual ae .none (a8 env)) Q E s:=by
 simp only[dX,fm,if_true];refine aa (wpAny_alloc ?_);refine aa (wpAny_layCells _ (λname kind cells=>by cases hkc:kind==bJ<;>simp[hkc]) _ _ _ _ ?_);rw[show({ s with heap:=s.heap.push { cls:=.type "dict",data:=.dict #[] } }:ao).heap.objs.size=s.heap.objs.size+1 from Pg ..];exact aa (ar (ar hQ))
noncomputable abbrev cCx(X:Cx)(scope:b8)(C:aj)(s:ao)(H:Hp)(fp:List aj)(pn:k98):Cx :=
 { X with env:=kz scope (aT (C+1) scope.names (zb X.env scope.names [])) C X.env,s₀:=s,H₀:=H,outer:=X.stack,stack:=X.stack,ex:=fp,fn:=λx=>scope.names.lookup x==a8 .cell,pn:=pn,xe:=λ_ _=>False }
noncomputable def Vv(scope:b8)(y:aq):Bool:=scope.names.lookup y==a8 .local || scope.names.lookup y==a8 .cell
theorem Ve{env:d9}:∀{names:List (aq×bC)} {x:aq},names.lookup x=a8 .cell ->
  (names.map λ(n,k)=>if (k==bp&&env.scope.kind==.function&&env.kindOf n==a8 .cell) then(n,bJ) else(n,k)).lookup x=a8 .cell
 |[],_,h=>by simp at h
 |(n,k)::r,x,h=>by
  have ih:=@Ve env r x;rw[X5];cases hx:x==n with
  |true =>simp only[Xm,hx]at h;cases h;simp[Xm,hx]
  |false =>
   simp only[Xm,hx]at h;dsimp only;by_cases hc:(k==bp&&env.scope.kind==.function&&env.kindOf n==a8 .cell)=ah
   .rw[if_pos hc];simp only[Xm,hx];exact ih h
   .rw[if_neg hc];simp only[Xm,hx];exact ih h
def Vh{X:Cx}{scope:b8}{C:aj}{s:ao}{H:Hp}{fp:List aj}{pn:k98}{y:aq}(h:Vv scope y=ah):Loc (cCx X scope C s H fp pn).env.scope y:=by
 unfold Vv at h;rw[cC]at h;rcases h with h|h
 .exact .inl (kx (by simpa using h))
 .exact .inr (Ve (by simpa using h))
def U5{X:Cx}{scope:b8}{C:aj}{s:ao}{H:Hp}{fp:List aj}{pn:k98}{y:aq}(h:Vv scope y=ah):(cCx X scope C s H fp pn).fn y=ah\/(cCx X scope C s H fp pn).env.scope.names.lookup y=a8 .local:=by
 unfold Vv at h;rw[cC]at h;rcases h with h|h
 .exact .inr (kx (by simpa using h))
 .exact .inl h
def DTs(X:Cx)(ρ:Rho)(ifs:List au)(b:Bool):Prop:=match ifs with
 |[]=>b=ah
 |[c]=>DB X ρ c b
 |_=>False
def DTs.nil{X:Cx}{ρ:Rho}:DTs X ρ [] ah:=rfl
def DTs.one{X:Cx}{ρ:Rho}{c:au}{b:Bool}(h:DB X ρ c b):DTs X ρ [c] b:=h
def DTs.run{X:Cx}{ρ:Rho}{ifs:List au}{b:Bool}(h:DTs X ρ ifs b){pins:k98}{σ:St}{H:Hp}{s:ao}(I:Inv X pins σ H s)(R:Rep X.K ρ σ H) :
  aw (aB X.prog X.w) X.A (forIn ifs ah λc r=>if r=ah then do let ok <-gw c X.env (aC c X.env);pure (c8 ok)else pure (c8 r)) (λok s'=>ok=b/\∃H',Inv X pins σ H' s'/\j0 H H') X.xe s:=by
 match ifs,h with
 |[],h=>exact wpAny_tests_nil ⟨h.symm,H,I,j0.refl H⟩
 |[c],h=>exact wpAny_tests_one (thn (h σ H (λk H'=>k=b/\j0 H H') R (λH' g=>⟨rfl,g⟩) pins s I) λk s' ⟨H',I',e,g⟩=>⟨e,H',I',g⟩)
def Rep.weaken{K:k96}{ρ:Rho}{σ σ':St}{H:Hp}(R:Rep K ρ σ H)(hl:σ'.length=σ.length)(h:∀(i:Nat),ρ[i]?≠a8 .un->σ'[i]?=σ[i]?):Rep K ρ σ' H :=
 ⟨by rw[hl,R.len],λi d e=>let ⟨v,q,z⟩:=R.val i d e;⟨v,by rw[h i (by rw[e];simp)];exact q,z⟩,λi a ds e=>let ⟨q,z⟩:=R.own i a ds e;⟨by rw[h i (by rw[e];simp)];exact q,z⟩,R.nd,λi a o x e=>let ⟨q,z⟩:=R.raw i a o x e;⟨by rw[h i (by rw[e];simp)];exact q,z⟩,R.tb⟩
noncomputable def mask(cs:List Nat)(σ:St):St:=σ.mapIdx λj v=>if cs.contains j then ae else v
def W0(cs:List Nat)(σ:St):(mask cs σ).length=σ.length:=by unfold mask;simp
def j8u{cs:List Nat}{σ:St}{j:Nat}{v:V}(h:(mask cs σ)[j]?=a8 (a8 v)):j∉cs/\σ[j]?=a8 (a8 v):=by
 unfold mask at h;rw[iZ]at h;cases e:σ[j]? with
 |none=>rw[e]at h;cases h
 |some u =>
  rw[e]at h;have h':(if cs.contains j then ae else u)=a8 v:=az h;by_cases z:cs.contains j=ah
  .rw[if_pos z]at h';cases h'
  .rw[if_neg z]at h';subst h';exact⟨λy=>z (by simpa using y),rfl⟩
def Ni{cs:List Nat}{σ:St}{j:Nat}(h:j∉cs):(mask cs σ)[j]?=σ[j]?:=by
 unfold mask;rw[iZ];cases e:σ[j]? with
 |none=>rfl
 |some u=>simp[h]
def Wk(ρ2 ρ:Rho):Prop:=∀K σ H,Rep K ρ2 σ H->Rep K ρ σ H
def Ju(H:Hp)(A B:List aj):del (del H A) B=del H (A++B):=funext λb=>by unfold del;by_cases h1:b∈A<;>by_cases h2:b∈B<;>simp[h1,h2]
structure Loose(X:Cx)(pins:k98)(H:Hp)(C:aj):Prop where
 free:H C=ae
 loc:C≠X.env.locals
 new:X.s₀.heap.objs.size<=C
 cell:∀x c,X.env.cells.lookup x=a8 c->c≠C
 pin:∀p∈X.pn++pins,p.1≠C
section
variable{X:Cx}{pins:k98}{σ:St}{H2:Hp}{s2:ao}{ρ:Rho}{tg elt iter:au}{ifs:List au}{scope:b8}{pos:aO}{ds:List D}{cs:List Nat}{p:D->Bool}{g:D->D}
def j1t{J:It}{fp:List aj}{it:aj}{tn:Nat->aE->Prop}(I2:Inv X pins σ H2 s2)(T:Turn X.prog X.w X.K tg J fp it tn)(st2:tn 0 s2.heap)(f2:∀b∈fp,Jk X pins H2 b)
  (hkind:scope.kind=.function) (hok:v6 scope X.env X.N cs=ah) {E:k97} {RR:ai->aj->eL->ao->Prop}
  (hk:∀(C Dd:aj)(h₁:aE),(cCx X scope C s2 H2 fp (X.pn++pins)).Ok->Inv (cCx X scope C s2 H2 fp (X.pn++pins)) [] (mask cs σ) (upd H2 Dd (.lst [])) { s2 with heap:=h₁ }->s2.heap.objs.size=Dd->Dd<C->H2 Dd=ae->(∀b o,s2.heap.get? b=a8 o->h₁.get? b=a8 o) ->
   bL (aB X.prog X.w) X.A (.compLoop (.ListComp elt [⟨tg,iter,ifs,0⟩] scope pos) 0 (.ref it) (.ref Dd) (kz scope (aT (C+1) scope.names (zb X.env scope.names [])) C X.env)) (RR (.ref Dd) C) { s2 with heap:=h₁ }) :
  aw (aB X.prog X.w) X.A (jX []) (λacc s₃=>aw (aB X.prog X.w) X.A (dX scope X.env.globals (zb X.env scope.names []) [] X.env.qual ae .none (a8 X.env)) (λcenv s₄=>cenv.frame=X.env.frame /\
   bL (aB X.prog X.w) X.A (.compStart (.ListComp elt [⟨tg,iter,ifs,0⟩] scope pos) 0 (.ref it) acc { cenv with scope:=jW scope X.env }) (RR acc cenv.locals) s₄) E s₃) E s2:=by
 unfold v6 at hok;rw[Xe]at hok;obtain⟨hn,hN⟩:=hok;have hn':∀y∈scope.names,(y.2=.cell->scope.names.lookup y.1=a8 .cell)/\(y.2=.free->(X.env.cells.lookup y.1).isSome=ah/\(X.env.kindOf y.1=a8 .cell\/X.env.kindOf y.1=a8 .free)):=λy hy=>by have:=Pj.mp hn y hy;simp only[Xe,bne_iff_ne,ne_eq,cC,beq_iff_eq]at this;obtain⟨⟨a,_⟩,c⟩:=this;exact⟨λe=>a.elim (λz=>absurd e z) id,λe=>c.elim (λz=>absurd e z) id⟩
 have nocell:∀{y:aq},scope.names.lookup y=a8 .free->(y,bJ)∉scope.names:=λ{y} h z=>by have q:=(hn' _ z).1 rfl;rw[h]at q;cases q
 have hloc:∀(j:Nat)(y:aq),X.N[j]?=a8 y->j∉cs->scope.names.lookup y≠a8 .local/\scope.names.lookup y≠a8 .cell:=λj y hj hc=>by
  have hlt:j<X.N.length:=(X6.mp hj).1;have:=Pj.mp hN j (Xb.mpr hlt);rw[hj]at this;simp only[cC,Xe,bne_iff_ne,ne_eq]at this;rcases this with z|z
  .exact absurd (by simpa using z) hc
  .exact z
 have cl_of:∀{y:aq}{c:aj},(zb X.env scope.names []).lookup y=a8 c->X.env.cells.lookup y=a8 c:=λ{y c} h=>Ec (λ_ _ z=>by cases z) h;refine aR (j18 ?_);dsimp only;generalize hH2:s2.heap.push { cls:=.type "list",dict:=ae,data:=.seq ([]:List ai).toArray }=hp2;have keep1:∀b o,hp2.get? b=a8 o->(jG (hp2.push { cls:=.type "dict",data:=.dict #[] }) scope.names).get? b=a8 o:=λb o e=>mI _ _ b o (km _ e);have hns₁:(jG (hp2.push { cls:=.type "dict",data:=.dict #[] }) scope.names).Ns hp2.objs.size (λ_=>ae):=(Heap.Ns.new hp2 (.type "dict")).keeps (mI _ _);have okl:=cellsFrom_ok scope.names (hp2.push { cls:=.type "dict",data:=.dict #[] }) (hp2.objs.size+1) [] ⟨λ_ _ hm=>(nomatch hm),List.Pairwise.nil⟩ (by rw[Pg];exact X3 _);rw[Pg]at okl;generalize jG (hp2.push { cls:=.type "dict",data:=.dict #[] }) scope.names=h₁ at keep1 hns₁ okl ⊢;have hC:hp2.objs.size=s2.heap.objs.size+1:=by rw[<-hH2,Pg]
 have hDC:s2.heap.objs.size≠hp2.objs.size:=by rw[hC];exact Xa (cj _)
 have hCle:s2.heap.objs.size<=hp2.objs.size:=by rw[hC];exact Pn _
 have below:∀b,b<s2.heap.objs.size->b≠hp2.objs.size/\b≠s2.heap.objs.size:=λb hb=>⟨by rw[hC];exact Xa (Tz hb),Xa hb⟩
 have old:∀b o,s2.heap.get? b=a8 o->h₁.get? b=a8 o:=λb o e=>keep1 b o (hH2▸km _ e);have hacc:h₁.get? s2.heap.objs.size=a8 { cls:=.type "list",dict:=ae,data:=.seq ([]:List ai).toArray }:=keep1 _ _ (hH2▸xu _ rfl);have none_of:∀b,s2.heap.objs.size<=b->s2.heap.get? b=ae:=λb hb=>by
  cases e:s2.heap.get? b with
  |none=>rfl
  |some o'=>exact absurd (xn e) (Nat.not_lt.mpr hb)
 have hD0:H2 s2.heap.objs.size=ae:=I2.fresh;generalize hDd:s2.heap.objs.size=Dd at *;generalize hCc:hp2.objs.size=C at *;have hC0:H2 C=ae:=I2.hok.fresh (by rw[hDd];exact hCle);have pinlt:∀p∈X.pn++pins,p.1<Dd:=λp hp=>by rw[<-hDd];exact xn (I2.pin p hp).1
 have celllt:∀y c,X.env.cells.lookup y=a8 c->c<Dd:=λy c h=>by obtain⟨v,o,e,_⟩:=I2.cell y c h;rw[<-hDd];exact xn e
 have loclt:X.env.locals<Dd:=by rw[<-hDd];exact I2.lt
 have fplt:∀b∈fp,b<Dd:=λb hb=>by obtain⟨o,e,_⟩:=T.obj _ _ st2 b hb;rw[<-hDd];exact xn e
 have hDlt:Dd<C:=by omega
 have cellD:∀{y:aq}{c:aj},(aT (C+1) scope.names (zb X.env scope.names [])).lookup y=a8 c->((y,c)∈aT (C+1) scope.names []/\C+1<=c)\/X.env.cells.lookup y=a8 c:=λ{y c} h=>by
  rcases Ed h with ⟨q,_,z⟩|⟨_,q⟩
  .exact .inl ⟨q,z⟩
  .exact .inr (cl_of q)
 have celln:∀{y:aq}{c b:aj},(aT (C+1) scope.names (zb X.env scope.names [])).lookup y=a8 c->b<Dd->(∀c,X.env.cells.lookup y=a8 c->c≠b)->c≠b:=λ{y c b} h hb ho=>by
  rcases cellD h with ⟨_,z⟩|q
  .exact Pb (pq hb (pq hDlt (sr z)))
  .exact ho c q
 have okc:(cCx X scope C s2 H2 fp (X.pn++pins)).Ok:={
  mod:=I2.ok.mod
  kind:=hkind
  glob:=I2.ok.glob
  blt:=I2.ok.blt
  above:=by show s2.heap.objs.size<=C;rw[hDd];exact hCle
  inj:=λx y c h1 h2=>by
   rcases cellD h1 with ⟨m1,z1⟩|q1<;>rcases cellD h2 with ⟨m2,z2⟩|q2
   .exact name_of_addr okl.apart m1 m2
   .exact absurd (pq (celllt y c q2) (pq hDlt (sr z1))) (Ph _)
   .exact absurd (pq (celllt x c q1) (pq hDlt (sr z2))) (Ph _)
   .exact I2.ok.inj x y c q1 q2
  has:=λx h=>by
   have key:∀k',(jW scope X.env).names.lookup x=a8 k'->(k'=.cell\/k'=.free)->∃c,(aT (C+1) scope.names (zb X.env scope.names [])).lookup x=a8 c:=λk' hk hk'=>by
    obtain⟨k,hl,e⟩:=Jf hk
    have hm:=lookup_mem hl
    have hk0:k=.free\/k=.cell:=by
     rcases e with e|e
     .subst e
      exact hk'.symm
     .exact .inl e.1
    rcases hk0 with hk0|hk0
    .subst hk0
     exact jdx (Rv ((hn' _ hm).2 rfl).1 hm)
    .subst hk0
     exact Xx.mp (W.cellsFrom_some _ _ _ (.inl hl))
   rcases h with h|h
   .exact key _ h (.inl rfl)
   .exact key _ h (.inr rfl)
  cab:=λx c h h2=>by
   have hx:scope.names.lookup x=a8 .cell:=by simpa using h
   show s2.heap.objs.size<=c
   rw[hDd]
   rcases Ed h2 with ⟨_,_,z⟩|⟨z,_⟩
   .exact dk (pq hDlt (sr z))
   .obtain⟨c',hc'⟩:=Xx.mp (W.cellsFrom_some scope.names (C+1) [] (.inl hx))
    rw[z]at hc';cases hc'
  hd:=I2.ok.hd
  frames:=I2.ok.frames
  stk:=.inl rfl
  exf:=λb hb=>⟨Xa (pq (fplt b hb) hDlt),λx c h=>celln h (fplt b hb) λc q=>(f2 b hb).2.2.2.2.1 x c q⟩
  bs:=I2.bs
  bsz:=Xg I2.ok.bsz I2.sz
  noex:=λb o e hb=>by
   rcases(f2 b hb).2.2.2.1 with z|z
   .exact I2.ok.noex b o e z
   .exact absurd (xn e) (Nat.not_lt.mpr (Xg I2.ok.bsz z))
  exfs:=λb hb hf=>by
   rcases xr.mp (I2.stkSub b hf)with z|z
   .exact(f2 b hb).2.1 z
   .exact(f2 b hb).2.2.1 z
  funs:=I2.stack
  frf:=I2.stkFree }
 have hpush:HOk X.prog X.w (upd H2 Dd (.lst [])) h₁:=HOk.laid I2.hok old (by rw[hDd];exact X3 _) ⟨Pq _,[],_,.nil,hacc⟩;have I0:Inv (cCx X scope C s2 H2 fp (X.pn++pins)) [] (mask cs σ) (upd H2 Dd (.lst [])) { s2 with heap:=h₁ }:={
  ok:=okc
  os:=rfl
  bare:=I2.bare
  base:=Un.laid old (by rw[hDd];exact X3 _) hD0
  loc:=by
   refine⟨_,hns₁,λj y v hj hv hvis=>?_⟩
   obtain⟨hjc,hσ⟩:=j8u hv
   obtain⟨m,hm,hlook⟩:=I2.loc
   have key:∀k',(jW scope X.env).names.lookup y=a8 k'->scope.names.lookup y=a8 .free:=λk' hk=>by
    obtain⟨k,hl,e⟩:=Jf hk
    have hmm:=lookup_mem hl
    have:k=.free:=by
     rcases e with e|e
     .subst e
      rcases hvis with z|z|z
      .have z:=hk.symm.trans z;cases z;exact absurd hl (hloc j y hj hjc).1
      .have z:=hk.symm.trans z;cases z;exact absurd hl (hloc j y hj hjc).2
      .have z:=hk.symm.trans z;cases z;rfl
     .exact e.1
    rw[hl,this]
   have hfree:scope.names.lookup y=a8 .free:=by rcases hvis with z|z|z<;>exact key _ z
   have hmm:=lookup_mem hfree
   obtain⟨hs,hk⟩:=(hn' _ hmm).2 rfl
   have hvis':Vis X.env.scope y:=by rcases hk with z|z;exact .inr (.inl z);exact .inr (.inr z)
   obtain⟨u,ru,look⟩:=hlook j y v hj hσ hvis'
   refine⟨u,ru,?_⟩
   rcases look with ⟨z,_⟩|⟨_,c,hcl,hcv⟩
   .rcases hk with y'|y'<;>rw[y']at z<;>cases z
   .refine .inr ⟨?_,c,?_,?_⟩
    .rcases hvis with z|z|z
     .exfalso
      obtain⟨k,hl,e⟩:=Jf z
      rw[hfree]at hl;cases hl
      rcases e with e|e
      .cases e
      .cases e.2
     .exact .inl z
     .exact .inr z
    .obtain⟨c',hc'⟩:=Xx.mp (Rv (acc:=[]) hs hmm)
     have:=cl_of hc'
     rw[hcl]at this;cases this
     exact(jhs (nocell hfree)).trans hc'
    .obtain⟨o,e,d⟩:=hcv
     exact⟨o,old _ _ e,d⟩
  cell:=λx c h=>by
   rcases cellD h with ⟨q,_⟩|q
   .exact⟨_,(okl.empty x c q).1⟩
   .obtain⟨v,o,e,d⟩:=I2.cell x c q
    exact⟨v,o,old _ _ e,d⟩
  free:=by show upd H2 Dd (.lst []) C=ae;rw[jd (Pb hDlt)];exact hC0
  freeC:=λx c h=>by
   rcases cellD h with ⟨_,z⟩|q
   .rw[jd (Pb (pq hDlt (sr z)))];exact I2.hok.fresh (by rw[hDd];exact dk (pq hDlt (sr z)))
   .rw[jd (Xa (celllt x c q))];exact I2.freeC x c q
  pin:=λp hp=>by
   rw[Xn]at hp
   obtain⟨h1,h2,h3,h4,h5⟩:=I2.pin p hp
   have hlt:=pinlt p hp
   refine⟨old _ _ h1,by rw[jd (Xa hlt)];exact h2,Xa (pq hlt hDlt),λz=>?_,h5⟩
   rcases xr.mp (I2.stkSub _ z)with y|y
   .exact h3 y
   .exact h4 y
  hok:=hpush
  len:=by rw[W0];exact I2.len }
 have go:=hk C Dd h₁ okc I0 rfl hDlt hD0 old;exact⟨rfl,codeAny_compStart_list go (T.self _ 0 _ _ _ (T.keep _ _ _ st2 (λb _ o e=>old b o e)) go)⟩
def Ea{J:It}{fp:List aj}{it:aj}{tn:Nat->aE->Prop}(I2:Inv X pins σ H2 s2)(R2:Rep X.K ρ σ H2)(T:Turn X.prog X.w X.K tg J fp it tn)(st2:tn 0 s2.heap)(f2:∀b∈fp,Jk X pins H2 b)
  (ok:Vc X.K (del H2 (owns ρ)) J ds) (hc:X.calm=ah) (hkind:scope.kind=.function) (hok:v6 scope X.env X.N cs=ah) (hcs:∀j∈cs,ρ[j]?=a8 .un) (hsz:ds.length<=av)
  (hb:∀C s H fp pn,∀d∈ds,∃ρ2,DG (cCx X scope C s H fp pn) ρ tg d ρ2/\Wk ρ2 ρ/\owns ρ2=owns ρ/\DTs (cCx X scope C s H fp pn) ρ2 ifs (p d)/\(p d=ah->DE (cCx X scope C s H fp pn) ρ2 elt (g d)))
  {E:k97} {RR:ai->aj->eL->ao->Prop}
  (hRR:∀D C xs H' s' m,Inv X pins σ H' s'->j0 H2 H'->H2 D=ae->H' D=a8 (.lst xs)->j4 X.K (del H' (D::owns ρ)) ((ds.filter p).map g) xs->s'.heap.Ns C m->Loose X pins H' C->RR (.ref D) C (.ok .next) s') :
  aw (aB X.prog X.w) X.A (jX []) (λacc s₃=>aw (aB X.prog X.w) X.A (dX scope X.env.globals (zb X.env scope.names []) [] X.env.qual ae .none (a8 X.env)) (λcenv s₄ =>
   bL (aB X.prog X.w) X.A (.compStart (.ListComp elt [⟨tg,iter,ifs,0⟩] scope pos) 0 (.ref it) acc { cenv with scope:=jW scope X.env }) (RR acc cenv.locals) s₄) E s₃) E s2:=by
 refine thn (j1t (RR:=RR) I2 T st2 f2 hkind hok λC Dd h₁ okc I0 hDd hDlt hD0 old=>?_) λacc s₃ h=>thn h λcenv s₄ h=>h.2;have hDlt:@LT.lt Nat _ Dd C:=hDlt;have pinlt:∀p∈X.pn++pins,p.1<Dd:=λp hp=>by rw[<-hDd];exact xn (I2.pin p hp).1
 have celllt:∀y c,X.env.cells.lookup y=a8 c->c<Dd:=λy c h=>by obtain⟨v,o,e,_⟩:=I2.cell y c h;rw[<-hDd];exact xn e
 have loclt:X.env.locals<Dd:=by rw[<-hDd];exact I2.lt
 have fplt:∀b∈fp,b<Dd:=λb hb=>by obtain⟨o,e,_⟩:=T.obj _ _ st2 b hb;rw[<-hDd];exact xn e
 have hDo:Dd∉owns ρ:=R2.fresh hD0;have fpok:∀{H':Hp},(∀b∈fp,H' b=ae)->∀b∈fp,Jk (cCx X scope C s2 H2 fp (X.pn++pins)) [] H' b:=λ{H'} hn b hb =>⟨hn b hb,(okc.exf b hb).1,okc.exfs b hb,.inl hb,(okc.exf b hb).2,λp hp=>by rw[Xn]at hp;exact(f2 b hb).2.2.2.2.2 p hp⟩
 have R0:Rep X.K ρ (mask cs σ) H2:=R2.weaken (W0 _ _) λj hj=>Ni λz=>hj (hcs j z);have e0:del (upd H2 Dd (.lst [])) [Dd]=H2:=by
  rw[Vq (xm.mpr rfl)]
  funext b
  by_cases z:b∈[Dd]
  .rw[qj z,xm.mp z,hD0]
  .exact j7 z
 have loop:∀s₃:ao,s₃={ s2 with heap:=h₁ } ->
   bL (aB X.prog X.w) X.A (.compLoop (.ListComp elt [⟨tg,iter,ifs,0⟩] scope pos) 0 (.ref it) (.ref Dd) (kz scope (aT (C+1) scope.names (zb X.env scope.names [])) C X.env)) (RR (.ref Dd) C) s₃:=by
  rintro s₃ rfl;refine O1 (λn s=>∃i σ' H' ys,Inv (cCx X scope C s2 H2 fp (X.pn++pins)) [] σ' H' s/\tn i s.heap/\(∀b∈fp,H' b=ae)/\i<=ds.length/\n=ds.length-i/\Rep X.K ρ σ' (del H' [Dd])/\j0 H2 (del H' [Dd])/\H' Dd=a8 (.lst ys) /\
   j4 X.K (del H' (Dd::owns ρ)) (((ds.take i).filter p).map g) ys) ?_ ds.length
   ⟨0,mask cs σ,upd H2 Dd (.lst []),[],I0,T.keep _ _ _ st2 (λb _ o e=>old b o e),λb hb=>by rw[jd (Xa (fplt b hb))];exact(f2 b hb).1,Pq _,rfl,by rw[e0];exact R0,by rw[e0];exact j0.refl _,j8,rfl⟩
  rintro n s3 ⟨i,σ3,H3,ys,I3,st3,fr3,hle,rfl,R3,g3,m3,en3⟩;have F3:j0 (del H2 (owns ρ)) (del H3 (Dd::owns ρ)):=by
   have:del H3 (Dd::owns ρ)=del (del H3 [Dd]) (owns ρ):=by rw[Ju];rfl
   rw[this];exact je g3
  obtain⟨go,stop,yld⟩:=ok i H3 (Dd::owns ρ) F3 λa ha=>by
   rcases xr.mp ha with e|ha
   .rw[e,m3];simp
   .obtain⟨xs,e⟩:=R3.owned a ha;rw[(of_del e).2];simp
  by_cases hlt:i<ds.length
  .refine thn (T.item (cCx X scope C s2 H2 fp (X.pn++pins)) rfl rfl rfl hc i [] s3 σ3 H3 (λ_ _=>False) I3 (fpok fr3) st3 (go hlt)) λr s4 ⟨u,hr,h4⟩=>?_;subst hr;refine thn h4 λ_ s5 ⟨x,H5,I5,r5,y5,st5,fr5⟩=>?_;obtain⟨g5,en5⟩:=yld x H5 y5;have hd:ds[i]?=a8 ds[i]:=kh hlt;obtain⟨ρ2,⟨sub,hG⟩,wk,eo,hT,hE⟩:=hb C s2 H2 fp (X.pn++pins) ds[i] (Xr hlt);have m5:H5 Dd=a8 (.lst ys):=g5 _ _ m3;have hA:∀a∈[Dd],Hd (H5 a):=λa ha=>.inl ⟨ys,by rw[xm.mp ha];exact m5⟩;have I5p:=I5.pinned (fpok fr5) (T.obj _ _ st5);have I5h:=I5p.hide hA;have R5:Rep X.K ρ σ3 (del H5 [Dd]):=R3.grow (je g5);have en5':Enc X.K (del (del H5 [Dd]) (owns ρ)) ds[i] x:=by rw[Ju];exact en5 _ hd
   refine thn (hG σ3 (del H5 [Dd]) x (λσ6 F6=>F6=del H5 [Dd]/\Rep X.K ρ2 σ6 F6) R5 en5' (λσ6 R6=>⟨rfl,R6⟩) _ s5 u I5h r5) λ_ s6 ⟨σ6,F6,I6,e6,R6⟩=>?_;subst e6;refine thn (hT.run I6 R6) λokv s7 ⟨e7,F7,I7,g7⟩=>?_;subst e7;have R7:Rep X.K ρ σ6 F7:=wk _ _ _ (R6.grow g7);have g27:j0 H2 F7:=g3.trans ((je g5).trans g7);have en7:j4 X.K (del F7 (owns ρ)) (((ds.take i).filter p).map g) ys:=en3.mono (by
    have:del H3 (Dd::owns ρ)=del (del H3 [Dd]) (owns ρ):=by rw[Ju];rfl
    rw[this];exact je ((je g5).trans g7))
   have ig:∀{F:Hp}{s':ao},Inv (cCx X scope C s2 H2 fp (X.pn++pins)) ([]++Y8 fp s5.heap) σ6 F s'->Inv (cCx X scope C s2 H2 fp (X.pn++pins)) [] σ6 F s'/\tn (i+1) s'.heap/\∀b∈fp,F b=ae:=λ{F s'} I=>by refine⟨I.unpinned,T.keep _ _ _ st5 λb hb o e=>(I.pin (b,o) (Xc _ (Xc _ (Je hb e)))).1,λb hb=>?_⟩;obtain⟨o,e,d⟩:=T.obj _ _ st5 b hb;exact(I.pin (b,o) (Xc _ (Xc _ (Je hb e)))).2.1
   have tk:ds.take (i+1)=ds.take i++[ds[i]]:=by rw[su,hd];rfl
   cases hp:p ds[i] with
   |false =>
    rw[if_neg xj];obtain⟨hF,I8⟩:=I5p.unhide hA I7;obtain⟨I9,st9,fr9⟩:=ig I8;refine⟨ds.length-(i+1),by omega,i+1,σ6,_,ys,I9,st9,fr9,hlt,rfl,by rw[Vr hF];exact R7,by rw[Vr hF];exact g27,by rw[J4 (xm.mpr rfl)];exact m5,?_⟩;have:del (mrg [Dd] H5 F7) (Dd::owns ρ)=del F7 (owns ρ):=by
     have e:del (mrg [Dd] H5 F7) (Dd::owns ρ)=del (del (mrg [Dd] H5 F7) [Dd]) (owns ρ):=by rw[Ju];rfl
     rw[e,Vr hF]
    rw[this,tk,fF];have e:[ds[i]].filter p=[]:=by simp[hp]
    rw[e,Xn];exact en7
   |true =>
    rw[if_pos rfl];refine thn (hE hp σ6 F7 (λv F8=>j0 F7 F8/\Enc X.K (del F8 (owns ρ2)) (g ds[i]) v) (R6.grow g7) (λv F8 g8 e8=>⟨g8,e8⟩) _ s7 I7) λy s8 ⟨v,F8,I8,r8,g8,e8⟩=>?_;obtain⟨hF,I8'⟩:=I5p.unhide hA I8;rw[eo]at e8;have eH:del (mrg [Dd] H5 F8) (Dd::owns ρ)=del F8 (owns ρ):=by
     have e:del (mrg [Dd] H5 F8) (Dd::owns ρ)=del (del (mrg [Dd] H5 F8) [Dd]) (owns ρ):=by rw[Ju];rfl
     rw[e,Vr hF]
    have hlen:ys.length<av:=by have e1:=en7.length;have e2:((ds.take i).filter p).length<=(ds.take i).length:=Te _ _;rw[xf]at e1;rw[Pa]at e2;omega
    refine thn (Ml _ s8 σ6 (mrg [Dd] H5 F8) (.ref Dd) [v] (.ref Dd) [y] (λ_ H9=>H9=upd (mrg [Dd] H5 F8) Dd (.lst (ys++[v]))) I8' rfl (.cons r8 .nil)
     ⟨Dd,ys,v,rfl,rfl,by rw[J4 (xm.mpr rfl)];exact m5,hlen,rfl⟩) λ_ s9 ⟨_,H9,I9,_,e9⟩=>?_
    subst e9;obtain⟨I10,st10,fr10⟩:=ig I9;have ed:del (upd (mrg [Dd] H5 F8) Dd (.lst (ys++[v]))) [Dd]=F8:=by rw[Vq (xm.mpr rfl),Vr hF]
    refine⟨ds.length-(i+1),by omega,i+1,σ6,_,ys++[v],I10,st10,fr10,hlt,rfl,by rw[ed];exact R7.grow g8,by rw[ed];exact g27.trans g8,j8,?_⟩;rw[Vq (xq ..),eH,tk,fF,Xo];have e:[ds[i]].filter p=[ds[i]]:=by simp[hp]
    rw[e];exact(en7.mono (je g8)).append (.one e8)
  .have hi:i=ds.length:=by omega
   subst hi;refine thn (T.done (cCx X scope C s2 H2 fp (X.pn++pins)) rfl rfl rfl hc ds.length [] s3 σ3 H3 (λ_ _=>False) I3 (fpok fr3) st3 (stop (X3 _))) λr s4 ⟨hr,I4⟩=>?_;subst hr;rw[bZ]at en3;obtain⟨m,hm,_⟩:=I4.loc;refine hRR Dd C ys H3 s4 m ?_ (g3.trans jk) hD0 m3 en3 hm ⟨I4.free,Pb (pq loclt hDlt),?_,λx c h=>Xa (pq (celllt x c h) hDlt),λp hp=>Xa (pq (pinlt p hp) hDlt)⟩
   .exact I2.call' (ch:=fp) I4.os I4.base I4.hok I4.bare λb hb=>⟨(f2 b hb).2.2.2.1,(f2 b hb).2.1,(f2 b hb).2.2.2.2.1,(f2 b hb).2.2.2.2.2⟩
   .have:=I2.sz;omega
 exact loop _ rfl
end
section
variable{X:Cx}{ρ:Rho}{tg elt iter:au}{ifs:List au}{scope:b8}{pos p1 spos:aO}{ds:List D}{cs:List Nat}{p:D->Bool}{g:D->D}{x:aq}{P:Po}
def W6{env:d9}{N:List aq}(h:v6 scope env N cs=ah):∀y∈scope.names,y.2=.free->(env.cells.lookup y.1).isSome=ah:=λy hy e=>by unfold v6 at h;rw[Xe]at h;have:=Pj.mp h.1 y hy;simp only[Xe,bne_iff_ne,ne_eq,cC]at this;exact this.2.elim (λz=>absurd e z) λz=>z.1
def Ug{env:d9}{N:List aq}(h:v6 scope env N cs=ah):∀y∈scope.names,y.2=.local->scope.names.lookup y.1=a8 .local:=λy hy e=>by unfold v6 at h;rw[Xe]at h;have:=Pj.mp h.1 y hy;simp only[Xe,bne_iff_ne,ne_eq,cC,beq_iff_eq]at this;exact this.1.2.elim (λz=>absurd e z) λz=>z
def Inv.loose{pins:k98}{σ:St}{H:Hp}{s:ao}{C:aj}{h':aE}(I:Inv X pins σ H s)(L:Loose X pins H C)(sb:cN C s.heap h'):Inv X pins σ H { s with heap:=h' } :=
 I.turned (t':=s.toks) (λb o hb e=>sb.extBut b o hb e) L.free L.loc (.inr L.new) L.cell L.pin
def DO.comp(cs:List Nat)(p:D->Bool)(g:D->D)(hi:DI X ρ tg iter ds)
  (hb:∀C s H fp pn,∀d∈ds,∃ρ2,DG (cCx X scope C s H fp pn) ρ tg d ρ2/\Wk ρ2 ρ/\owns ρ2=owns ρ/\DTs (cCx X scope C s H fp pn) ρ2 ifs (p d)/\(p d=ah->DE (cCx X scope C s H fp pn) ρ2 elt (g d)))
  (hcs:∀j∈cs,ρ[j]?=a8 .un) (hsz:ds.length<=av) (hc:X.calm=ah:=by rfl) (hkind:scope.kind=.function:=by rfl) (hok:v6 scope X.env X.N cs=ah:=by rfl)
  (hs:∀x,aG iter X.env x=pure x:=by intro _;rfl):DO X ρ (.ListComp elt [⟨tg,iter,ifs,0⟩] scope pos) ((ds.filter p).map g):=λσ H Q R q pins s I=>by
 rw[nq];refine eK (use:=ae) rfl hs (Ru (W6 hok)) hkind (Ug hok) (thn (hi σ H (λJ H'=>j0 H H'/\Vc X.K (del H' (owns ρ)) J ds) R (λJ H' g1 ok=>⟨g1,ok⟩) pins s I) λv s1 h1=>thn h1 λitv s2 h2=>?_);obtain⟨it,fp,tn,J,H2,e,I2,T,st2,f2,g2,ok⟩:=h2;subst e;refine Ea (RR:=λacc C=>mY (aB X.prog X.w) X.A X.xe ae (EP X pins σ Q) acc C) I2 (R.grow g2) T st2 f2 ok hc hkind hok hcs hsz hb ?_;intro D C xs H' s' m I' gg n m' en hm L;exact⟨m,hm,λh' sb=>⟨.ref D,H',I'.loose L sb,rfl,q D xs H' (g2.trans gg) (g2.free n) m' en⟩⟩
def Wk.set{i:Nat}{d:D}(h:ρ[i]?=a8 .un):Wk (ρ.set i (.val d)) ρ:=λK σ H R=>by
 have q:=R.set_un (i:=i) (v:=(σ[i]?).join);have e:σ.set i ((σ[i]?).join)=σ:=by
  apply S5;intro j;rw[dN];split
  .rename_i h;subst h;split
   .rename_i h;rw[kh h];rfl
   .rename_i h;rw[Xu nofun]
  .rfl
 have e2:(ρ.set i (.val d)).set i .un=ρ:=by
  rw[iz];apply S5;intro j;rw[dN];split
  .rename_i z;subst z;split
   .rw[h]
   .rename_i z;rw[Xu nofun]at h;cases h
  .rfl
 rw[e,e2]at q;exact q
def Zb{i:Nat}{d:D}(h:ρ[i]?=a8 .un):owns (ρ.set i (.val d))=owns ρ:=Bj rfl λa l z=>by rw[h]at z;cases z
end
section
variable{prog:ay}{w:aD}{A:aF}{E:k97}{s:ao}
def j4s{j t:aj}{k:Nat}{its:Array ai}{y:ai}{Q:k97}(hj:s.heap.IsTupleIter j t k)(ht:s.heap.IsTuple t its)(hy:its[k]?=a8 y)
  (q:∀h',h'.IsTupleIter j t (k+1)->cN j s.heap h'->Q y { s with heap:=h' }):aw (aB prog w) A (aJ (.ref j)) Q E s:=by
 obtain⟨o,ho,hc,hd⟩:=id hj;obtain⟨ot,hot,_,m,hdt⟩:=ht;unfold aJ;refine aa (b9 (name:=cb "__next__") hj.typeIs cf (bj cf hj.typeIs ia ?_ (hJ _)));show aw _ _ (jH (.ref j) 0 >>= _) _ _ s;refine aa (aZ ho hd (x:=.ref t) rfl ?_);show aw _ _ (if (aI t==aY)=ah then _ else _) _ _ s;rw[if_neg (show ¬((aI t==aY)=ah)from xj)];show aw _ _ (jH (.ref j) 1 >>= _) _ _ s;refine aa (aZ ho hd (x:=.int k 0) rfl ?_);show aw _ _ (hZ (.ref t) >>= _) _ _ s;refine aa (bf hot hdt ?_);simp only[Xh,hy];refine aa (fJ ho hd (by simp) (ar ⟨y,rfl,ar (q _ ?_ (T9 ..))⟩));exact⟨_,iC _ ho (iS (dz hd _)),(ke ..).trans hc,by rw[dz hd];simp[cR]⟩
def j76{j t:aj}{k:Nat}{its:Array ai}{Q:k97}(hh:A.handled=ae)(hj:s.heap.IsTupleIter j t k)(ht:s.heap.IsTuple t its)(hy:its[k]?=ae)
  (q:∀h' x,eW j s.heap h'->(∃o,h'.get? x=a8 o/\o.cls=.type "StopIteration")->E (.ref x) { s with heap:=h' }):aw (aB prog w) A (aJ (.ref j)) Q E s:=by
 obtain⟨o,ho,hc,hd⟩:=id hj;obtain⟨ot,hot,_,m,hdt⟩:=ht;unfold aJ;refine aa (b9 (name:=cb "__next__") hj.typeIs cf (bj cf hj.typeIs ia ?_ (hJ _)));show aw _ _ (jH (.ref j) 0 >>= _) _ _ s;refine aa (aZ ho hd (x:=.ref t) rfl ?_);show aw _ _ (if (aI t==aY)=ah then _ else _) _ _ s;rw[if_neg (show ¬((aI t==aY)=ah)from xj)];show aw _ _ (jH (.ref j) 1 >>= _) _ _ s;refine aa (aZ ho hd (x:=.int k 0) rfl ?_);show aw _ _ (hZ (.ref t) >>= _) _ _ s;refine aa (bf hot hdt ?_);simp only[Xh,hy];refine aa (kX (aa (fJ ho hd (by simp) ?_)));show aw _ _ (mW (.type "StopIteration") [] >>= _) _ _ _;refine aa ?_;simp only[mW,newTuple];refine aa (aR ?_ (by size_fits));refine aa (m:=fN _ _) (ib (a:=aY) (by first|rfl|(simp only[fN];rfl)) ?_);refine aR ?_ (by size_fits);simp only[raiseNew];refine aa (ni ?_)
 first|rw[show A.in1.handled=ae from hh]|rw[hh]
 refine aa (ar (wpAny_throw ?_));exact q _ _ (((T9 ..).extBut.push _).push _) ⟨_,xu _ rfl,rfl⟩
end
def jj(lst:Bool)(h:aE)(j t:aj)(k:Nat):Prop:=if lst=ah then h.IsListIter j t k else h.IsTupleIter j t k
def jg(lst:Bool)(h:aE)(t:aj)(its:Array ai):Prop:=if lst=ah then h.IsList t its else h.IsTuple t its
section
variable{prog:ay}{w:aD}{A:aF}{E:k97}{s:ao}{lst:Bool}{h h':aE}{j t b:aj}{k:Nat}{its:Array ai}
def jj.ext(x:jj lst h j t k)(e:eW b h h')(n:j≠b):jj lst h' j t k:=by
 unfold jj at x ⊢;cases lst with
 |true=>rw[if_pos rfl]at x ⊢;exact x.extBut e n
 |false=>rw[if_neg xj]at x ⊢;exact x.extBut e n
def jj.stay(x:jj lst h j t k)(e:∀o,h.get? j=a8 o->h'.get? j=a8 o):jj lst h' j t k:=by
 unfold jj at x ⊢;cases lst with
 |true=>rw[if_pos rfl]at x ⊢;exact x.at e
 |false=>rw[if_neg xj]at x ⊢;exact x.at e
def jj.obj(x:jj lst h j t k):∃o,h.get? j=a8 o/\∀v,o.data≠.cell v:=by
 unfold jj at x;cases lst with
 |true=>rw[if_pos rfl]at x;obtain⟨o,e,c,d⟩:=x;exact⟨o,e,λv z=>by rw[d]at z;cases z⟩
 |false=>rw[if_neg xj]at x;obtain⟨o,e,c,d⟩:=x;exact⟨o,e,λv z=>by rw[d]at z;cases z⟩
def jg.ext(x:jg lst h t its)(e:eW b h h')(n:t≠b):jg lst h' t its:=by
 unfold jg at x ⊢;cases lst with
 |true=>rw[if_pos rfl]at x ⊢;exact x.extBut e n
 |false=>rw[if_neg xj]at x ⊢;exact x.extBut e n
def Uo{y:ai}{Q:k97}(hj:jj lst s.heap j t k)(ht:jg lst s.heap t its)(hy:its[k]?=a8 y)
  (q:∀h',jj lst h' j t (k+1)->cN j s.heap h'->Q y { s with heap:=h' }):aw (aB prog w) A (aJ (.ref j)) Q E s:=by
 unfold jj at hj q;unfold jg at ht;cases lst with
 |true=>rw[if_pos rfl]at hj ht;simp only[if_true]at q;exact wpAny_nextOf_list_item hj ht hy q
 |false=>rw[if_neg xj]at hj ht;simp only[ph,if_false]at q;exact j4s hj ht hy q
def Ww{Q:k97}(hh:A.handled=ae)(hj:jj lst s.heap j t k)(ht:jg lst s.heap t its)(hy:its[k]?=ae)
  (q:∀h' x,eW j s.heap h'->(∃o,h'.get? x=a8 o/\o.cls=.type "StopIteration")->E (.ref x) { s with heap:=h' }):aw (aB prog w) A (aJ (.ref j)) Q E s:=by
 unfold jj at hj;unfold jg at ht;cases lst with
 |true=>rw[if_pos rfl]at hj ht;exact wpAny_nextOf_list_end hh hj ht hy q
 |false=>rw[if_neg xj]at hj ht;exact j76 hh hj ht hy q
end
section
variable{prog:ay}{w:aD}{A:aF}{E:k97}{s:ao}{l1 l2:Bool}{z TI TO i1 i2 t1 t2:aj}{k:Nat}{us vs:Array ai}{x y a b:ai}
def j5a{Q:k97}(D:iJ z TI TO i1 i2 t1 t2)(hz:eV s.heap z TI TO .none)(hTI:bX s.heap TI (.ref i1) (.ref i2))(hTO:bX s.heap TO a b)
  (h1:jj l1 s.heap i1 t1 k) (h2:jj l2 s.heap i2 t2 k) (q1:jg l1 s.heap t1 us) (q2:jg l2 s.heap t2 vs) (hx:us[k]?=a8 x) (hy:vs[k]?=a8 y)
  (q:∀h',eV h' z TI TO (cR s.heap.objs.size)->bX h' TO x y->jj l1 h' i1 t1 (k+1)->jj l2 h' i2 t2 (k+1)->bX h' s.heap.objs.size x y->h'.objs.size=s.heap.objs.size+1 ->
   (∀c o,c≠z->c≠TO->c≠i1->c≠i2->s.heap.get? c=a8 o->h'.get? c=a8 o)->Q (.ref s.heap.objs.size) { s with heap:=h' }) :
  aw (aB prog w) A (cO.«zip.__next__» ⟨[.ref z],[]⟩) (λfin s'=>∃v,fin=.done (.ret v)/\Q v s') E s:=by
 show aw _ _ (jH (.ref z) 2 >>= _) _ _ _;refine aa (aZ hz rfl (x:=.bool a9) rfl ?_);show aw _ _ (jH (.ref z) 3 >>= _) _ _ _;refine aa (aZ hz rfl (x:=.ref TI) rfl (aa (bf hTI rfl ?_)));show aw _ _ (bh (.ref z) >>= _) _ _ _;refine aa ?_;unfold bh;refine aa (aZ hz rfl (x:=.none) rfl (ar ?_));simp only[if_true];refine aa (kX (aa (aZ hz rfl (x:=.ref TO) rfl (aa (bQ hz (by simp) λg₁ z₁ s₁=>?_)))));have z₁:eV g₁ z TI TO .ellipsis:=z₁;refine aa ?_;simp only[kq,kD,gC,gW];refine aa (aa (gf ?_));show aw _ _ (aJ (.ref i1) >>= _) _ _ _;refine aa (Uo (h1.ext s₁.extBut D.i1z) (q1.ext s₁.extBut D.l1z) hx λg₂ h1₂ s₂=>ar ?_);have o₂:bX g₂ TO a b:=s₂.extBut _ _ D.TOi1 (s₁.extBut _ _ D.TOz hTO);refine aa (bf o₂ rfl (aa (fG o₂ λg₃ o₃ s₃=>?_)));have o₃:bX g₃ TO x b:=o₃;refine aa (dh (ar (aa (aa (gf ?_)))));show aw _ _ (aJ (.ref i2) >>= _) _ _ _;refine aa (Uo (((h2.ext s₁.extBut D.i2z).ext s₂.extBut D.i12.symm).ext s₃.extBut D.TOi2.symm) (((q2.ext s₁.extBut D.l2z).ext s₂.extBut D.l2i1).ext s₃.extBut D.l2TO) hy λg₄ h2₄ s₄=>ar ?_);have o₄:bX g₄ TO x b:=s₄.extBut _ _ D.TOi2 o₃;refine aa (bf o₄ rfl (aa (fG o₄ λg₅ o₅ s₅=>?_)));have o₅:bX g₅ TO x y:=o₅;refine aa (dh (ar (ar (aa (bf o₅ rfl (aa (wpAny_newTuple ?_)))))));have sz:g₅.objs.size=s.heap.objs.size:=by rw[s₅.1,s₄.1,s₃.1,s₂.1,s₁.1]
 have z₅:eV g₅ z TI TO .ellipsis:=s₅.extBut _ _ D.TOz.symm (s₄.extBut _ _ D.i2z.symm (s₃.extBut _ _ D.TOz.symm (s₂.extBut _ _ D.i1z.symm z₁)));have kp:∀c o,c≠z->c≠TO->c≠i1->c≠i2->s.heap.get? c=a8 o->g₅.get? c=a8 o:=λc o n1 n2 n3 n4 e=>s₅.extBut _ _ n2 (s₄.extBut _ _ n4 (s₃.extBut _ _ n2 (s₂.extBut _ _ n3 (s₁.extBut _ _ n1 e))));have h1₅:jj l1 g₅ i1 t1 (k+1):=((h1₂.ext s₃.extBut D.TOi1.symm).ext s₄.extBut D.i12).ext s₅.extBut D.TOi1.symm;have h2₅:jj l2 g₅ i2 t2 (k+1):=h2₄.ext s₅.extBut D.TOi2.symm;have zlt:z<g₅.objs.size:=xn z₅;show aw _ _ (dm (.ref z) (.ref g₅.objs.size) >>= _) _ _ _;refine aa ?_;unfold dm;have z₆:eV (g₅.push { cls:=.type "tuple",data:=.seq #[x,y] }) z TI TO .ellipsis:=km _ z₅;refine aa (bQ z₆ (by simp) λg₇ z₇ s₇=>?_);have z₇:eV g₇ z TI TO (cR g₅.objs.size):=z₇;refine bQ z₇ (by simp) λg₈ z₈ s₈=>?_;have z₈:eV g₈ z TI TO (cR g₅.objs.size):=z₈;have up:∀c o,c≠z->g₅.get? c=a8 o->g₈.get? c=a8 o:=λc o n e=>s₈.extBut _ _ n (s₇.extBut _ _ n (km _ e));have p₈:bX g₈ g₅.objs.size x y:=s₈.extBut _ _ (Pb zlt) (s₇.extBut _ _ (Pb zlt) (xu _ rfl));have e₈:g₈.objs.size=g₅.objs.size+1:=by rw[s₈.1,s₇.1,Pg]
 rw[sz]at z₈ p₈ e₈;refine ar ⟨_,rfl,?_⟩;show Q (.ref g₅.objs.size) _;rw[sz];exact q g₈ z₈ (up _ _ D.TOz o₅) (h1₅.stay λo e=>up _ o D.i1z e) (h2₅.stay λo e=>up _ o D.i2z e) p₈ e₈ λc o n1 n2 n3 n4 e=>up c o n1 (kp c o n1 n2 n3 n4 e)
def j7v{Q:mK->ao->Prop}(hh:A.handled=ae)(D:iJ z TI TO i1 i2 t1 t2)(hz:eV s.heap z TI TO .none)(hTI:bX s.heap TI (.ref i1) (.ref i2))(hTO:bX s.heap TO a b)
  (h1:jj l1 s.heap i1 t1 k) (h2:jj l2 s.heap i2 t2 k) (q1:jg l1 s.heap t1 us) (q2:jg l2 s.heap t2 vs) (hend:us[k]?=ae\/vs[k]?=ae)
  (q:∀h' e,(∀c o,c≠z->c≠TO->c≠i1->c≠i2->s.heap.get? c=a8 o->h'.get? c=a8 o)->(∃o,h'.get? e=a8 o/\o.cls=.type "StopIteration")->E (.ref e) { s with heap:=h' }) :
  aw (aB prog w) A (cO.«zip.__next__» ⟨[.ref z],[]⟩) Q E s:=by
 show aw _ _ (jH (.ref z) 2 >>= _) _ _ _;refine aa (aZ hz rfl (x:=.bool a9) rfl ?_);show aw _ _ (jH (.ref z) 3 >>= _) _ _ _;refine aa (aZ hz rfl (x:=.ref TI) rfl (aa (bf hTI rfl ?_)));show aw _ _ (bh (.ref z) >>= _) _ _ _;refine aa ?_;unfold bh;refine aa (aZ hz rfl (x:=.none) rfl (ar ?_));simp only[if_true];refine aa (kX (aa (aZ hz rfl (x:=.ref TO) rfl (aa (bQ hz (by simp) λg₁ z₁ s₁=>?_)))));have z₁:eV g₁ z TI TO .ellipsis:=z₁;refine aa ?_;simp only[kq,kD,gC,gW];refine aa (aa (gf ?_));show aw _ _ (aJ (.ref i1) >>= _) _ _ _;cases hx:us[k]? with
 |none =>
  refine aa (Ww hh (h1.ext s₁.extBut D.i1z) (q1.ext s₁.extBut D.l1z) hx λg₂ e s₂ he=>?_);obtain⟨oe,hoe,hce⟩:=he;have z₂:eV g₂ z TI TO .ellipsis:=s₂ _ _ D.i1z.symm z₁;have ez:e≠z:=λx=>by subst x;rw[z₂]at hoe;cases hoe;simp at hce
  exact bQ z₂ (by simp) λg₃ _ s₃=>q g₃ e (λc o n1 _ n3 _ x=>s₃.extBut _ _ n1 (s₂ _ _ n3 (s₁.extBut _ _ n1 x))) ⟨oe,s₃.extBut _ _ ez hoe,hce⟩
 |some x =>
  have hy:vs[k]?=ae:=by rcases hend with h|h;rw[hx]at h;cases h;exact h
  refine aa (Uo (h1.ext s₁.extBut D.i1z) (q1.ext s₁.extBut D.l1z) hx λg₂ h1₂ s₂=>ar ?_);have o₂:bX g₂ TO a b:=s₂.extBut _ _ D.TOi1 (s₁.extBut _ _ D.TOz hTO);refine aa (bf o₂ rfl (aa (fG o₂ λg₃ o₃ s₃=>?_)));refine aa (dh (ar (aa (aa (gf ?_)))));show aw _ _ (aJ (.ref i2) >>= _) _ _ _;refine aa (Ww hh (((h2.ext s₁.extBut D.i2z).ext s₂.extBut D.i12.symm).ext s₃.extBut D.TOi2.symm) (((q2.ext s₁.extBut D.l2z).ext s₂.extBut D.l2i1).ext s₃.extBut D.l2TO) hy λg₄ e s₄ he=>?_);obtain⟨oe,hoe,hce⟩:=he;have z₄:eV g₄ z TI TO .ellipsis:=s₄ _ _ D.i2z.symm (s₃.extBut _ _ D.TOz.symm (s₂.extBut _ _ D.i1z.symm z₁));have ez:e≠z:=λx=>by subst x;rw[z₄]at hoe;cases hoe;simp at hce
  exact bQ z₄ (by simp) λg₅ _ s₅=>q g₅ e (λc o n1 n2 n3 n4 x=>s₅.extBut _ _ n1 (s₄ _ _ n4 (s₃.extBut _ _ n2 (s₂.extBut _ _ n3 (s₁.extBut _ _ n1 x))))) ⟨oe,s₅.extBut _ _ ez hoe,hce⟩
def j17{Q:Option ai->ao->Prop}(D:iJ z TI TO i1 i2 t1 t2)(hz:eV s.heap z TI TO .none)(hTI:bX s.heap TI (.ref i1) (.ref i2))(hTO:bX s.heap TO a b)
  (h1:jj l1 s.heap i1 t1 k) (h2:jj l2 s.heap i2 t2 k) (q1:jg l1 s.heap t1 us) (q2:jg l2 s.heap t2 vs) (hx:us[k]?=a8 x) (hy:vs[k]?=a8 y)
  (q:∀h',eV h' z TI TO (cR s.heap.objs.size)->bX h' TO x y->jj l1 h' i1 t1 (k+1)->jj l2 h' i2 t2 (k+1)->bX h' s.heap.objs.size x y->h'.objs.size=s.heap.objs.size+1 ->
   (∀c o,c≠z->c≠TO->c≠i1->c≠i2->s.heap.get? c=a8 o->h'.get? c=a8 o)->Q (a8 (.ref s.heap.objs.size)) { s with heap:=h' }):aw (aB prog w) A (cZ (.ref z)) Q E s:=by
 have T:s.TypeIs (.ref z) "zip":=⟨_,hz,rfl⟩
 unfold cZ;exact aa (gh (b9 (name:=cb "__next__") T eX (bj eX T kU
  (j5a D hz hTI hTO h1 h2 q1 q2 hx hy λh' a1 a2 a3 a4 a5 a6 a7=>ar (q h' a1 a2 a3 a4 a5 a6 a7)) (kO _))))
def j2f{Q:Option ai->ao->Prop}(hh:A.handled=ae)(D:iJ z TI TO i1 i2 t1 t2)(hz:eV s.heap z TI TO .none)(hTI:bX s.heap TI (.ref i1) (.ref i2))(hTO:bX s.heap TO a b)
  (h1:jj l1 s.heap i1 t1 k) (h2:jj l2 s.heap i2 t2 k) (q1:jg l1 s.heap t1 us) (q2:jg l2 s.heap t2 vs) (hend:us[k]?=ae\/vs[k]?=ae)
  (q:∀h',(∀c o,c≠z->c≠TO->c≠i1->c≠i2->s.heap.get? c=a8 o->h'.get? c=a8 o)->Q ae { s with heap:=h' }):aw (aB prog w) A (cZ (.ref z)) Q E s:=by
 have T:s.TypeIs (.ref z) "zip":=⟨_,hz,rfl⟩
 unfold cZ;refine aa (gh (b9 (name:=cb "__next__") T eX (bj eX T kU
  (j7v hh D hz hTI hTO h1 h2 q1 q2 hend λh' e kp he=>?_) (kO _))))
 obtain⟨o,ho,hc⟩:=he;exact aa (lU (T:="StopIteration") (b:=ah) ⟨o,ho,hc⟩ mX (ar (q _ kp)))
end
noncomputable def Bw(lst:Bool):String:=if lst=ah then "list_iterator" else "tuple_iterator"
noncomputable abbrev zh1(h:aE)(l1:Bool)(t1:aj):aE:=h.push { cls:=.type (Bw l1),data:=.fields #[.ref t1,.int 0 0] }
noncomputable abbrev zh2(h:aE)(l1 l2:Bool)(t1 t2:aj):aE:=(zh1 h l1 t1).push { cls:=.type (Bw l2),data:=.fields #[.ref t2,.int 0 0] }
noncomputable abbrev zh3(h:aE)(l1 l2:Bool)(t1 t2:aj):aE:=(zh2 h l1 l2 t1 t2).push { cls:=.type "tuple",data:=.seq #[.ref h.objs.size,.ref (zh1 h l1 t1).objs.size] }
noncomputable abbrev zh4(h:aE)(l1 l2:Bool)(t1 t2:aj):aE:=(zh3 h l1 l2 t1 t2).push { cls:=.type "tuple",data:=.seq #[.none,.none] }
noncomputable abbrev zh5(h:aE)(l1 l2:Bool)(t1 t2:aj):aE:=(zh4 h l1 l2 t1 t2).push { cls:=.type "zip",data:=.fields #[.none,.bool a9,.bool a9,.ref (zh2 h l1 l2 t1 t2).objs.size,.ref (zh3 h l1 l2 t1 t2).objs.size] }
section
variable{prog:ay}{w:aD}{A:aF}{E:k97}{s:ao}{l1 l2:Bool}{t1 t2:aj}{us vs:Array ai}
def Yb{lst:Bool}{t:aj}{its:Array ai}{Q:k97}(h:jg lst s.heap t its)(q:Q (.ref s.heap.objs.size) { s with heap:=zh1 s.heap lst t }):aw (aB prog w) A (iI (.ref t)) Q E s:=by
 unfold jg at h;cases lst with
 |true=>rw[if_pos rfl]at h;exact bF h q
 |false=>rw[if_neg xj]at h;exact gp h q
def jg.push{lst:Bool}{h:aE}{t:aj}{its:Array ai}(x:jg lst h t its)(o:d8):jg lst (h.push o) t its:=by
 unfold jg at x ⊢;cases lst with
 |true=>rw[if_pos rfl]at x ⊢;exact x.push o
 |false=>rw[if_neg xj]at x ⊢;exact x.push o
def jbh (t1 t2:aj) (us vs:Array ai):jK (cO.«zip.__new__» ⟨[.type "zip",.ref t1,.ref t2],[]⟩) (λ_ R s=>jg l1 s.heap t1 us/\jg l2 s.heap t2 vs /\
   R (.ok (.ret (.ref (zh4 s.heap l1 l2 t1 t2).objs.size))) { s with heap:=zh5 s.heap l1 l2 t1 t2 }) :=
 .of_wp λprog w A R s h=>by
  obtain⟨hp,g,d,tk,os⟩:=s;obtain⟨h1,h2,h⟩:=h;have hsub:=sub_zip;have e1:jg l1 (Shared.heap ⟨hp,g,d,tk,os⟩) t1 us:=h1;have e2:jg l2 (Shared.heap ⟨zh1 hp l1 t1,g,d,tk,os⟩) t2 vs:=h2.push _
  wp_walk using Yb e1,Yb e2
  exact⟨_,rfl,h⟩
end
def SqB(K:k96)(lst:Bool)(H:Hp)(a:aj)(xs:List V):Prop:=if lst=ah then SqL K H a xs else SqT K H a xs
section
variable{X:Cx}{pins:k98}{σ:St}{H:Hp}{s:ao}{a p:aj}{xs ys:List V}{lst:Bool}{ch:List aj}{h':aE}
def j0.seqB{K:k96}{H':Hp}(e:j0 H H')(h:SqB K lst H a xs):SqB K lst H' a xs:=by
 unfold SqB at h ⊢;cases lst with
 |true=>rw[if_pos rfl]at h ⊢;exact e.seq h
 |false=>rw[if_neg xj]at h ⊢;exact e.seqT h
def Inv.side(I:Inv X pins σ H s)(h:SqB X.K lst H a xs):∃us:List ai,Vals xs us/\jg lst s.heap a us.toArray/\xs.length<=av:=by
 unfold SqB at h;unfold jg;cases lst with
 |true=>rw[if_pos rfl]at h;obtain⟨its,r,q,l⟩:=I.list h;exact⟨its,r,by rw[if_pos rfl];exact q.isList,l⟩
 |false=>rw[if_neg xj]at h;obtain⟨its,r,q,l⟩:=I.tuple h;exact⟨its,r,by rw[if_neg xj];exact q,l⟩
def Inv.side_inj(I:Inv X pins σ H s)(h:SqB X.K lst H a xs)(h':SqB X.K lst H a ys):xs=ys:=by
 unfold SqB at h h';cases lst with
 |true=>rw[if_pos rfl]at h h';exact I.list_inj h h'
 |false=>rw[if_neg xj]at h h';exact I.tuple_inj h h'
def Inv.chg(I:Inv X pins σ H s)(hf:∀b∈ch,Jk X pins H b)(kp:∀c o,c∉ch->s.heap.get? c=a8 o->h'.get? c=a8 o):Inv X pins σ H { s with heap:=h' }:=by
 refine I.step (g':=s.gens) (t':=s.toks) (d':=s.drawn) (ch:=ch) (λb hb=>⟨(hf b hb).2.2.2.1,(hf b hb).2.1,(hf b hb).2.2.2.2.1,(hf b hb).2.2.2.2.2⟩) (λb o _ _ nc e _=>kp b o nc e) (λb o _ _ nc e _=>⟨o.slots,kp b o nc e⟩)
  (λb o _ _ n=>n) (λb o nc e=>⟨o,kp b o nc e⟩) (λb xs e=>e) (λb o u e=>e) (λb ps e=>⟨#[],by rw[e];simp⟩) (λm hm=>hm.at' λo e=>kp _ o (λz=>(hf _ z).2.1 rfl) e) (λc o e=>?_) I.bare
 have out:∀{b:aj}{u:HO},H b=a8 u->b∉ch:=λ{b u} q z=>by rw[(hf b z).1]at q;cases q
 refine ji.stay (I.hok c o e) (λb u hb q=>kp b u ?_ q) (λb q=>q) (λb xs q=>q) (λb _ _ q=>q);rcases hb with hb|hb
 .subst hb;exact out e
 .exact out hb
def Inv.chgT(I:Inv X pins σ H s)(hf:∀b∈ch,Jk X pins H b)(kp:∀c o,c∉ch->s.heap.get? c=a8 o->h'.get? c=a8 o){us:List ai}(rv:Vals xs us)(hl:xs.length<=av)
  (hp:ij h' s.heap.objs.size us.toArray) (hq:Zu h' s.heap.objs.size):Inv X pins σ (upd H s.heap.objs.size (.tup xs)) { s with heap:=h' }:=by
 have hn:=I.fresh;have nz:∀{b:aj}{o:d8},s.heap.get? b=a8 o->b≠s.heap.objs.size:=λ{b o} e=>Xa (xn e);have tr:∀{b:aj}{u:HO},H b=a8 u->upd H s.heap.objs.size (.tup xs) b=a8 u:=λ{b u} e=>by rw[jd (v7 e hn)];exact e
 refine I.step (g':=s.gens) (t':=s.toks) (d':=s.drawn) (ch:=ch) (λb hb=>⟨(hf b hb).2.2.2.1,(hf b hb).2.1,(hf b hb).2.2.2.2.1,(hf b hb).2.2.2.2.2⟩) (λb o _ _ nc e _=>kp b o nc e) (λb o _ _ nc e _=>⟨o.slots,kp b o nc e⟩)
  (λb o _ e n=>by rw[jd (nz e)];exact n) (λb o nc e=>⟨o,kp b o nc e⟩) (λb xs e=>tr e) (λb o u e=>tr e) (λb ps e=>⟨#[],by rw[tr e];simp⟩) (λm hm=>hm.at' λo e=>kp _ o (λz=>(hf _ z).2.1 rfl) e) (λc o e=>?_) I.bare
 have out:∀{b:aj}{u:HO},H b=a8 u->b∉ch:=λ{b u} q z=>by rw[(hf b z).1]at q;cases q
 by_cases z:c=s.heap.objs.size
 .subst z;rw[j8]at e;cases e;exact⟨hl,us,rv,hp,hq⟩
 .rw[jd z]at e;refine ji.stay (I.hok c o e) (λb u hb q=>kp b u ?_ q) (λb q=>tr q) (λb xs q=>tr q) (λb _ _ q=>tr q);rcases hb with hb|hb
  .subst hb;exact out e
  .exact out hb
end
noncomputable def Itz(K:k96)(l1 l2:Bool)(t1 t2:aj):It :=
 ⟨λi H=>∃xs ys x y,SqB K l1 H t1 xs/\SqB K l2 H t2 ys/\xs[i]?=a8 x/\ys[i]?=a8 y,
 λi H v H'=>∃p x y,v=.ref p/\H p=ae/\H'=upd H p (.tup [x,y])/\(∀xs,SqB K l1 H t1 xs->xs[i]?=a8 x)/\∀ys,SqB K l2 H t2 ys->ys[i]?=a8 y,
 λi H=>∃xs ys,SqB K l1 H t1 xs/\SqB K l2 H t2 ys/\(xs.length<=i\/ys.length<=i)⟩
def j7z{P:ay}{w:aD}{K:k96}{es:List au}{n:Nat}{pos:aO}{l1 l2:Bool}{z TI TO i1 i2 t1 t2:aj}(D:iJ z TI TO i1 i2 t1 t2) :
  Turn P w K (.Tuple es n pos) (Itz K l1 l2 t1 t2) [z,TI,TO,i1,i2] z (λi h=>eV h z TI TO .none/\bX h TI (.ref i1) (.ref i2)/\(∃a b,bX h TO a b)/\jj l1 h i1 t1 i/\jj l2 h i2 t2 i) where
 mem:=by simp
 obj:=λi h ⟨hz,hTI,⟨a,b,hTO⟩,h1,h2⟩ c hc=>by
  simp at hc;rcases hc with rfl|rfl|rfl|rfl|rfl
  .exact⟨_,hz,λv e=>by cases e⟩
  .exact⟨_,hTI,λv e=>by cases e⟩
  .exact⟨_,hTO,λv e=>by cases e⟩
  .exact h1.obj
  .exact h2.obj
 keep:=λi h h' ⟨hz,hTI,⟨a,b,hTO⟩,h1,h2⟩ k=>⟨k z (by simp) _ hz,k TI (by simp) _ hTI,⟨a,b,k TO (by simp) _ hTO⟩,h1.stay λo e=>k i1 (by simp) o e,h2.stay λo e=>k i2 (by simp) o e⟩
 item:=by
  rintro X hP hw hK hc i pins s σ H E I hf ⟨hz,hTI,⟨a,b,hTO⟩,h1,h2⟩ ⟨xs,ys,x,y,sx,sy,hx,hy⟩;subst hP hw hK;obtain⟨us,ru,qu,_⟩:=I.side sx;obtain⟨vs,rv,qv,_⟩:=I.side sy;obtain⟨u,hu,rx⟩:=ru.get hx;obtain⟨v,hv,ry⟩:=rv.get hy;refine j17 D hz hTI hTO h1 h2 qu qv (by simpa using hu) (by simpa using hv) λh' z' o' j1 j2 p' sz kp=>⟨_,rfl,?_⟩
  refine wpAny_letOwnedTupleGo_zip (s:={ s with heap:=h' }) z' λh'' z'' sb=>?_;have zlt:z<s.heap.objs.size:=xn hz;have kp':∀c o,c∉[z,TO,i1,i2]->s.heap.get? c=a8 o->h''.get? c=a8 o:=λc o nc e=>by simp at nc;exact sb.extBut _ _ nc.1 (kp c o nc.1 nc.2.1 nc.2.2.1 nc.2.2.2 e)
  have hf':∀c∈[z,TO,i1,i2],Jk X pins H c:=λc hc=>hf c (by simp at hc ⊢;rcases hc with h|h|h|h<;>simp[h]);have pt:ij h'' s.heap.objs.size [u,v].toArray:=⟨_,sb.extBut _ _ (Pb zlt) p',rfl,_,rfl⟩
  refine⟨.ref s.heap.objs.size,_,I.chgT hf' kp' (xs:=[x,y]) (.cons rx (.cons ry .nil)) (by show 2<=av;decide) pt (Zu.of (sb.extBut _ _ (Pb zlt) p')),rfl,⟨_,x,y,rfl,I.fresh,rfl,λws hw=>by rw[I.side_inj hw sx];exact hx,λws hw=>by rw[I.side_inj hw sy];exact hy⟩,?_,λc hc=>?_⟩
  .refine⟨z'',?_,⟨u,v,sb.extBut _ _ D.TOz o'⟩,j1.ext sb.extBut D.i1z,j2.ext sb.extBut D.i2z⟩;exact sb.extBut _ _ D.TIz (kp TI _ D.TIz D.TITO D.TIi1 D.TIi2 hTI)
  .obtain⟨o,e,_⟩:∃o,s.heap.get? c=a8 o/\True:=by
    simp at hc;rcases hc with rfl|rfl|rfl|rfl|rfl
    .exact⟨_,hz,trivial⟩
    .exact⟨_,hTI,trivial⟩
    .exact⟨_,hTO,trivial⟩
    .obtain⟨o,e,_⟩:=h1.obj;exact⟨o,e,trivial⟩
    .obtain⟨o,e,_⟩:=h2.obj;exact⟨o,e,trivial⟩
   rw[jd (Xa (xn e))];exact(hf c hc).1
 done:=by
  rintro X hP hw hK hc i pins s σ H E I hf ⟨hz,hTI,⟨a,b,hTO⟩,h1,h2⟩ ⟨xs,ys,sx,sy,hend⟩;subst hP hw hK;obtain⟨us,ru,qu,_⟩:=I.side sx;obtain⟨vs,rv,qv,_⟩:=I.side sy;have e1:=ru.length;have e2:=rv.length;have hf':∀c∈[z,TO,i1,i2],Jk X pins H c:=λc hc=>hf c (by simp at hc ⊢;rcases hc with h|h|h|h<;>simp[h]);refine j2f (I.ok.hd hc) D hz hTI hTO h1 h2 qu qv ?_ λh' kp=>⟨rfl,I.chg hf' λc o nc e=>?_⟩
  .rcases hend with h|h
   .left;simp;omega
   .right;simp;omega
  .simp at nc;exact kp c o nc.1 nc.2.1 nc.2.2.1 nc.2.2.2 e
 self:=λ_ _ _ _ _ st h=>lT st.1 h
section
variable{X:Cx}{ρ:Rho}{a b:au}{es:List au}{n:Nat}{pos p q1 q2:aO}{ds ds':List D}{l1 l2:Bool}
noncomputable def D.seq(lst:Bool)(ds:List D):D:=if lst=ah then .lst ds else .tup ds
def Z1{K:k96}{H:Hp}{lst:Bool}{v:V}(h:Enc K H (D.seq lst ds) v):∃t xs,v=.ref t/\SqB K lst H t xs/\j4 K H ds xs:=by
 unfold D.seq at h;unfold SqB;cases lst with
 |true=>rw[if_pos rfl]at h;obtain⟨t,xs,e,s,l⟩:=h;exact⟨t,xs,e,by rw[if_pos rfl];exact s,l⟩
 |false=>rw[if_neg xj]at h;obtain⟨t,xs,e,s,l⟩:=h;exact⟨t,xs,e,by rw[if_neg xj];exact s,l⟩
noncomputable def Vg(ds ds':List D):List D:=(ds.zip ds').map λp=>D.tup [p.1,p.2]
def j94{K:k96}{F:Hp}{t1 t2:aj}{xs ys:List V}(s1:SqB K l1 F t1 xs)(s2:SqB K l2 F t2 ys)(e1:j4 K F ds xs)(e2:j4 K F ds' ys):Vc K F (Itz K l1 l2 t1 t2) (Vg ds ds'):=λi H A g hA=>by
 have s1':SqB K l1 H t1 xs:=jk.seqB (g.seqB s1);have s2':SqB K l2 H t2 ys:=jk.seqB (g.seqB s2);have hl:(Vg ds ds').length=min ds.length ds'.length:=by unfold Vg;rw[xf,kF]
 refine⟨λh=>?_,λh=>⟨xs,ys,s1',s2',?_⟩,λv H' ⟨p,x,y,ev,np,eH,hx,hy⟩=>?_⟩
 .rw[hl]at h;obtain⟨x,hx,_⟩:=e1.get (kh (show i<ds.length by omega));obtain⟨y,hy,_⟩:=e2.get (kh (show i<ds'.length by omega));exact⟨xs,ys,x,y,s1',s2',hx,hy⟩
 .rw[hl]at h;rw[e1.length,e2.length];omega
 .subst eH;refine⟨j6 np,λd hd=>?_⟩;unfold Vg at hd;rw[X4]at hd;cases z:(ds.zip ds')[i]? with
  |none=>rw[z]at hd;cases hd
  |some pr =>rw[z]at hd;cases hd;obtain⟨h1,h2⟩:=List.getElem?_zip_eq_some.mp z;obtain⟨x',hx',ex⟩:=e1.get h1;obtain⟨y',hy',ey⟩:=e2.get h2;have q1:=hx xs s1';have q2:=hy ys s2';rw[hx']at q1;cases q1;rw[hy']at q2;cases q2;have pA:p∉A:=λz=>hA p z np;have gg:j0 F (del (upd H p (.tup [x,y])) A):=g.trans (je (j6 np));exact⟨p,[x,y],ev,.inl (.inl (by rw[j7 pA];exact j8)),x,[y],rfl,ex.mono gg,y,[],rfl,ey.mono gg,rfl⟩
def DI.zip (l1 l2:Bool) (ha:DE X ρ a (D.seq l1 ds)) (hb:DE X ρ b (D.seq l2 ds')) (hm:X.mg "zip" = ae) (hg:Gl X "zip":=by rfl) (hs:af [a,b] X.env=(a9,aC a X.env)::af [b] X.env:=by rfl)
  (hs2:af [b] X.env=(a9,aC b X.env)::af [] X.env:=by rfl) (hpl:(aP pos (af [b] X.env)).any (·.1)=a9:=by rfl):DI X ρ (.Tuple es n q1) (.Call (.Name "zip" p) [a,b] [] pos) (Vg ds ds'):=λσ H R r q pins s I=>by
 have args:U6 X [a,b] σ H (λvs H'=>∃v u,vs=[v,u]/\j0 H H'/\Enc X.K (del H' (owns ρ)) (D.seq l1 ds) v/\Enc X.K (del H' (owns ρ)) (D.seq l2 ds') u) :=
  (jc peS (jc peS jt hs2) hs).to (ha σ H _ r λv H1 g1 e1=>hb σ H1 _ (r.grow g1) λu H2 g2 e2=>⟨v,u,rfl,g1.trans g2,e1.mono (je g2),e2⟩)
 refine Call_ (Jg I hg hm boot_zip (callWith_type1 (thn (args pos pins s I) λus s1 h1=>?_) hs hpl));obtain⟨vs,H1,I1,r1,v,u,ev,g1,e1,e2⟩:=h1;subst ev;obtain⟨t1,xs,et1,sq1,en1⟩:=Z1 e1;obtain⟨t2,ys,et2,sq2,en2⟩:=Z1 e2;subst et1 et2;obtain⟨u1,u2,eu,ru1,ru2⟩:=r1.two;subst eu;cases ru1;cases ru2;obtain⟨w1,rw1,qw1,_⟩:=I1.side (jk.seqB sq1);obtain⟨w2,rw2,qw2,_⟩:=I1.side (jk.seqB sq2);refine callType_new F.called_zip (by decide) (F.typeCall_zip_2 _ _) (F.newCall_zip_2 _ _) (λobj=>F.args_object_init_3 obj _ _) F.entry_zip_new (jbh (l1:=l1) (l2:=l2) t1 t2 w1.toArray w2.toArray) ⟨qw1,qw2,?_⟩;have z1:(zh1 s1.heap l1 t1).objs.size=s1.heap.objs.size+1:=Pg ..;have z2:(zh2 s1.heap l1 l2 t1 t2).objs.size=s1.heap.objs.size+2:=by rw[Pg,z1]
 have z3:(zh3 s1.heap l1 l2 t1 t2).objs.size=s1.heap.objs.size+3:=by rw[Pg,z2]
 have z4:(zh4 s1.heap l1 l2 t1 t2).objs.size=s1.heap.objs.size+4:=by rw[Pg,z3]
 have z5:(zh5 s1.heap l1 l2 t1 t2).objs.size=s1.heap.objs.size+5:=by rw[Pg,z4]
 have b5:(zh5 s1.heap l1 l2 t1 t2).get? (zh4 s1.heap l1 l2 t1 t2).objs.size=a8 _:=xu _ rfl;have b4:(zh5 s1.heap l1 l2 t1 t2).get? (zh3 s1.heap l1 l2 t1 t2).objs.size=a8 _:=km _ (xu _ rfl);have b3:(zh5 s1.heap l1 l2 t1 t2).get? (zh2 s1.heap l1 l2 t1 t2).objs.size=a8 _:=km _ (km _ (xu _ rfl));have b2:(zh5 s1.heap l1 l2 t1 t2).get? (zh1 s1.heap l1 t1).objs.size=a8 _:=km _ (km _ (km _ (xu _ rfl)));have b1:(zh5 s1.heap l1 l2 t1 t2).get? s1.heap.objs.size=a8 _:=km _ (km _ (km _ (km _ (xu _ rfl))));have kp:∀c o,s1.heap.get? c=a8 o->(zh5 s1.heap l1 l2 t1 t2).get? c=a8 o:=λc o e=>km _ (km _ (km _ (km _ (km _ e))));show _/\_;rw[z2,z3,z4]at b5;rw[z1,z2]at b3;rw[z3]at b4;rw[z1]at b2;rw[z4];have I2:Inv X pins σ H1 { s1 with heap:=zh5 s1.heap l1 l2 t1 t2 }:=I1.kept (t':=s1.toks) kp;have lt1:t1<s1.heap.objs.size:=by
  unfold jg at qw1;cases l1 with
  |true=>rw[if_pos rfl]at qw1;obtain⟨_,e,_⟩:=qw1;exact xn e
  |false=>rw[if_neg xj]at qw1;obtain⟨_,e,_⟩:=qw1;exact xn e
 have lt2:t2<s1.heap.objs.size:=by
  unfold jg at qw2;cases l2 with
  |true=>rw[if_pos rfl]at qw2;obtain⟨_,e,_⟩:=qw2;exact xn e
  |false=>rw[if_neg xj]at qw2;obtain⟨_,e,_⟩:=qw2;exact xn e
 have side:∀{l:Bool}{j t:aj},(zh5 s1.heap l1 l2 t1 t2).get? j=a8 { cls:=.type (Bw l),data:=.fields #[.ref t,.int 0 0] }->jj l (zh5 s1.heap l1 l2 t1 t2) j t 0:=λ{l j t} e=>by
  unfold jj;cases l with
  |true=>rw[if_pos rfl];exact⟨_,e,rfl,rfl⟩
  |false=>rw[if_neg xj];exact⟨_,e,rfl,rfl⟩
 refine⟨⟨_,b5,rfl⟩,lT (s:={ s1 with heap:=zh5 s1.heap l1 l2 t1 t2 }) b5 ?_⟩;refine⟨_,_,_,Itz X.K l1 l2 t1 t2,H1,rfl,I2,j7z (zipApart_new lt1 lt2),⟨b5,b3,⟨_,_,b4⟩,side b1,side b2⟩,λc hc=>?_,q _ H1 g1 (j94 sq1 sq2 en1 en2)⟩;have hc':c=s1.heap.objs.size+4\/c=s1.heap.objs.size+2\/c=s1.heap.objs.size+3\/c=s1.heap.objs.size\/c=s1.heap.objs.size+1:=by simpa using hc
 have hge:s1.heap.objs.size<=c:=by rcases hc' with e|e|e|e|e<;>rw[e]<;>first|exact X3 _|exact kC _ _
 obtain⟨f0,f1,f2,f3,f4,f5⟩:=I1.fpOk hge (I1.hok.fresh hge);exact⟨f0,f1,f2,f3,f4,f5⟩
def DG.pair{x y:aq}(i j:Nat){d d':D}(hij:i≠j)(hN:X.N.Nodup)(hi:X.N[i]?=a8 x:=by rfl)(hj:X.N[j]?=a8 y:=by rfl)(hx:Loc X.env.scope x:=by first|exact aV rfl|exact bU rfl)(hy:Loc X.env.scope y:=by first|exact aV rfl|exact bU rfl)
  (fx:X.fn x=ah\/X.env.scope.names.lookup x=a8 .local:=by first|exact .inl rfl|exact .inr rfl) (fy:X.fn y=ah\/X.env.scope.names.lookup y=a8 .local:=by first|exact .inl rfl|exact .inr rfl) (hc:X.calm=ah:=by rfl)
  (hn:(bR [.Name x q1,.Name y q2] X.env).length=2:=by rfl) (hst:(bR [.Name x q1,.Name y q2] X.env).findIdx? (·.1)=ae:=by rfl)
  (e1:(bR [.Name x q1,.Name y q2] X.env).map (·.2)=fO (.Name x q1) X.env::(bR [.Name y q2] X.env).map (·.2):=by rfl) (e2:(bR [.Name y q2] X.env).map (·.2)=fO (.Name y q2) X.env::(bR [] X.env).map (·.2):=by rfl) :
  DG X ρ (.Tuple [.Name x q1,.Name y q2] n pos) (.tup [d,d']) ((ρ.set i (.val d)).set j (.val d')):=by
 refine⟨λb hb=>(jf rfl).subset ((jf rfl).subset hb),λσ H v Q R en q=>?_⟩;obtain⟨t,xs,ev,sq,u,r,e,eu,u',r',e',eu',er⟩:=en;subst e e' ev er;refine(jfj hc (j0w (Yx hN hi hx fx) (j0w (Yx hN hj hy fy) jck e2) e1) hn hst).to ⟨t,[u,u'],rfl,jk.seqT sq,rfl,u,[u'],rfl,u',[],rfl,rfl,?_⟩;refine q _ ?_;have R1:Rep X.K (ρ.set i (.val d)) (σ.set i (a8 u)) H:=R.set_val eu;exact R1.set_val (eu'.mono (J0 λb hb=>(jf rfl).subset hb))
end
noncomputable def D.ty:D->String
 |.non=>"NoneType"
 |.bl _=>"bool"
 |.int _=>"int"
 |.str _=>"str"
 |.tup _=>"tuple"
 |.lst _=>"list"
 |.dct _ _=>"dict"
 |.sct _=>"dict"
 |.fn _ _=>"function"
mutual
noncomputable def deq:D->D->Bool
 |.non,.non=>ah
 |.bl a,.bl b=>a==b
 |.bl a,.int b=>(if a then 1 else 0)==b
 |.int a,.bl b=>a==(if b then 1 else 0)
 |.int a,.int b=>a==b
 |.str a,.str b=>a==b
 |.tup xs,.tup ys=>vg xs ys
 |.lst xs,.lst ys=>vg xs ys
 |.dct k xs,.dct m ys=>decide (k=m)&&vg xs ys
 |.sct k,.sct m=>decide (k=m)
 |_,_=>a9
noncomputable def vg:List D->List D->Bool
 |[],[]=>ah
 |x::xs,y::ys=>deq x y&&vg xs ys
 |_,_=>a9
end
def jhi{a b:Bool}:deq (.bl a) (.bl b)=(a==b):=(rfl)
def j78{a b:Int}:deq (.int a) (.int b)=(a==b):=(rfl)
def jhh{a b:aq}:deq (.str a) (.str b)=(a==b):=(rfl)
def j1p{a b:List D}:deq (.tup a) (.tup b)=vg a b:=(rfl)
def j77{a b:List D}:deq (.lst a) (.lst b)=vg a b:=(rfl)
def Ud:vg [] []=ah:=(rfl)
def Qw{x y:D}{xs ys:List D}:vg (x::xs) (y::ys)=(deq x y&&vg xs ys):=(rfl)
def Ov{y:D}{ys:List D}:vg [] (y::ys)=a9:=(rfl)
def Ow{x:D}{xs:List D}:vg (x::xs) []=a9:=(rfl)
mutual
noncomputable def D.dep:D->Nat
 |.tup xs=>D.depL xs+1
 |.lst xs=>D.depL xs+1
 |.dct _ _=>20000
 |.sct _=>20000
 |.fn _ _=>20000
 |_=>0
noncomputable def D.depL:List D->Nat
 |[]=>0
 |x::xs=>max x.dep (D.depL xs)
end
mutual
theorem Nt:∀d:D,d.dep<10000->deq d d=ah
 |.non,_=>rfl
 |.bl b,_=>by rw[jhi];simp
 |.int i,_=>by rw[j78];simp
 |.str x,_=>by rw[jhh];simp
 |.tup xs,h=>by rw[j1p];exact Mx xs (by simp only[D.dep]at h;omega)
 |.lst xs,h=>by rw[j77];exact Mx xs (by simp only[D.dep]at h;omega)
 |.dct _ _,h=>by simp[D.dep]at h
 |.sct _,h=>by simp[D.dep]at h
 |.fn _ _,h=>by simp[D.dep]at h
theorem Mx:∀ds:List D,D.depL ds<10000->vg ds ds=ah
 |[],_=>rfl
 |d::ds,h=>by rw[D.depL]at h;rw[Qw,Nt d nofun,Mx ds nofun];rfl
end
theorem Ue:∀{xs ys:List D},xs.length≠ys.length->vg xs ys=a9
 |[],[],h=>absurd rfl h
 |[],_::_,_=>by simp[Ud,Qw,Ov,Ow]
 |_::_,[],_=>by simp[Ud,Qw,Ov,Ow]
 |x::xs,y::ys,h=>by have:=Ue (xs:=xs) (ys:=ys) (by simpa using h);simp[Ud,Qw,Ov,Ow,this]
theorem V6{f:Nat->Bool}:∀{xs ys:List D},xs.length=ys.length->(∀(j:Nat) x y,xs[j]?=a8 x->ys[j]?=a8 y->f j=deq x y)->(aA xs.length).all f=vg xs ys
 |[],[],_,_=>by simp[Ud,Qw,Ov,Ow]
 |[],_::_,h,_=>by simp at h
 |_::_,[],h,_=>by simp at h
 |x::xs,y::ys,h,hf=>by have ih:=V6 (f:=λj=>f (j+1)) (xs:=xs) (ys:=ys) (by simpa using h) (λj a b ha hb=>hf (j+1) a b (by simpa using ha) (by simpa using hb));rw[xx,cP,ik,hf 0 x y rfl rfl,lG];simp only[Qw];rw[<-ih];rfl
section
variable{X:Cx}{pins:k98}{σ:St}{H:Hp}{s:ao}
def j12(I:Inv X pins σ H s){a:aj}{xs ys:List V}(h:SqT X.K H a xs)(h':SqL X.K H a ys):False:=by obtain⟨_,_,⟨o,h1,h2,_⟩,_⟩:=I.tuple h;obtain⟨_,_,⟨o',n,h1',h2',_⟩,_⟩:=I.list h';rw[h1]at h1';cases h1';rw[h2]at h2';injection h2' with e;exact absurd e (by decide)
noncomputable def D.atom:D->Option V
 |.non=>a8 .non
 |.bl b=>a8 (.bl b)
 |.int i=>a8 (.int i)
 |.str x=>a8 (.str x)
 |_=>ae
def Enc.at_{K:k96}{d:D}{v u:V}(h:Enc K H d v)(e:d.atom=a8 u):v=u:=by
 cases d with
 |non=>cases e;exact(show v=.non from h)
 |bl b=>cases e;exact(show v=.bl b from h)
 |int i=>cases e;exact(show v=.int i from h)
 |str x=>cases e;exact(show v=.str x from h)
 |_=>cases e
def Enc.ref{K:k96}{d:D}{v:V}(h:Enc K H d v)(e:d.atom=ae):∃a,v=.ref a:=by
 cases d with
 |tup l=>obtain⟨a,_,e,_⟩:=h;exact⟨a,e⟩
 |lst l=>obtain⟨a,_,e,_⟩:=h;exact⟨a,e⟩
 |dct k l=>obtain⟨a,_,_,_,e,_⟩:=h;exact⟨a,e⟩
 |sct k=>obtain⟨a,e,_⟩:=h;exact⟨a,e⟩
 |fn x l=>obtain⟨a,_,_,_,_,e,_⟩:=h;exact⟨a,e⟩
 |_=>cases e
def jad{d d':D}{u:V}(h:d.atom=a8 u)(h':d'.atom=a8 u):d=d':=by cases d<;>cases d'<;>first|(cases h;done)|(cases h';done)|(cases h;cases h';rfl)|(cases h;cases h')
def j22{d:D}{a:aj}(h:d.atom=a8 (.ref a)):False:=by cases d<;>cases h
def jgs(I:Inv X pins σ H s){d d':D}{v:V}(hd:d.dep<10000)(hd':d'.dep<10000)(h:Enc X.K H d v)(h':Enc X.K H d' v) :
  d=d'\/∃ds ds' xs,((d=.tup ds/\d'=.tup ds')\/(d=.lst ds/\d'=.lst ds'))/\j4 X.K H ds xs/\j4 X.K H ds' xs:=by
 cases e:d.atom with
 |some u =>
  have ev:=h.at_ e;subst ev;cases e':d'.atom with
  |some u'=>exact .inl (jad e ((h'.at_ e')▸e'))
  |none=>obtain⟨a,ea⟩:=h'.ref e';subst ea;exact(j22 e).elim
 |none =>
  cases e':d'.atom with
  |some u'=>have ev:=h'.at_ e';subst ev;obtain⟨a,ea⟩:=h.ref e;subst ea;exact(j22 e').elim
  |none =>
   cases d with
   |tup ds =>
    obtain⟨a,xs,ea,sq,l⟩:=h;cases d' with
    |tup ds' =>obtain⟨a',ys,eb,sq',l'⟩:=h';rw[ea]at eb;cases eb;rw[I.tuple_inj sq' sq]at l';exact .inr ⟨ds,ds',xs,.inl ⟨rfl,rfl⟩,l,l'⟩
    |lst ds'=>obtain⟨a',ys,eb,sq',l'⟩:=h';rw[ea]at eb;cases eb;exact(j12 I sq sq').elim
    |dct _ _=>simp[D.dep]at hd'
    |sct _=>simp[D.dep]at hd'
    |fn _ _=>simp[D.dep]at hd'
    |_=>cases e'
   |lst ds =>
    obtain⟨a,xs,ea,sq,l⟩:=h;cases d' with
    |lst ds' =>obtain⟨a',ys,eb,sq',l'⟩:=h';rw[ea]at eb;cases eb;rw[I.list_inj sq' sq]at l';exact .inr ⟨ds,ds',xs,.inr ⟨rfl,rfl⟩,l,l'⟩
    |tup ds'=>obtain⟨a',ys,eb,sq',l'⟩:=h';rw[ea]at eb;cases eb;exact(j12 I sq' sq).elim
    |dct _ _=>simp[D.dep]at hd'
    |sct _=>simp[D.dep]at hd'
    |fn _ _=>simp[D.dep]at hd'
    |_=>cases e'
   |dct _ _=>simp[D.dep]at hd
   |sct _=>simp[D.dep]at hd
   |fn _ _=>simp[D.dep]at hd
   |_=>cases e
theorem j9b{n:Nat}(ih:∀{d d':D}{v:V},d.dep<=n->d.dep<10000->d'.dep<10000->Enc X.K H d v->Enc X.K H d' v->d=d'):∀{ds ds':List D}{xs:List V},D.depL ds<=n->D.depL ds<10000->D.depL ds'<10000->j4 X.K H ds xs->j4 X.K H ds' xs->ds=ds'
 |[],[],_,_,_,_,_,_=>rfl
 |[],_::_,_,_,_,_,h,⟨x,r,e,_⟩=>by cases h;cases e
 |_::_,[],_,_,_,_,⟨x,r,e,_⟩,h=>by cases h;cases e
 |d::ds,d'::ds',_,m,n1,n2,⟨x,r,e,h,l⟩,⟨x',r',e',h',l'⟩=>by subst e;cases e';rw[D.depL]at m n1 n2;rw[ih nofun nofun nofun h h',j9b ih nofun nofun nofun l l']
theorem j9a(I:Inv X pins σ H s):∀(n:Nat){d d':D}{v:V},d.dep<=n->d.dep<10000->d'.dep<10000->Enc X.K H d v->Enc X.K H d' v->d=d'
 |0,d,d',v,hn,hd,hd',h,h'=>by
  rcases jgs I hd hd' h h' with e|⟨ds,ds',xs,⟨e,_⟩|⟨e,_⟩,_⟩
  .exact e
  .subst e;simp[D.dep]at hn
  .subst e;simp[D.dep]at hn
 |n+1,d,d',v,hn,hd,hd',h,h'=>by
  rcases jgs I hd hd' h h' with e|⟨ds,ds',xs,⟨e,e'⟩|⟨e,e'⟩,l,l'⟩
  .exact e
  .subst e e';simp only[D.dep]at hn hd hd';rw[j9b (λa b c=>j9a I n a b c) nofun nofun nofun l l']
  .subst e e';simp only[D.dep]at hn hd hd';rw[j9b (λa b c=>j9a I n a b c) nofun nofun nofun l l']
def Enc.inj(I:Inv X pins σ H s){d d':D}{v:V}(hd:d.dep<10000)(hd':d'.dep<10000)(h:Enc X.K H d v)(h':Enc X.K H d' v):d=d':=j9a I d.dep (X3 _) hd hd' h h'
end
section
variable{X:Cx}{pins:k98}{σ:St}{H:Hp}{s:ao}
theorem D.depL_le:∀{ds:List D}{j:Nat}{d:D},ds[j]?=a8 d->d.dep<=D.depL ds
 |[],_,_,h=>by simp at h
 |x::xs,0,d,h=>by simp at h;subst h;simp[D.depL];omega
 |x::xs,j+1,d,h=>by have:=D.depL_le (ds:=xs) (j:=j) (d:=d) (by simpa using h);simp[D.depL];omega
theorem Vi(I:Inv X pins σ H s):∀(n:Nat)(A:aF){d d':D}{v v':V}{u u':ai},d.dep<=n->A.units+n<aQ->d'.dep<10000->Enc X.K H d v->RelV v u->Enc X.K H d' v'->RelV v' u' ->
  gD A s u u' (deq d d')/\cU A s u u' (deq d d')
 |0,A,d,d',v,v',u,u',hn,hu,nd,en,r,en',r'=>by
  have hu0:A.units<aQ:=by omega
  cases d with
  |tup l=>simp[D.dep]at hn
  |lst l=>simp[D.dep]at hn
  |dct ks l=>simp[D.dep]at hn
  |sct k=>simp[D.dep]at hn
  |fn x l=>simp[D.dep]at hn
  |non =>
   cases(show v=.non from en);cases(show u=aY from r);cases d' with
   |dct ks' l'=>simp[D.dep]at nd
   |sct k'=>simp[D.dep]at nd
   |fn x' l'=>simp[D.dep]at nd
   |non=>cases(show v'=.non from en');cases(show u'=aY from r');exact⟨.none_none,.same _⟩
   |bl k=>cases(show v'=.bl k from en');cases(show u'=bW k from r');exact⟨.none_bool _,.none_bool _⟩
   |int k=>cases(show v'=.int k from en');obtain⟨t,q⟩:=(show ∃t,u'=br k t from r');subst q;exact⟨.none_int _ _,.none_int _ _⟩
   |str k=>cases(show v'=.str k from en');obtain⟨t,q⟩:=(show ∃t,u'=bA k t from r');subst q;exact⟨.none_str _ _,.none_str _ _⟩
   |tup l=>obtain⟨a,xs,e,sq,_⟩:=en';subst e;cases(show u'=aI a from r');obtain⟨_,_,q,_⟩:=I.tuple sq;exact⟨.none_tuple q hu0,.none_tuple q hu0⟩
   |lst l=>obtain⟨a,xs,e,sq,_⟩:=en';subst e;cases(show u'=aI a from r');obtain⟨_,_,q,_⟩:=I.list sq;exact⟨.none_list q.isList hu0,.none_list q.isList hu0⟩
  |bl b =>
   cases(show v=.bl b from en);cases(show u=bW b from r);cases d' with
   |dct ks' l'=>simp[D.dep]at nd
   |sct k'=>simp[D.dep]at nd
   |fn x' l'=>simp[D.dep]at nd
   |non=>cases(show v'=.non from en');cases(show u'=aY from r');exact⟨.bool_none _,.bool_none _⟩
   |bl k=>cases(show v'=.bl k from en');cases(show u'=bW k from r');exact⟨.bool_bool _ _,.bool_bool _ _⟩
   |int k=>cases(show v'=.int k from en');obtain⟨t,q⟩:=(show ∃t,u'=br k t from r');subst q;exact⟨.bool_int _ _ _,.bool_int _ _ _⟩
   |str k=>cases(show v'=.str k from en');obtain⟨t,q⟩:=(show ∃t,u'=bA k t from r');subst q;exact⟨.bool_str _ _ _,.bool_str _ _ _⟩
   |tup l=>obtain⟨a,xs,e,sq,_⟩:=en';subst e;cases(show u'=aI a from r');obtain⟨_,_,q,_⟩:=I.tuple sq;exact⟨.bool_tuple _ q hu0,.bool_tuple _ q hu0⟩
   |lst l=>obtain⟨a,xs,e,sq,_⟩:=en';subst e;cases(show u'=aI a from r');obtain⟨_,_,q,_⟩:=I.list sq;exact⟨.bool_list _ q.isList hu0,.bool_list _ q.isList hu0⟩
  |int b =>
   cases(show v=.int b from en);obtain⟨tk,q0⟩:=(show ∃t,u=br b t from r);subst q0;cases d' with
   |dct ks' l'=>simp[D.dep]at nd
   |sct k'=>simp[D.dep]at nd
   |fn x' l'=>simp[D.dep]at nd
   |non=>cases(show v'=.non from en');cases(show u'=aY from r');exact⟨.int_none _ _,.int_none _ _⟩
   |bl k=>cases(show v'=.bl k from en');cases(show u'=bW k from r');exact⟨.int_bool _ _ _,.int_bool _ _ _⟩
   |int k=>cases(show v'=.int k from en');obtain⟨t,q⟩:=(show ∃t,u'=br k t from r');subst q;exact⟨.int_int _ _ _ _,.int_int _ _ _ _⟩
   |str k=>cases(show v'=.str k from en');obtain⟨t,q⟩:=(show ∃t,u'=bA k t from r');subst q;exact⟨.int_str _ _ _ _,.int_str _ _ _ _⟩
   |tup l=>obtain⟨a,xs,e,sq,_⟩:=en';subst e;cases(show u'=aI a from r');obtain⟨_,_,q,_⟩:=I.tuple sq;exact⟨.int_tuple _ _ q hu0,.int_tuple _ _ q hu0⟩
   |lst l=>obtain⟨a,xs,e,sq,_⟩:=en';subst e;cases(show u'=aI a from r');obtain⟨_,_,q,_⟩:=I.list sq;exact⟨.int_list _ _ q.isList hu0,.int_list _ _ q.isList hu0⟩
  |str b =>
   cases(show v=.str b from en);obtain⟨tk,q0⟩:=(show ∃t,u=bA b t from r);subst q0;cases d' with
   |dct ks' l'=>simp[D.dep]at nd
   |sct k'=>simp[D.dep]at nd
   |fn x' l'=>simp[D.dep]at nd
   |non=>cases(show v'=.non from en');cases(show u'=aY from r');exact⟨.str_none _ _,.str_none _ _⟩
   |bl k=>cases(show v'=.bl k from en');cases(show u'=bW k from r');exact⟨.str_bool _ _ _,.str_bool _ _ _⟩
   |int k=>cases(show v'=.int k from en');obtain⟨t,q⟩:=(show ∃t,u'=br k t from r');subst q;exact⟨.str_int _ _ _ _,.str_int _ _ _ _⟩
   |str k=>cases(show v'=.str k from en');obtain⟨t,q⟩:=(show ∃t,u'=bA k t from r');subst q;exact⟨.str_str _ _ _ _,.str_str _ _ _ _⟩
   |tup l=>obtain⟨a,xs,e,sq,_⟩:=en';subst e;cases(show u'=aI a from r');obtain⟨_,_,q,_⟩:=I.tuple sq;exact⟨.str_tuple _ _ q hu0,.str_tuple _ _ q hu0⟩
   |lst l=>obtain⟨a,xs,e,sq,_⟩:=en';subst e;cases(show u'=aI a from r');obtain⟨_,_,q,_⟩:=I.list sq;exact⟨.str_list _ _ q.isList hu0,.str_list _ _ q.isList hu0⟩
 |n+1,A,d,d',v,v',u,u',hn,hu,nd,en,r,en',r'=>by
  have hu0:A.units<aQ:=by omega
  have hu1:A.in1.units+n<aQ:=by show A.units+1+n<aQ;omega
  have low:d.dep<=n->gD A s u u' (deq d d')/\cU A s u u' (deq d d'):=λh=>Vi I n A h nofun nd en r en' r';cases d with
  |non=>exact low (by simp[D.dep])
  |bl b=>exact low (by simp[D.dep])
  |int b=>exact low (by simp[D.dep])
  |str b=>exact low (by simp[D.dep])
  |dct ks l=>exfalso;have:(9900:Nat)=aQ:=rfl;simp only[D.dep]at hn;omega
  |sct k=>exfalso;have:(9900:Nat)=aQ:=rfl;simp only[D.dep]at hn;omega
  |fn x l=>exfalso;have:(9900:Nat)=aQ:=rfl;simp only[D.dep]at hn;omega
  |tup ds =>
   have hd:D.depL ds<=n:=by simp[D.dep]at hn;omega
   obtain⟨a,xs,e,sq,l⟩:=id en;subst e;cases(show u=aI a from r);obtain⟨us,rv,q,_⟩:=I.tuple sq;cases d' with
   |dct ks' l'=>simp[D.dep]at nd
   |sct k'=>simp[D.dep]at nd
   |fn x' l'=>simp[D.dep]at nd
   |non=>cases(show v'=.non from en');cases(show u'=aY from r');exact⟨.tuple_none q hu0,.tuple_none q hu0⟩
   |bl k=>cases(show v'=.bl k from en');cases(show u'=bW k from r');exact⟨.tuple_bool _ q hu0,.tuple_bool _ q hu0⟩
   |int k=>cases(show v'=.int k from en');obtain⟨t,q'⟩:=(show ∃t,u'=br k t from r');subst q';exact⟨.tuple_int _ _ q hu0,.tuple_int _ _ q hu0⟩
   |str k=>cases(show v'=.str k from en');obtain⟨t,q'⟩:=(show ∃t,u'=bA k t from r');subst q';exact⟨.tuple_str _ _ q hu0,.tuple_str _ _ q hu0⟩
   |lst ds'=>obtain⟨a',ys,e,sq',_⟩:=en';subst e;cases(show u'=aI a' from r');obtain⟨_,_,q',_⟩:=I.list sq';exact⟨.tuple_list q q'.isList hu0,.tuple_list q q'.isList hu0⟩
   |tup ds' =>
    obtain⟨a',ys,e,sq',l'⟩:=id en';subst e;cases(show u'=aI a' from r');obtain⟨us',rv',q',_⟩:=I.tuple sq';have e1:us.length=ds.length:=by rw[<-rv.length,l.length]
    have e2:us'.length=ds'.length:=by rw[<-rv'.length,l'.length]
    have main:gD A s (.ref a) (.ref a') (deq (.tup ds) (.tup ds')):=by
     have item:∀(j:Nat)(h1:j<us.toArray.size)(h2:j<us'.toArray.size),cU A.in1 s us.toArray[j] us'.toArray[j] (deq (ds.getD j .non) (ds'.getD j .non)):=λj h1 h2=>by
      have k1:j<ds.length:=by rw[<-e1];simpa using h1
      have k2:j<ds'.length:=by rw[<-e2];simpa using h2
      obtain⟨x,hx,ex⟩:=l.get (kh k1);obtain⟨y,hy,ey⟩:=l'.get (kh k2);obtain⟨w1,hw1,rw1⟩:=rv.get hx;obtain⟨w2,hw2,rw2⟩:=rv'.get hy;have g1:us.toArray[j]=w1:=by simp at h1 ⊢;rw[kh (by simpa using h1)]at hw1;exact az hw1
      have g2:us'.toArray[j]=w2:=by simp at h2 ⊢;rw[kh (by simpa using h2)]at hw2;exact az hw2
      rw[g1,g2,kj,kj,kh k1,kh k2];exact(Vi I n A.in1 (Xg (D.depL_le (kh k1)) hd) hu1 (cF (D.depL_le (kh k2)) (by simp only[D.dep]at nd;omega)) ex rw1 ey rw2).2
     have z:=SeqAt.RcAt.tuples (A:=A) (s:=s) q q' hu0 (e:=λj=>deq (ds.getD j .non) (ds'.getD j .non)) item;have ev:((aA (min us.toArray.size us'.toArray.size)).all (λj=>deq (ds.getD j .non) (ds'.getD j .non))&&us.toArray.size==us'.toArray.size)=deq (.tup ds) (.tup ds'):=by
      simp only[j1p,X7,e1,e2];by_cases hl:ds.length=ds'.length
      .rw[hl,m8,beq_self_eq_true,lb,<-hl];exact V6 hl λj x y hx hy=>by rw[kj,kj,hx,hy];rfl
      .rw[Ue hl,beq_false_of_ne hl,gY]
     rw[ev]at z;exact z
    refine⟨main,?_⟩;by_cases ea:a=a'
    .subst ea;have e9:(9900:Nat)=aQ:=rfl;rw[Enc.inj I nofun nd en en',Nt _ nd];exact .same _
    .exact .of_refs ea main
  |lst ds =>
   have hd:D.depL ds<=n:=by simp[D.dep]at hn;omega
   obtain⟨a,xs,e,sq,l⟩:=id en;subst e;cases(show u=aI a from r);obtain⟨us,rv,q0,_⟩:=I.list sq;have q:=q0.isList;cases d' with
   |dct ks' l'=>simp[D.dep]at nd
   |sct k'=>simp[D.dep]at nd
   |fn x' l'=>simp[D.dep]at nd
   |non=>cases(show v'=.non from en');cases(show u'=aY from r');exact⟨.list_none q hu0,.list_none q hu0⟩
   |bl k=>cases(show v'=.bl k from en');cases(show u'=bW k from r');exact⟨.list_bool _ q hu0,.list_bool _ q hu0⟩
   |int k=>cases(show v'=.int k from en');obtain⟨t,q'⟩:=(show ∃t,u'=br k t from r');subst q';exact⟨.list_int _ _ q hu0,.list_int _ _ q hu0⟩
   |str k=>cases(show v'=.str k from en');obtain⟨t,q'⟩:=(show ∃t,u'=bA k t from r');subst q';exact⟨.list_str _ _ q hu0,.list_str _ _ q hu0⟩
   |tup ds'=>obtain⟨a',ys,e,sq',_⟩:=en';subst e;cases(show u'=aI a' from r');obtain⟨_,_,q',_⟩:=I.tuple sq';exact⟨.list_tuple q q' hu0,.list_tuple q q' hu0⟩
   |lst ds' =>
    obtain⟨a',ys,e,sq',l'⟩:=id en';subst e;cases(show u'=aI a' from r');obtain⟨us',rv',q0',_⟩:=I.list sq';have q':=q0'.isList;have e1:us.length=ds.length:=by rw[<-rv.length,l.length]
    have e2:us'.length=ds'.length:=by rw[<-rv'.length,l'.length]
    have main:gD A s (.ref a) (.ref a') (deq (.lst ds) (.lst ds')):=by
     have item:∀(j:Nat)(h1:j<us.toArray.size)(h2:j<us'.toArray.size),cU A.in1 s us.toArray[j] us'.toArray[j] (deq (ds.getD j .non) (ds'.getD j .non)):=λj h1 h2=>by
      have k1:j<ds.length:=by rw[<-e1];simpa using h1
      have k2:j<ds'.length:=by rw[<-e2];simpa using h2
      obtain⟨x,hx,ex⟩:=l.get (kh k1);obtain⟨y,hy,ey⟩:=l'.get (kh k2);obtain⟨w1,hw1,rw1⟩:=rv.get hx;obtain⟨w2,hw2,rw2⟩:=rv'.get hy;have g1:us.toArray[j]=w1:=by simp at h1 ⊢;rw[kh (by simpa using h1)]at hw1;exact az hw1
      have g2:us'.toArray[j]=w2:=by simp at h2 ⊢;rw[kh (by simpa using h2)]at hw2;exact az hw2
      rw[g1,g2,kj,kj,kh k1,kh k2];exact(Vi I n A.in1 (Xg (D.depL_le (kh k1)) hd) hu1 (cF (D.depL_le (kh k2)) (by simp only[D.dep]at nd;omega)) ex rw1 ey rw2).2
     simp only[j77];by_cases hl:ds.length=ds'.length
     .have z:=SeqAt.RcAt.lists (A:=A) (s:=s) q q' (by simp[e1,e2,hl]) hu0 (e:=λj=>deq (ds.getD j .non) (ds'.getD j .non)) item;have ev:(aA us.toArray.size).all (λj=>deq (ds.getD j .non) (ds'.getD j .non))=vg ds ds':=by rw[X7,e1];exact V6 hl λj x y hx hy=>by rw[kj,kj,hx,hy];rfl
      rw[ev]at z;exact z
     .rw[Ue hl];exact .lists_lengths q q' (by simp[e1,e2,hl]) hu0
    refine⟨main,?_⟩;by_cases ea:a=a'
    .subst ea;have e9:(9900:Nat)=aQ:=rfl;rw[Enc.inj I nofun nd en en',Nt _ nd];exact .same _
    .exact .of_refs ea main
end
section
variable{X:Cx}{pins:k98}{σ:St}{H:Hp}{s:ao}{A:aF}
def j97(I:Inv X pins σ H s){n:Nat}{ds ds':List D}{xs ys:List V}{us us':List ai}(l:j4 X.K H ds xs)(rv:Vals xs us)(l':j4 X.K H ds' ys)(rv':Vals ys us')(hd:D.depL ds<=n)(hu:A.units+1+n<aQ)(nd:D.depL ds'<10000) :
  ∀(j:Nat)(h1:j<us.toArray.size)(h2:j<us'.toArray.size),cU A.in1 s us.toArray[j] us'.toArray[j] (deq (ds.getD j .non) (ds'.getD j .non)):=λj h1 h2=>by
 have k1:j<ds.length:=by rw[<-l.length,rv.length];simpa using h1
 have k2:j<ds'.length:=by rw[<-l'.length,rv'.length];simpa using h2
 obtain⟨x,hx,ex⟩:=l.get (kh k1);obtain⟨y,hy,ey⟩:=l'.get (kh k2);obtain⟨w1,hw1,rw1⟩:=rv.get hx;obtain⟨w2,hw2,rw2⟩:=rv'.get hy;have g1:us.toArray[j]=w1:=by simp at h1 ⊢;rw[kh (by simpa using h1)]at hw1;exact az hw1
 have g2:us'.toArray[j]=w2:=by simp at h2 ⊢;rw[kh (by simpa using h2)]at hw2;exact az hw2
 rw[g1,g2,kj,kj,kh k1,kh k2];exact(Vi I n A.in1 (Xg (D.depL_le (kh k1)) hd) hu (cF (D.depL_le (kh k2)) nd) ex rw1 ey rw2).2
def j6d(hu:X.A.units+100<aQ):OpR X (aX .Eq) (λx y H Q=>∃d d',Enc X.K H d x/\Enc X.K H d' y/\d.dep<=100/\d'.dep<10000/\Q (.bl (deq d d')) H):=by rintro pins s σ H x y v u Q I rx ry ⟨d,d',en,en',hd,nd,q⟩;exact(Vi I 100 X.A hd hu nd en rx en' ry).1 X.prog X.w X.xe _ ⟨.bl (deq d d'),H,I,rfl,q⟩
def j6b(hu:X.A.units+100<aQ):OpR X (aX .NotEq) (λx y H Q=>∃ds ds' k,Enc X.K H (D.seq k ds) x/\Enc X.K H (D.seq k ds') y/\D.depL ds<=98/\D.depL ds'<10000/\Q (.bl (!vg ds ds')) H):=by
 rintro pins s σ H x y v u Q I rx ry ⟨ds,ds',k,en,en',hd,nd,q⟩;have h0:X.A.units<aQ:=by omega
 obtain⟨t,xs,e,sq,l⟩:=Z1 en;obtain⟨t',ys,e',sq',l'⟩:=Z1 en';subst e e';cases rx;cases ry;obtain⟨us,rv,qs,_⟩:=I.side sq;obtain⟨us',rv',qs',_⟩:=I.side sq';have e1:us.length=ds.length:=by rw[<-rv.length,l.length]
 have e2:us'.length=ds'.length:=by rw[<-rv'.length,l'.length]
 have item:=j97 (A:=X.A) I l rv l' rv' hd nofun nd;unfold jg at qs qs';cases k with
 |true =>
  rw[if_pos rfl]at qs qs';by_cases hl:ds.length=ds'.length
  .have z:=SeqAt.RcNeAt.lists (A:=X.A) (s:=s) qs qs' (by simp[e1,e2,hl]) h0 (e:=λj=>deq (ds.getD j .non) (ds'.getD j .non)) item;have ev:(aA us.toArray.size).all (λj=>deq (ds.getD j .non) (ds'.getD j .non))=vg ds ds':=by rw[X7,e1];exact V6 hl λj x y hx hy=>by rw[kj,kj,hx,hy];rfl
   rw[ev]at z;exact z X.prog X.w X.xe _ ⟨.bl (!vg ds ds'),H,I,rfl,q⟩
  .have z:=SeqAt.RcNeAt.lists_lengths (A:=X.A) (s:=s) qs qs' (by simp[e1,e2,hl]) h0;rw[Ue hl]at q;exact z X.prog X.w X.xe _ ⟨.bl ah,H,I,rfl,q⟩
 |false =>
  rw[if_neg xj]at qs qs';have z:=SeqAt.RcNeAt.tuples (A:=X.A) (s:=s) qs qs' h0 (e:=λj=>deq (ds.getD j .non) (ds'.getD j .non)) item;have ev:((aA (min us.toArray.size us'.toArray.size)).all (λj=>deq (ds.getD j .non) (ds'.getD j .non))&&us.toArray.size==us'.toArray.size)=vg ds ds':=by
   simp only[X7,e1,e2];by_cases hl:ds.length=ds'.length
   .rw[hl,m8,beq_self_eq_true,lb,<-hl];exact V6 hl λj x y hx hy=>by rw[kj,kj,hx,hy];rfl
   .rw[Ue hl,beq_false_of_ne hl,gY]
  rw[ev]at z;exact z X.prog X.w X.xe _ ⟨.bl (!vg ds ds'),H,I,rfl,q⟩
noncomputable def eqW(X:Cx)(H:Hp)(d:D)(y:ai):Bool:=@decide (∃e v,e.dep<10000/\Enc X.K H e v/\RelV v y/\deq e d=ah) (dE _)
def Mu(I:Inv X pins σ H s){d e:D}{v:V}{y:ai}(he:e.dep<10000)(en:Enc X.K H e v)(r:RelV v y):eqW X H d y=deq e d:=by
 unfold eqW;cases h:deq e d with
 |true=>exact @decide_eq_true _ (dE _) ⟨e,v,he,en,r,h⟩
 |false =>refine @decide_eq_false _ (dE _) λ⟨e',v',he',en',r',h'⟩=>?_;rw[r'.inj r]at en';rw[Enc.inj I he' he en' en,h]at h';cases h'
theorem Ko(I:Inv X pins σ H s){d:D}:∀{ds:List D}{xs:List V}{us:List ai},D.depL ds<10000->j4 X.K H ds xs->Vals xs us->us.any (eqW X H d)=ds.any λe=>deq e d
 |[],_,_,_,h,r=>by cases h;cases r;rfl
 |e::ds,_,_,hd,⟨x,r,eq,h,l⟩,rv=>by
  subst eq;rw[D.depL]at hd;cases rv with
  |cons a b=>rw[fD,fD,Ko I nofun l b,Mu I nofun h a]
theorem Rr(I:Inv X pins σ H s){d:D}:∀{ds:List D}{xs:List V}{us:List ai},D.depL ds<10000->j4 X.K H ds xs->Vals xs us->us.countP (eqW X H d)=ds.countP λe=>deq e d
 |[],_,_,_,h,r=>by cases h;cases r;rfl
 |e::ds,_,_,hd,⟨x,r,eq,h,l⟩,rv=>by
  subst eq;rw[D.depL]at hd;cases rv with
  |cons a b=>rw[Tn,Tn,Rr I nofun l b,Mu I nofun h a]
theorem Vj(I:Inv X pins σ H s){d:D}{v:V}{u:ai}(en:Enc X.K H d v)(r:RelV v u)(nd:d.dep<10000){n:Nat}(hu:A.units+n<aQ):∀{ds:List D}{xs:List V}{us:List ai},D.depL ds<=n->j4 X.K H ds xs->Vals xs us->∀y∈us,cU A s y u (eqW X H d y)
 |[],_,_,_,h,rv,y,hy=>by cases h;cases rv;cases hy
 |e::ds,_,_,hd,⟨x,r',eq,h,l⟩,rv,y,hy=>by
  subst eq;have hd':e.dep<=n/\D.depL ds<=n:=by simp[D.depL]at hd;omega
  cases rv with
  |cons a b =>
   rcases xr.mp hy with rfl|hy
   .have e9:(9900:Nat)=aQ:=rfl;rw[Mu I nofun h a];exact(Vi I n A hd'.1 hu nd h a en r).2
   .exact Vj I en r nd hu hd'.2 l b y hy
def j6c(hu:X.A.units+100<aQ):OpR X (aX .In) (λx y H Q=>∃d ds k,Enc X.K H d x/\Enc X.K H (D.seq k ds) y/\D.depL ds<=98/\d.dep<10000/\Q (.bl (ds.any λe=>deq e d)) H):=by
 rintro pins s σ H x y v u Q I rx ry ⟨d,ds,k,en,en',hd,nd,q⟩;obtain⟨t,xs,e,sq,l⟩:=Z1 en';subst e;cases ry;obtain⟨us,rv,qs,_⟩:=I.side sq;have me:=λy (hy:y∈us.toArray)=>Vj (A:=X.A.in1) I en rx nd (n:=98) (by show X.A.units+1+98<aQ;omega) hd l rv y (by simpa using hy);have ev:us.toArray.any (eqW X H d)=ds.any λe=>deq e d:=by rw[ku];exact Ko I nofun l rv
 unfold jg at qs;cases k with
 |true=>rw[if_pos rfl]at qs;exact SeqAt.in_listAt (eqW X H d) qs me (by rw[ev];exact⟨.bl _,H,I,rfl,q⟩)
 |false=>rw[if_neg xj]at qs;exact SeqAt.in_tupleAt (eqW X H d) qs me (by rw[ev];exact⟨.bl _,H,I,rfl,q⟩)
def Ig(hu:X.A.units+100<aQ):OpR X (aX .NotIn) (λx y H Q=>∃d ds k,Enc X.K H d x/\Enc X.K H (D.seq k ds) y/\D.depL ds<=98/\d.dep<10000/\Q (.bl (!ds.any λe=>deq e d)) H):=by
 rintro pins s σ H x y v u Q I rx ry ⟨d,ds,k,en,en',hd,nd,q⟩;obtain⟨t,xs,e,sq,l⟩:=Z1 en';subst e;cases ry;obtain⟨us,rv,qs,_⟩:=I.side sq;have me:=λy (hy:y∈us.toArray)=>Vj (A:=X.A.in1) I en rx nd (n:=98) (by show X.A.units+1+98<aQ;omega) hd l rv y (by simpa using hy);have ev:us.toArray.any (eqW X H d)=ds.any λe=>deq e d:=by rw[ku];exact Ko I nofun l rv
 unfold jg at qs;cases k with
 |true=>rw[if_pos rfl]at qs;exact SeqAt.notIn_listAt (eqW X H d) qs me (by rw[ev];exact⟨.bl _,H,I,rfl,q⟩)
 |false=>rw[if_neg xj]at qs;exact SeqAt.notIn_tupleAt (eqW X H d) qs me (by rw[ev];exact⟨.bl _,H,I,rfl,q⟩)
def j6k (hu:X.A.units+100<aQ):MtR X "tuple.count" (λx vs H Q=>∃t xs ds d y,x=.ref t/\vs=[y]/\SqT X.K H t xs/\j4 X.K H ds xs/\Enc X.K H d y/\D.depL ds<=97/\d.dep<10000/\Q (.int (ds.countP λe=>deq e d)) H):=by
 rintro pins s σ H x vs v us Q I rx rv ⟨t,xs,ds,d,y,e,e',sq,l,en,hd,nd,q⟩;subst e e';cases rx;obtain⟨u,eu,ru⟩:=rv.one;subst eu;obtain⟨its,ri,⟨⟨cl,dd,da,sl⟩,h1,h2,n,h3⟩,_⟩:=I.tuple sq;have h2:cl=.type "tuple":=h2;have h3:da=.seq its.toArray n:=h3;subst h2 h3;refine bI iE ⟨_,h1,rfl⟩ F.entry_tuple_count (F.args_tuple_count_2 _ _) (SeqAt.tuple_countAt t its.toArray n dd sl u (eqW X H d)) ⟨h1,λy hy=>Vj (n:=97) I en ru nd (by show X.A.units+1+97<aQ;omega) hd l ri y (by simpa using hy),?_⟩;have ev:(its.toArray.toList.countP (eqW X H d):Nat)=ds.countP λe=>deq e d:=by rw[fq];exact Rr I nofun l ri
 rw[ev];exact⟨.int _,H,I.tok _,⟨_,rfl⟩,q⟩
def j8r:OpR X (bg .Add) (λx y H Q=>∃a b xs ys,x=.ref a/\y=.ref b/\SqT X.K H a xs/\SqT X.K H b ys/\xs.length+ys.length<=av /\
  (xs=[]->Q (.ref b) H)/\(xs≠[]->ys=[]->Q (.ref a) H)/\(xs≠[]->ys≠[]->∀p,H p=ae->Q (.ref p) (upd H p (.tup (xs++ys))))):=by
 rintro pins s σ H x y v u Q I rx ry ⟨a,b,xs,ys,e,e',sa,sb,hz,q1,q2,q3⟩;by_cases hx:xs=[]
 .subst e e' hx;cases rx;cases ry;obtain⟨us,ru,⟨⟨c1,d1,f1,g1⟩,h1,k1,n1,m1⟩,_⟩:=I.tuple sa;obtain⟨vs,rv,⟨⟨c2,d2,f2,g2⟩,h2,k2,n2,m2⟩,_⟩:=I.tuple sb;cases ru;have k1:c1=.type "tuple":=k1;have m1:f1=.seq ([]:List ai).toArray n1:=m1;have k2:c2=.type "tuple":=k2;have m2:f2=.seq vs.toArray n2:=m2;subst k1 m1 k2 m2;exact gO ⟨_,h1,rfl⟩ ⟨_,h2,rfl⟩ i4 jv dU dG (dB _ _)
   (tuple_addW0 a b ([]:List ai).toArray vs.toArray n1 n2 d1 d2 g1 g2 (by simp)) ⟨h1,h2,⟨.ref b,H,I,rfl,q1 rfl⟩⟩
 .exact jcp pins s σ H x y v u Q I rx ry ⟨a,b,xs,ys,e,e',sa,sb,hx,hz,q2 hx,q3 hx⟩
theorem all_range:∀bs:List Bool,(aA bs.length).all (λi=>(bs[i]?).getD ah)=bs.all id
 |[]=>rfl
 |b::bs=>by rw[xx,cP,ik,lG,ik,<-all_range bs];rfl
def j2l (hc:X.calm=ah):Qg X (.builtin "all") (λxs H Q=>∃(l:aj)(bs:List Bool),xs=[.ref l]/\SqL X.K H l (bs.map V.bl)/\Q (.bl (bs.all id)) H):=by
 rintro pins s σ H xs us Q I r ⟨l,bs,e,sq,q⟩;subst e;obtain⟨u,eu,ru⟩:=vals1 r;subst eu;cases ru;obtain⟨its,rv,pl,_⟩:=I.list sq;have hlt:l<s.heap.objs.size:=by obtain⟨_,_,e,_⟩:=pl;exact xn e
 have hl:its.length=bs.length:=by rw[<-rv.length,xf]
 refine call_all_walk (bF pl.isList ⟨s.heap.objs.size,[s.heap.objs.size,l],[s.heap.objs.size],its.toArray.size,_,_,λi=>(bs[i]?).getD ah,rfl,Walks.list (A:=X.A.in1) (I.ok.hd hc) _ _ (Xa hlt) its.toArray,⟨⟨_,xu _ rfl,rfl,rfl⟩,pl.isList.push _⟩,?_,λh' tk kp=>?_⟩)
 .intro i v s' Q' E' hv hq;have hi:i<its.length:=by have:=Array.getElem?_eq_some_iff.mp hv;obtain⟨h,_⟩:=this;simpa using h
  have hb:i<bs.length:=by omega
  obtain⟨w1,hw,rw1⟩:=rv.get (x:=.bl bs[i]) (i:=i) (by rw[X4,kh hb];rfl);have:its.toArray[i]?=a8 w1:=by simpa using hw
  rw[this]at hv;cases hv;cases rw1;simp only[kh hb,Tp]at hq;exact bE hq
 .have ev:(aA its.toArray.size).all (λi=>(bs[i]?).getD ah)=bs.all id:=by rw[X7,hl];exact all_range bs
  rw[ev];refine⟨.bl _,H,I.kept (t':=tk) λb o e=>kp b o ?_ (km _ e),rfl,q⟩;intro z;rw[xm.mp z]at e;exact Ph _ (xn e)
end
section
variable{X:Cx}{ρ:Rho}{a b e:au}{d d':D}{ds ds':List D}{i j:Int}{pos p p1 p2:aO}{k:Nat}{x:aq}{P:Po}
def DE.eqD(hu:X.A.units+100<aQ)(ha:DT X ρ a d)(hb:DT X ρ b d')(hd:d.dep<=100)(nd:d'.dep<10000):DE X ρ (.Compare a [.Eq] [b] pos) (.bl (deq d d')):=λσ H Q R q =>(J9 (j6d hu) peS peS (zc _)).to (ha σ H _ R λv H1 g1 e1=>hb σ H1 _ (R.grow g1) λu H2 g2 e2=>⟨d,d',e1.mono g2,e2,hd,nd,q _ H2 (g1.trans g2) rfl⟩)
def DB.eqD(hu:X.A.units+100<aQ)(ha:DT X ρ a d)(hb:DT X ρ b d')(hd:d.dep<=100)(nd:d'.dep<10000):DB X ρ (.Compare a [.Eq] [b] pos) (deq d d'):=λσ H Q R q =>(Jp (j6d hu) peS peS (zc _)).to (ha σ H _ R λv H1 g1 e1=>hb σ H1 _ (R.grow g1) λu H2 g2 e2=>⟨d,d',e1.mono g2,e2,hd,nd,_,rfl,q H2 (g1.trans g2)⟩)
def DB.neD(s:Bool)(hu:X.A.units+100<aQ)(ha:DT X ρ a (D.seq s ds))(hb:DT X ρ b (D.seq s ds'))(hd:D.depL ds<=98)(nd:D.depL ds'<10000):DB X ρ (.Compare a [.NotEq] [b] pos) (!vg ds ds'):=λσ H Q R q =>(Jp (j6b hu) peS peS (zc _)).to (ha σ H _ R λv H1 g1 e1=>hb σ H1 _ (R.grow g1) λu H2 g2 e2=>⟨ds,ds',s,e1.mono g2,e2,hd,nd,_,rfl,q H2 (g1.trans g2)⟩)
def DB.notIn(s:Bool)(hu:X.A.units+100<aQ)(ha:DT X ρ a d)(hb:DT X ρ b (D.seq s ds))(hd:D.depL ds<=98)(nd:d.dep<10000)(hm:aH .NotIn b=a9:=by with_unfolding_all rfl):DB X ρ (.Compare a [.NotIn] [b] pos) (!ds.any λe=>deq e d):=λσ H Q R q =>(Jp (Ig hu) peS peS hm).to (ha σ H _ R λv H1 g1 e1=>hb σ H1 _ (R.grow g1) λu H2 g2 e2=>⟨d,ds,s,e1.mono g2,e2,hd,nd,_,rfl,q H2 (g1.trans g2)⟩)
def DB.in(s:Bool)(hu:X.A.units+100<aQ)(ha:DT X ρ a d)(hb:DT X ρ b (D.seq s ds))(hd:D.depL ds<=98)(nd:d.dep<10000)(hm:aH .In b=a9:=by with_unfolding_all rfl):DB X ρ (.Compare a [.In] [b] pos) (ds.any λe=>deq e d):=λσ H Q R q =>(Jp (j6c hu) peS peS hm).to (ha σ H _ R λv H1 g1 e1=>hb σ H1 _ (R.grow g1) λu H2 g2 e2=>⟨d,ds,s,e1.mono g2,e2,hd,nd,_,rfl,q H2 (g1.trans g2)⟩)
def DE.countT (hu:X.A.units+100<aQ) (ha:DT X ρ a (.tup ds)) (hb:DT X ρ b d) (hd:D.depL ds<=97) (nd:d.dep<10000) (hbase:aW a "count" X.env (aC a X.env)=aC a X.env:=by rfl)
  (hfew:((aP p2 (af [b] X.env)).all (λx=>!x.1)&&(bM p2 (ba [] X.env)).all (λx=>x.1.isSome)
   && decide (([b]:List au).length+([]:List b7).length+(if ([]:List b7).isEmpty then 0 else 1)<30))=ah:=by rfl) (hline:(p1.endLine==p2.line)=ah:=by rfl)
  (hs:af [b] X.env=(a9,aC b X.env)::af [] X.env:=by rfl):DE X ρ (.Call (.Attribute a "count" p1) [b] [] p2) (.int (ds.countP λe=>deq e d)):=λσ H Q R q =>
 (Wz gE iE PySem.F.type_tuple_count (j6k hu) peS (jc peS jt hs) hbase hfew hline hs rfl).to (ha σ H _ R λv H1 g1 ⟨t,xs,e,sq,l⟩=>⟨by rw[e];exact .inr (.inl ⟨rfl,xs,sq⟩),hb σ H1 _ (R.grow g1) λu H2 g2 e2 =>
  ⟨t,xs,ds,d,u,e,rfl,g2.seqT sq,l.mono g2,e2,hd,nd,q _ H2 (g1.trans g2) rfl⟩⟩)
def DE.min (ha:DT X ρ a (.int i)) (hb:DT X ρ b (.int j)) (hm:X.mg "min" = ae) (hc:X.calm=ah:=by rfl) (hg:Gl X "min":=by rfl) (hs:af [a,b] X.env=(a9,aC a X.env)::af [b] X.env:=by rfl) (hs2:af [b] X.env=(a9,aC b X.env)::af [] X.env:=by rfl)
  (hpl:(aP pos (af [b] X.env)).any (·.1)=a9:=by rfl):DE X ρ (.Call (.Name "min" p) [a,b] [] pos) (.int (if j<i then j else i)):=λσ H Q R q =>
 (J3 (j7m hc) hg hm iM (jc peS (jc peS jt hs2) hs) (by decide) (by decide) hs hpl).to (ha σ H _ R λv H1 g1 e1=>hb σ H1 _ (R.grow g1) λu H2 g2 e2=>⟨i,j,by rw[show v=.int i from e1,show u=.int j from e2],q _ H2 (g1.trans g2) rfl⟩)
theorem Nr{K:k96}{H:Hp}:∀{bs:List Bool}{xs:List V},j4 K H (bs.map D.bl) xs->xs=bs.map V.bl
 |[],_,h=>h
 |b::bs,_,⟨x,r,e,h,l⟩=>by subst e;cases(show x=.bl b from h);rw[Nr l];rfl
def DE.all {bs:List Bool} (ha:DT X ρ a (.lst (bs.map D.bl))) (hm:X.mg "all" = ae) (hc:X.calm=ah:=by rfl) (hg:Gl X "all":=by rfl) (hs:af [a] X.env=[(a9,aC a X.env)]:=by rfl):DE X ρ (.Call (.Name "all" p) [a] [] pos) (.bl (bs.all id)):=λσ H Q R q =>(J3 (j2l hc) hg hm boot_all (jc peS jt hs) (by decide) (by decide) hs).to (ha σ H _ R λv H1 g1 ⟨l,xs,e,sq,en⟩=>⟨l,bs,by rw[e],by rw[Nr en]at sq;exact sq,q _ H1 g1 rfl⟩)
def jew(X:Cx)(e:Option au):TO:=λσ H Q=>∀pins s,Inv X pins σ H s->aw (aB X.prog X.w) X.A (evalPart e X.env) (λu s'=>∃o H',Inv X pins σ H' s'/\fQ u o/\Q o H') X.xe s
def poS{e:Option au}:PO X e (jew X e):=λpins s σ H Q I h=>h pins s I
def DP(X:Cx)(ρ:Rho)(e:Option au)(o:Option Int):Prop:=∀σ H Q,Rep X.K ρ σ H->(∀H',j0 H H'->Q o H')->jew X e σ H Q
def DP.none:DP X ρ ae ae:=λσ H Q R q pins s I=>jci pins s σ H Q I (q H (j0.refl H))
def DP.some(h:DT X ρ e (.int i)):DP X ρ (a8 e) (a8 i):=λσ H Q R q pins s I=>jch peS pins s σ H Q I (h σ H _ R λv H1 g1 e1=>⟨i,e1,q H1 g1⟩)
variable{lo hi:Option au}{l u:Option Int}
end
def Fz(o:Option HO):Prop:=(∃xs,o=a8 (.lst xs))\/∃oc v,o=a8 (.frz oc (.own 0))/\oc.data=.cell v
def j71{P:ay}{w:aD}{K:k96}{mg:k99}{base:aE}{A0:aF}{outer:List d9}{s:ao}{H:Hp}{A:List aj}(e0:Env0 P w K mg base A0 outer s H)(hA:∀a∈A,Fz (H a)) :
  Env0 P w K mg base A0 outer s (del H A)/\∀(Q:VK)(E E':XK)(r:eL)(s':ao),CR CX0 outer P w (del H A) s (λv F=>(∀a∈A,F a=ae)->Q v (mrg A H F)) E r s'->CR CX0 outer P w H s Q E' r s':=by
 have nd:∀{b:aj},H b=ae->del H A b=ae:=λ{b} q=>by
  by_cases z:b∈A
  .exact qj z
  .rw[j7 z];exact q
 have out:∀{b:aj}{o:HO},H b=a8 o->(∀ys,o≠.lst ys)->(∀oc v,o=.frz oc (.own 0)->oc.data≠.cell v)->b∉A:=λ{b o} q z z2 y=>by
  rcases hA b y with ⟨ys,e'⟩|⟨oc,v,e',d⟩
  .rw[q]at e';cases e';exact z ys rfl
  .rw[q]at e';cases e';exact z2 _ _ rfl d
 have e1:Env0 P w K mg base A0 outer s (del H A):=⟨e0.frames,e0.mod,λb o q=>⟨(e0.bs b o q).1,nd (e0.bs b o q).2⟩,e0.bsz,e0.funs,λb hb=>nd (e0.frf b hb),
  λa o q=>by
   obtain⟨_,q⟩:=of_del q
   exact ji.stay (e0.hok a o q) (λb u _ z=>z) (λb z=>by rw[j7 (out z (λ_ y=>by cases y) λ_ _ y=>by cases y)];exact z) (λb xs z=>by rw[j7 (out z (λ_ y=>by cases y) λ_ _ y=>by cases y)];exact z)
    (λb o ⟨vs,d⟩ z=>by rw[j7 (out z (λ_ y=>by cases y) λ_ _ y d'=>by cases y;rw[d]at d';cases d')];exact z),e0.bare⟩
 refine⟨e1,λQ E E' r s' hq=>?_⟩;cases r with
 |error e=>exact(show False from hq).elim
 |ok fl =>
  cases fl with
  |next=>exact(show False from hq).elim
  |brk=>exact(show False from hq).elim
  |cont=>exact(show False from hq).elim
  |ret u =>
   obtain⟨v,H',os,bare,un,hok',rel,q⟩:=(show CE outer P w (del H A) s _ u s' from hq)
   have kept:∀a∈A,∃o,s.heap.get? a=a8 o/\s'.heap.get? a=a8 o/\H' a=ae:=λa ha=>by
    have nf:a∉frs outer:=λy=>by have z:=e0.frf a y;rcases hA a ha with ⟨xs,e⟩|⟨oc,v,e,_⟩<;>(rw[z]at e;cases e)
    have ob:∃o,s.heap.get? a=a8 o:=by
     rcases hA a ha with ⟨xs,e⟩|⟨oc,v,e,_⟩
     .obtain⟨_,its,n,_,z⟩:=(show ji P w H s.heap a (.lst xs)from e0.hok _ _ e);exact⟨_,z⟩
     .exact⟨_,(show ji P w H s.heap a (.frz oc (.own 0))from e0.hok _ _ e).1⟩
    obtain⟨o,z⟩:=ob;exact⟨_,z,un.keep a _ z (qj ha) nf (by simp),un.free a _ z (qj ha) (by simp)⟩
   have hF:∀a∈A,H' a=ae:=λa ha=>let ⟨_,_,_,z⟩:=kept a ha;z;have outF:∀{b:aj}{o:HO},H' b=a8 o->b∉A:=λ{b o} e z=>by rw[hF b z]at e;cases e
   refine⟨v,mrg A H H',os,bare,?_,λa o e=>?_,rel,q hF⟩
   .exact{
     keep:=λb o e n=>un.keep b o e (nd n)
     slot:=λb o e n=>un.slot b o e (nd n)
     free:=λb o e n hx=>by
      by_cases z:b∈A
      .rw[J4 z];exact n
      .rw[jl z];exact un.free b o e (nd n) hx
     there:=un.there
     tups:=λb xs e=>by
      have z:=un.tups b xs (by rw[j7 (out e (λ_ y=>by cases y) λ_ _ y=>by cases y)];exact e)
      rw[jl (outF z)];exact z
     frzs:=λb o u e=>by
      by_cases y:b∈A
      .rw[J4 y];exact e
      .have z:=un.frzs b o u (by rw[j7 y];exact e)
       rw[jl y];exact z
     tbls:=λb ps e=>by
      obtain⟨more,z⟩:=un.tbls b ps (by rw[j7 (out e (λ_ y=>by cases y) λ_ _ y=>by cases y)];exact e)
      exact⟨more,by rw[jl (outF z)];exact z⟩ }
   .by_cases z:a∈A
    .rw[J4 z]at e;obtain⟨o',q1,q2,_⟩:=kept a z;rcases hA a z with ⟨xs,e'⟩|⟨oc,v,e',_⟩
     .rw[e']at e;cases e;obtain⟨hl,its,n,r,y⟩:=(show ji P w H s.heap a (.lst xs)from e0.hok _ _ e')
      rw[y]at q1;cases q1;exact⟨hl,its,n,r,q2⟩
     .rw[e']at e;cases e;have y:=(show ji P w H s.heap a (.frz oc (.own 0))from e0.hok _ _ e').1;rw[y]at q1;cases q1;exact⟨q2,_,q2⟩
    .rw[jl z]at e;refine ji.stay (hok' a o e) (λb u _ q=>q) (λb q=>?_) (λb xs q=>?_) (λb _ _ q=>?_)
     .rw[jl (outF q)];exact q
     .rw[jl (outF q)];exact q
     .rw[jl (outF q)];exact q
structure LamScope(N ps:List aq)(sc:b8):Prop where
 kind:sc.kind=.function
 co:sc.isCoroutine=a9
 gen:sc.isGenerator=a9
 nd:N.Nodup
 nm:N=v5 sc++ps
 lfr:∀x∈v5 sc,sc.names.lookup x=a8 .free
 lps:∀x∈ps,sc.names.lookup x=a8 .local
 nocell:∀y∈sc.names,y.2≠.cell
 cov:∀x,sc.names.lookup x=a8 .free->x∈v5 sc
noncomputable def Uv(P:ay)(w:aD)(K:k96)(mg:k99)(base:aE)(N:List aq)(qual:aq)(scope:b8)(a:aj)(cd:ai)(cl:List (aq×aj))(A:aF)(outer:List d9)(s:ao)(H:Hp):Cx where
 prog:=P
 w:=w
 K:=K
 mg:=mg
 base:=base
 A:=A.deeper (W.envX qual scope s.heap.objs.size a cd cl)
 N:=N
 s₀:=s
 H₀:=H
 env:=W.envX qual scope s.heap.objs.size a cd cl
 outer:=outer
 stack:=W.envX qual scope s.heap.objs.size a cd cl::outer
 ex:=[]
 calm:=ah
 fn:=λ_=>a9
 pn:=[]
 xe:=λ_ _=>False
def Jw(h:aE):List aj->List V->Prop
 |[],vs=>vs=[]
 |c::cs,vs=>∃v r u,vs=v::r/\h.IsCell c (a8 u)/\RelV v u/\Jw h cs r
theorem Jw.get{h:aE}:∀{cs:List aj}{vs:List V}{i:Nat}{v:V},Jw h cs vs->vs[i]?=a8 v->∃c u,cs[i]?=a8 c/\h.IsCell c (a8 u)/\RelV v u
 |[],_,i,v,e,q=>by cases e;simp at q
 |c::cs,_,0,v,⟨x,r,u,e,h1,h2,_⟩,q=>by subst e;simp at q;subst q;exact⟨c,u,rfl,h1,h2⟩
 |c::cs,_,i+1,v,⟨x,r,u,e,_,_,l⟩,q=>by subst e;obtain⟨c',u',z1,z2⟩:=Jw.get l (i:=i) (by simpa using q);exact⟨c',u',by simpa using z1,z2⟩
theorem Jw.length{h:aE}:∀{cs:List aj}{vs:List V},Jw h cs vs->vs.length=cs.length
 |[],_,e=>by cases e;rfl
 |c::cs,_,⟨x,r,u,e,_,_,l⟩=>by subst e;simp[l.length]
theorem Jw.all{h:aE}:∀{cs:List aj}{vs:List V},Jw h cs vs->∀c∈cs,∃v,h.IsCell c v
 |c::cs,_,⟨x,r,u,e,h1,_,l⟩,b,hb=>(xr.mp hb).elim (λz=>z▸⟨_,h1⟩) (l.all b)
theorem lookup_at{α:Type}:∀{l:List (aq×α)} {i:Nat} {p:aq×α},(l.map (·.1)).Nodup->l[i]?=a8 p->l.lookup p.1=a8 p.2
 |[],i,p,_,h=>by simp at h
 |q::l,0,p,_,h=>by simp at h;subst h;rw[Xm,beq_self_eq_true]
 |q::l,i+1,p,nd,h=>by rw[X5]at nd;rw[eC]at h;have ne:(p.1==q.1)=a9:=beq_eq_false_iff_ne.mpr λz=>(Xk.mp nd).1 (z▸cu (Xq h));rw[Xm,ne];exact lookup_at (Xk.mp nd).2 h
def j4i{ps:List aq}{us:List ai}{i:Nat}{p:aq}{u:ai}(nd:ps.Nodup)(hl:us.length=ps.length)(h1:ps[i]?=a8 p)(h2:us[i]?=a8 u):(ps.zip us).reverse.lookup p=a8 u:=by
 have hm:(p,u)∈(ps.zip us).reverse:=List.mem_reverse.mpr (Xq (i:=i) (by rw[i7];exact⟨h1,h2⟩));have e:((ps.zip us).reverse.map (·.1))=ps.reverse:=by rw[List.map_reverse,List.map_fst_zip nofun]
 obtain⟨j,hj⟩:=List.mem_iff_getElem?.mp hm;exact lookup_at (by rw[e];exact(List.reverse_perm ps).nodup_iff.mpr nd) hj
section
variable{P:ay}{w:aD}{K:k96}{mg:k99}{base:aE}{A:aF}{outer:List d9}{s:ao}{H:Hp}{x:aq}{a c:aj}{tx:Tx}{cl:List (aq×aj)}{pm ctv:ai}{cvs vs:List V}{us:List ai}{N ps:List aq}{k:Nat}{Q:VK}{E:XK}
def jd6{h1:aE}{tk:Nat}(hh:A.handled=ae)(e0:Env0 P w K mg base A outer s H)(S:LamScope N ps tx.2.2)(hn:cl.map (·.1)=v5 tx.2.2)(nd:(cl.map (·.2)).Nodup)(hc:Jw s.heap (cl.map (·.2)) cvs)(hf:∀q∈cl.map (·.2),H q=ae)(rv:Vals vs us)(hl:vs.length=ps.length)
  (ns:h1.Ns s.heap.objs.size λy=>(ps.zip us).reverse.lookup y) (kp:∀b o,s.heap.get? b=a8 o->h1.get? b=a8 o) :
  Inv (Uv P w K mg base N (jx x) tx.2.2 a (.ref c) cl A outer s H) [] (start N (cvs++vs)) H { s with heap:=h1,toks:=tk }:=by
 have ndN:(v5 tx.2.2).Nodup:=by have:=S.nd;rw[S.nm]at this;exact(List.nodup_append.mp this).1
 have ndP:ps.Nodup:=by have:=S.nd;rw[S.nm]at this;exact(List.nodup_append.mp this).2.1
 have ndC:(cl.map (·.1)).Nodup:=by rw[hn];exact ndN
 have lenC:cvs.length=(v5 tx.2.2).length:=by rw[hc.length,<-hn,xf,xf]
 have lenN:N.length=(cvs++vs).length:=by rw[S.nm,Xd,Xd,lenC,hl]
 have noA:∀b:aj,b∉(Uv P w K mg base N (jx x) tx.2.2 a (.ref c) cl A outer s H).ex:=λb z=>absurd (show b∈([]:List aj)from z) (by simp);have mem2:∀{y:aq}{q:aj},cl.lookup y=a8 q->q∈cl.map (·.2):=λ{y q} h=>X8.mpr ⟨(y,q),Pr h,rfl⟩;have inj:∀(l:List (aq×aj)),(l.map (·.2)).Nodup->∀y z q,(y,q)∈l->(z,q)∈l->y=z:=λl=>by
  induction l with
  |nil=>intro _ y z q h;cases h
  |cons p r ih =>
   intro nd y z q h1 h2;rw[X5]at nd;obtain⟨n1,n2⟩:=Xk.mp nd;rcases xr.mp h1 with e1|h1<;>rcases xr.mp h2 with e2|h2
   .rw[<-e1]at e2;cases e2;rfl
   .exact absurd (X8.mpr ⟨(z,q),h2,by rw[<-e1]⟩) n1
   .exact absurd (X8.mpr ⟨(y,q),h1,by rw[<-e2]⟩) n1
   .exact ih n2 y z q h1 h2
 refine⟨⟨e0.mod,S.kind,rfl,rfl,X3 _,λy z q h1 h2=>inj cl nd y z q (Pr h1) (Pr h2),λy hy=>?_,λy q h=>(by cases h),λ_=>hh,Around.frames_deeper e0.frames,.inr ⟨rfl,rfl⟩,λb z=>absurd z (noA b),e0.bs,e0.bsz,λb _ _=>noA b,λb z=>absurd z (noA b),e0.funs,e0.frf⟩,
  rfl,e0.bare,Un.kept kp,⟨_,ns,λi y v h1 h2 h3=>?_⟩,λy q h=>?_,e0.hok.fresh (X3 _),λy q h=>hf q (mem2 h),λp hp=>absurd (show p∈([]:k98)from hp) (by simp),e0.hok.kept kp,?_⟩
 .have hy:tx.2.2.names.lookup y=a8 .cell\/tx.2.2.names.lookup y=a8 .free:=hy;rcases hy with hy|hy
  .exact absurd rfl (S.nocell _ (Pr hy))
  .have m:=S.cov y hy;rw[<-hn]at m;obtain⟨p,hp,e⟩:=X8.mp m;obtain⟨i,hi⟩:=List.mem_iff_getElem?.mp hp;exact⟨p.2,by have:=lookup_at ndC hi;rw[e]at this;exact this⟩
 .have h1:N[i]?=a8 y:=h1;have hi:i<(cvs++vs).length:=by rw[<-lenN];exact(X6.mp h1).1
  have ha:(cvs++vs)[i]?=a8 v:=by
   unfold start at h2;rw[t8 (by simpa using hi),X4]at h2;cases e:(cvs++vs)[i]? with
   |none=>rw[e]at h2;cases h2
   |some a=>rw[e]at h2;cases h2;rfl
  rw[S.nm]at h1;by_cases z:i<cvs.length
  .rw[t8 z]at ha;rw[t8 nofun]at h1;obtain⟨q,u,e1,e2,r⟩:=hc.get ha;refine⟨u,r,.inr ⟨.inr (S.lfr y (Xq h1)),q,?_,e2.keeps kp⟩⟩;rw[<-hn,X4]at h1;rw[X4]at e1;obtain⟨p,hp,ep⟩:=Xl.mp h1;rw[hp]at e1;have:=lookup_at ndC hp;rw[ep]at this;show cl.lookup y=a8 q;rw[this];exact e1
  .rw[dr nofun]at ha h1;rw[<-lenC]at h1;obtain⟨u,hu,r⟩:=rv.get ha;exact⟨u,r,.inl ⟨S.lps y (Xq h1),j4i ndP (by rw[<-rv.length,hl]) h1 hu⟩⟩
 .obtain⟨v,z⟩:=hc.all q (mem2 h);exact⟨v,z.keeps kp⟩
 .unfold start;show _=N.length;rw[Xd,xf,Pk];omega
def j92 (hr:Room (k+1) A) (e0:Env0 P w K mg base A outer s H) (ho:s.heap.get? a=a8 (W.kla_obj "<lambda>" (jx x) tx.1 tx.2.1 tx.2.2 cl pm c ctv)) (hcd:s.heap.CodeRec (.ref c) (jx x))
  (S:LamScope N ps tx.2.2) (hn:cl.map (·.1)=v5 tx.2.2) (nd:(cl.map (·.2)).Nodup) (hc:Jw s.heap (cl.map (·.2)) cvs) (hf:∀q∈cl.map (·.2),H q=ae)
  (hb:eU (W.kla_fn "<lambda>" (jx x) tx.1 tx.2.1 tx.2.2 cl pm (.ref c) ctv) ⟨us,[]⟩=pure (ps.zip us)) (rv:Vals vs us) (hl:vs.length=ps.length)
  (body:Room k (Uv P w K mg base N (jx x) tx.2.2 a (.ref c) cl A outer s H).A->J8 (Uv P w K mg base N (jx x) tx.2.2 a (.ref c) cl A outer s H) tx.2.1 (start N (cvs++vs)) H Q) :
  bL (aB P w) A (.call (.ref a) ⟨us,[]⟩) (CR CX0 outer P w H s Q E) s:=by
 have lim:s.heap.NoLimit:=e0.mod.nolimit.keeps λb o e=>(e0.bs b o e).1;refine W.kla_callFunE (by have:=hr.dp;omega) ho rfl S.co S.gen rfl hcd ?_;rw[hb];refine ar (wpAny_newFunctionEnv S.nocell (λy hy=>S.lps y.1 (eO (a:=y.1) (b:=y.2) hy).1) (λh1 ns sb=>⟨lim.fresh _ sb,?_⟩) S.kind);show bL _ _ (.expr tx.2.1 (W.envX (jx x) tx.2.2 s.heap.objs.size a (.ref c) cl)) _ _;have kp:∀b o,s.heap.get? b=a8 o->h1.get? b=a8 o:=λb o e=>sb.extBut b o (Xa (xn e)) (km _ e);have I:=jd6 (x:=x) (a:=a) (c:=c) (tk:=s.toks+(ps.zip us).length) hr.hd e0 S hn nd hc hf rv hl ns kp;refine W.kla_codeExpr (bB (body (hr.deeper _) [] _ I) (λu s' ⟨v,H',J,r,q⟩=>?_) λ_ _ z=>z.elim);exact⟨v,H',J.os,J.bare,J.base,J.hok,r,q⟩
end
mutual
noncomputable def noFn:D->Bool
 |.fn _ _=>a9
 |.tup ds=>Jd ds
 |.lst ds=>Jd ds
 |.dct _ ds=>Jd ds
 |_=>ah
noncomputable def Jd:List D->Bool
 |[]=>ah
 |d::ds=>noFn d&&Jd ds
end
section
variable{K:k96}{H:Hp}{A:List aj}
def Cel(H:Hp)(A:List aj):Prop:=∀a∈A,∃oc v,H a=a8 (.frz oc (.own 0))/\oc.data=.cell v
def Cel.out(hA:Cel H A){b:aj}{o:HO}(q:H b=a8 o)(h:∀oc,o≠.frz oc (.own 0)):del H A b=a8 o:=by rw[j7];exact q;intro y;obtain⟨oc,v,e,_⟩:=hA b y;rw[q]at e;exact h oc (az e)
def Cel.seqT(hA:Cel H A){a:aj}{xs:List V}(h:SqT K H a xs):SqT K (del H A) a xs:=by
 rcases h with (h|⟨o,h⟩)|h
 .exact .inl (.inl (hA.out h λ_ z=>by cases z))
 .exact .inl (.inr ⟨o,hA.out h λ_ z=>by cases z⟩)
 .exact .inr h
def Cel.seq(hA:Cel H A){a:aj}{xs:List V}(h:SqL K H a xs):SqL K (del H A) a xs:=by
 rcases h with (h|⟨o,h⟩)|h
 .exact .inl (.inl (hA.out h λ_ z=>by cases z))
 .exact .inl (.inr ⟨o,hA.out h λ_ z=>by cases z⟩)
 .exact .inr h
mutual
theorem Enc.noc(hA:Cel H A):∀{d:D}{v:V},noFn d=ah->Enc K H d v->Enc K (del H A) d v
 |.non,_,_,h=>h
 |.bl _,_,_,h=>h
 |.int _,_,_,h=>h
 |.str _,_,_,h=>h
 |.tup _,_,n,⟨a,xs,e,q,l⟩=>⟨a,xs,e,hA.seqT q,j4.noc hA (by simpa [noFn]using n) l⟩
 |.lst _,_,n,⟨a,xs,e,q,l⟩=>⟨a,xs,e,hA.seq q,j4.noc hA (by simpa [noFn]using n) l⟩
 |.dct _ _,_,n,⟨a,xs,ep,vs,e,q,ek,kt,rv,l⟩=>⟨a,xs,ep,vs,e,hA.out q (λ_ z=>by cases z),ek,λx hx=>hA.seqT (kt x hx),rv,j4.noc hA (by simpa [noFn]using n) l⟩
 |.sct _,_,_,⟨a,e,q⟩=>⟨a,e,hA.out q λ_ z=>by cases z⟩
 |.fn _ _,_,n,_=>by cases n
theorem j4.noc(hA:Cel H A):∀{ds:List D}{xs:List V},Jd ds=ah->j4 K H ds xs->j4 K (del H A) ds xs
 |[],_,_,h=>h
 |d::ds,_,n,⟨x,r,e,h,l⟩=>by rw[Jd,Xe]at n;exact⟨x,r,e,Enc.noc hA n.1 h,j4.noc hA n.2 l⟩
end
theorem vf.cel:∀{cs:List aj}{vs:List V},vf H cs vs->Cel H cs
 |[],_,_=>λ_ h=>nomatch h
 |c::cs,_,⟨v,r,o,u,e,h,d,rv,l⟩=>λa ha=>(xr.mp ha).elim (λz=>⟨o,_,z▸h,d⟩) (l.cel a)
theorem vf.inn{P:ay}{w:aD}{h:aE}(ok:HOk P w H h):∀{cs:List aj}{vs:List V},vf H cs vs->Jw h cs vs
 |[],_,e=>e
 |c::cs,_,⟨v,r,o,u,e,q,d,rv,l⟩=>⟨v,r,u,e,⟨o,(show ji P w H h c (.frz o (.own 0))from ok _ _ q).1,d⟩,rv,l.inn ok⟩
def vf.of_del{B:List aj}:∀{cs:List aj}{vs:List V},vf (del H B) cs vs->vf H cs vs:=λh=>h.mono jk
def TabOk.fz(h:TabOk K H)(hA:∀a∈A,Fz (H a)):TabOk K (L2.del H A):=λx hx c P z=>by have q:=h x hx c P z;rw[j7];exact q;intro y;rcases hA _ y with ⟨xs,e⟩|⟨oc,v,e,_⟩<;>(rw[q]at e;cases e)
end
def j09(P:ay)(w:aD)(K:k96)(mg:k99)(base:aE)(k:Nat)(x:aq)(S:List D->D->Prop):Prop :=
 ∀(A:aF)(outer:List d9)(s:ao)(H:Hp)(a:aj)(B:List aj)(cs ds:List D) (d:D) (vs:List V) (us:List ai) (Q:VK) (E:XK),Room k A->Env0 P w K mg base A outer s H->TabOk K H->(∀b∈B,∃xs,H b=a8 (.lst xs)) ->
  Enc K (del H B) (.fn x cs) (.ref a)->j4 K (del H B) ds vs->Jd ds=ah->S (cs++ds) d->Vals vs us->(∀v H',j0 H H'->Enc K (del H' B) d v->Q v H')->bL (aB P w) A (.call (.ref a) ⟨us,[]⟩) (CR CX0 outer P w H s Q E) s
section
variable{P:ay}{w:aD}{K:k96}{mg:k99}{base:aE}{k:Nat}{x:aq}{S:List D->D->Prop}{tx:Tx}{N ps:List aq}
def jga(ht:Z0 K x=a8 tx)(Sc:LamScope N ps tx.2.2)(hl:∀ds d,S ds d->ds.length=N.length)
  (hb:∀(cl:List (aq×aj)) (pm:ai) (c:aj) (ctv:ai) (us:List ai),us.length=ps.length->eU (W.kla_fn "<lambda>" (jx x) tx.1 tx.2.1 tx.2.2 cl pm (.ref c) ctv) ⟨us,[]⟩=pure (ps.zip us))
  (hbody:∀(a c:aj)(cl:List (aq×aj)) (A:aF) (outer:List d9) (s:ao) (H:Hp),cl.map (·.1)=v5 tx.2.2->Room k (Uv P w K mg base N (jx x) tx.2.2 a (.ref c) cl A outer s H).A->∀ds d,S ds d->DT (Uv P w K mg base N (jx x) tx.2.2 a (.ref c) cl A outer s H) (qi N ds) tx.2.1 d):j09 P w K mg base (k+1) x S:=by
 intro A outer s H a B cs ds d vs us Q E hr e0 tb hB en ea nf hS rv q;obtain⟨a',c,tx',cl,cvs,e,L,l⟩:=en;cases e;have et:tx'=tx:=az (L.tx.symm.trans ht);subst et;have cs_at:vf H (cl.map (·.2)) cvs:=L.cs.of_del;have hA:∀b∈B++cl.map (·.2),Fz (H b):=λb hb=>(Xw.mp hb).elim (λz=>.inl (hB b z)) λz=>.inr (cs_at.cel b z);obtain⟨e1,back⟩:=j71 e0 hA;obtain⟨pm,ctv,hfo⟩:=L.fo;obtain⟨oc,hco,vs0,t0,hd0,hv0⟩:=L.co;have ho:=(show ji P w H s.heap a (.frz _ (.own 0))from e0.hok _ _ (of_del hfo).2).1;have hcd:s.heap.CodeRec (.ref c) (jx x):=⟨c,oc,vs0,t0,rfl,(show ji P w H s.heap c (.frz oc (.own 0))from e0.hok _ _ (of_del hco).2).1,hd0,hv0⟩
 have ll:=l.length;have la:=ea.length;have hlen:=hl _ _ hS;have lenC:(cl.map (·.2)).length=(v5 tx'.2.2).length:=by rw[<-L.nm,xf,xf]
 have lcv:=(cs_at.inn e0.hok).length;have hlv:vs.length=ps.length:=by rw[Sc.nm,Xd,Xd]at hlen;omega
 have celB:Cel (del H B) (cl.map (·.2)):=L.cs.cel;have ea1:j4 K (del H (B++cl.map (·.2))) ds vs:=by rw[<-Ju];exact ea.noc celB nf
 have l1:j4 K (del H (B++cl.map (·.2))) cs cvs:=by rw[<-Ju];exact l
 refine bG (j92 (E:=E) (Q:=λv F=>(∀a∈B++cl.map (·.2),F a=ae)->Q v (mrg (B++cl.map (·.2)) H F)) hr e1 ho hcd Sc L.nm L.nd (cs_at.inn e0.hok) (λb hb=>qj (Xc _ hb)) (hb cl pm c ctv us (by rw[<-rv.length];exact hlv)) rv hlv λhrm=>?_) λr s' h=>back Q E E r s' h;refine hbody a c cl A outer s _ L.nm hrm (cs++ds) d hS _ _ _ (Y5 (tb.fz hA) (l1.append ea1)) λv F g en' hF=>q v _ (N6 g) (en'.mono λb o z=>?_);have nb:b∉B++cl.map (·.2):=λy=>by rw[hF b y]at z;cases z
 rw[j7 (λy=>nb (Pu _ y)),jl nb];exact z
end
section
variable{X:Cx}{ρ:Rho}{e:au}{es:List au}{d:D}{cs ds:List D}{pos p:aO}{x y:aq}{i k:Nat}
def DE.callV {S:List D->D->Prop} (c:j09 X.prog X.w X.K X.mg X.base k x S) (hr:Room k X.A) (hi:ρ[i]?=a8 (.val (.fn x cs))) (ha:DA X ρ (e::es) ds) (nf:Jd ds=ah) (hS:S (cs++ds) d) (hN:X.N[i]?=a8 y) (hv:Vis X.env.scope y) (hd:(y==k9a)=a9) (hcd:(y==k9b)=a9)
  (he:af (e::es) X.env=(a9,aC e X.env)::af es X.env) (hpl:(aP pos (af es X.env)).any (·.1)=a9):DE X ρ (.Call (.Name y p) (e::es) [] pos) d:=λσ H Q R q pins s I=>by
 obtain⟨v,hσ,en⟩:=R.val i _ hi;obtain⟨a,c0,tx,cl,cvs,ev,L,l⟩:=id en;subst ev;refine aK (thn (Jc hN hv hd hcd pins s σ H (λv' H'=>v'=.ref a/\H'=H) I ⟨_,hσ,rfl,rfl⟩) λu s1 ⟨v',H',I1,r1,e1,e2⟩=>?_);subst e1 e2;cases(show u=aI a from r1);obtain⟨pm,ctv,hfo⟩:=L.fo;have fnAt:∀{H2:Hp}{s2:ao},Inv X pins σ H2 s2->j0 H' H2->PySem.W.FnAt a s2.heap:=λ{H2 s2} I2 g=>⟨_,_,_,_,(show ji X.prog X.w H2 s2.heap a (.frz _ (.own 0))from I2.hok _ _ (g _ _ (of_del hfo).2)).1⟩
 refine W.callWith_F (fnAt I1 (j0.refl _)) (thn (ha σ H' (λvs H2=>j0 H' H2/\j4 X.K (del H2 (owns ρ)) ds vs) R (λvs H2 g z=>⟨g,z⟩) pos pins s1 I1) λus s2 ⟨vs,H2,I2,rv,g,ea⟩=>⟨fnAt I2 g,?_⟩) he hpl;refine gq (bG (c X.A X.stack s2 H2 a (owns ρ) cs ds d vs us Q E0 hr I2.env0 (R.tb.mono g) (R.grow g).owned (en.mono (je g)) ea nf hS rv λv H3 g3 z=>q v H3 (g.trans g3) z) λr s' hq=>?_);cases r with
 |error e=>exact(show False from hq).elim
 |ok fl =>
  cases fl with
  |ret u=>exact I2.after hq
  |next=>exact(show False from hq).elim
  |brk=>exact(show False from hq).elim
  |cont=>exact(show False from hq).elim
end
theorem Dz{pos:aO}{c cv:ai}{a b:Int}:∀(l:List ai),TriplesOk l->fX pos (l++[cR a,cR b,c])=a8 cv->fX pos l=a8 cv\/cv=c
 |[],_,h=>by
  simp only[cB,cR,fX]at h;split at h
  .exact .inr (az h).symm
  .cases h
 |.int i t::.int j u::x::r,ht,h=>by
  simp only[c7,fX]at h ⊢;split at h
  .rename_i z;rw[if_pos z];exact .inl h
  .rename_i z;rw[if_neg z];exact Dz r ht h
section
variable{X:Cx}{pins:k98}{σ:St}{H:Hp}{s:ao}
def Inv.madeL{q:aq}{P:aj}{h2:aE}{tk:Nat}{H2:Hp}(I:Inv X pins σ H s)(hP:H P=a8 (.cod q))(g:j0 H H2)(kp:∀b o,b≠P->s.heap.get? b=a8 o->h2.get? b=a8 o)
  (new:∀b o,H2 b=a8 o->H b=a8 o\/(s.heap.objs.size<=b/\ji X.prog X.w H2 h2 b o)) (okP:ji X.prog X.w H2 h2 P (.cod q)):Inv X pins σ H2 { s with heap:=h2,toks:=tk }:=by
 have nP:∀{b:aj},H b=ae->b≠P:=λ{b} n z=>by rw[z,hP]at n;cases n
 have nO:∀{b:aj}{u:HO},H b=a8 u->(∀q,u≠.cod q)->b≠P:=λ{b u} e n z=>by rw[z,hP]at e;cases e;exact n _ rfl
 refine I.un (H':=H2) (h':=h2) (t':=tk) ⟨λb o e n _ _=>kp b o (nP n) e,λb o e n _ _=>⟨o.slots,kp b o (nP n) e⟩,λb o e n _=>?_,λb o e _=>?_,λb xs e=>g _ _ e,λb o u e=>g _ _ e,λb ps e=>⟨#[],by rw[g _ _ e];simp⟩⟩ λb o e=>?_
 .cases z:H2 b with
  |none=>rfl
  |some u =>
   rcases new b u z with y|⟨y,_⟩
   .rw[n]at y;cases y
   .exact absurd (Xi (xn e) y) (Ph _)
 .by_cases z:b=P
  .obtain⟨ps,y,_⟩:=okP;exact⟨_,by rw[z];exact y⟩
  .exact⟨o,kp b o z e⟩
 .rcases new b o e with y|⟨_,y⟩
  .by_cases z:b=P
   .subst z;rw[hP]at y;cases y;exact okP
   .exact(I.hok b o y).stay (λc u hc r=>kp c u (hc.elim (λe=>e▸z) λe=>nO e λ_ z=>by cases z) r) (λ_ r=>g _ _ r) (λ_ _ r=>g _ _ r) λ_ _ _ r=>g _ _ r
  .exact y
structure LMk(X:Cx)(x:aq):Prop where
 mem:x∈Zz
 qual:X.env.qual=x ++ ".<locals>."
 code:∃c P,X.env.code=.ref c/\W.codeHdIn X.K c P=ah/\W.tabIn X.K x=a8 (c,P)
def jl7(X:Cx)(x:aq)(params:dQ)(body:au)(scope:b8)(cl:List (aq×aj)):TE:=λ_ H Q=>TabOk X.K H/\∀(f c:aj)(oc:d8)(pm ctv:ai)(H2:Hp),j0 H H2->H f=ae->H2 f=a8 (.frz (W.kla_obj "<lambda>" (jx x) params body scope cl pm c ctv) (.own 0)) ->
 H2 c=a8 (.frz oc (.own 0))->Ba oc (jx x)->Q (.ref f) H2
def j69{x:aq}{params:dQ}{body:au}{scope:b8}{cl:List (aq×aj)}{pos:aO}(M:LMk X x)(hdef:gx params X.env=([],[]))(hcl:dY scope X.env=pure cl):PE X (.Lambda params body scope pos) (jl7 X x params body scope cl):=by
 rintro pins s σ H Q I ⟨tb,h⟩;obtain⟨c,P,hc,hd,ht⟩:=M.code;have hP:=tb x M.mem c P ht;have C:jQ s.heap c P:=W.codeHd_of_K I.kIn hd;obtain⟨ps,hps,htr,hcod⟩:=(show ji X.prog X.w H s.heap P (.cod (jx x))from I.hok _ _ hP)
 have hns:=I.mod.glob.keeps I.bk;have hgP:ax≠P:=λz=>by obtain⟨o,es,ep,e,d,_⟩:=hns;rw[z,hps]at e;cases e;cases d
 have hbP:s.heap.BuiltinsAt X.mg P:=by
  obtain⟨bm,ob,b1,b2,b3,b4,b5,b6⟩:=I.mod.bm;have b3':=I.bk _ _ b3;refine⟨bm,ob,b1,b2,λz=>?_,λz=>?_,b3',b4,b5,b6⟩
  .obtain⟨o,es,ep,e,d,_⟩:=hns;rw[z,e]at b3';cases b3';rw[d]at b6;cases b6
  .rw[z,hps]at b3';cases b3';cases b4
 have hq:X.env.qual ++ "<lambda>" = jx x:=by rw[M.qual];rfl
 refine W.kla_eval hdef ?_;rw[hq];cases e:fX pos ps.toList with
 |none =>
  refine W.kla_makeFunction hcl I.ok.glob hns hc C hps htr e hgP hbP λc' ctv h' tk hx hge hlt hrec htb=>?_;obtain⟨c2,oc,vs,t,ec,hoc,hdt,hv⟩:=hrec;cases ec;have hsz:s.heap.objs.size<=h'.objs.size:=dk (cF hge hlt);have n1:H c'=ae:=I.hok.fresh hge;have n2:H h'.objs.size=ae:=I.hok.fresh hsz;have ne:c'≠h'.objs.size:=Xa hlt;have hne:∀{b:aj}{u:HO},H b=a8 u->b≠c'/\b≠h'.objs.size:=λz=>⟨v7 z n1,v7 z n2⟩
  have g:∀fo:HO,j0 H (upd (upd H c' (.frz oc (.own 0))) h'.objs.size fo):=λfo b u z=>by rw[jd (hne z).2,jd (hne z).1];exact z
  have h2c:∀fo:HO,upd (upd H c' (.frz oc (.own 0))) h'.objs.size fo c'=a8 (.frz oc (.own 0)):=λfo=>by rw[jd ne,j8]
  refine⟨.ref h'.objs.size,_,I.madeL (P:=P) (q:=jx x) (H2:=upd (upd H c' (.frz oc (.own 0))) h'.objs.size (.frz (W.kla_obj "<lambda>" (jx x) params body scope cl ((X.mg "__name__").getD .none) c' ctv) (.own 0))) hP (g _)
   (λb o nb z=>km _ (hx b o nb z)) (λb o z=>?_) ?_,rfl,h _ c' oc _ ctv _ (g _) n2 j8 (h2c _) ⟨vs,t,hdt,hv⟩⟩
  .by_cases z1:b=h'.objs.size
   .subst z1;rw[j8]at z;cases z;exact .inr ⟨hsz,xu _ rfl,_,xu _ rfl⟩
   .rw[jd z1]at z;by_cases z2:b=c'
    .subst z2;rw[j8]at z;cases z;exact .inr ⟨hge,km _ hoc,_,km _ hoc⟩
    .rw[jd z2]at z;exact .inl z
  .refine⟨_,km _ htb,by rw[Tc];exact TriplesOk_snoc _ _ _ _ htr,λpos' cv z=>?_⟩;rw[Tc]at z;rcases Dz ps.toList htr z with z|z
   .obtain⟨c3,oc3,e1,e2,e3⟩:=hcod pos' cv z;exact⟨c3,oc3,e1,g _ _ _ e2,e3⟩
   .exact⟨c',oc,z,h2c _,vs,t,hdt,hv⟩
 |some cv =>
  obtain⟨c',oc,ec,h1,h2⟩:=hcod pos cv e;subst ec;refine W.kla_makeFunctionHit hcl I.ok.glob hns hc C hps htr e hbP λctv h' tk hk hsz=>?_;have n2:H h'.objs.size=ae:=I.hok.fresh hsz;have g:∀fo:HO,j0 H (upd H h'.objs.size fo):=λfo=>j6 n2;refine⟨.ref h'.objs.size,_,I.madeL (P:=P) (q:=jx x) (H2:=upd H h'.objs.size (.frz (W.kla_obj "<lambda>" (jx x) params body scope cl ((X.mg "__name__").getD .none) c' ctv) (.own 0))) hP (g _)
   (λb o _ z=>km _ (hk b o z)) (λb o z=>?_) ?_,rfl,h _ c' oc _ ctv _ (g _) n2 j8 (g _ _ _ h1) h2⟩
  .by_cases z1:b=h'.objs.size
   .subst z1;rw[j8]at z;cases z;exact .inr ⟨hsz,xu _ rfl,_,xu _ rfl⟩
   .rw[jd z1]at z;exact .inl z
  .refine⟨ps,km _ (hk _ _ hps),htr,λpos' cv z=>?_⟩;obtain⟨c3,oc3,e1,e2,e3⟩:=hcod pos' cv z;exact⟨c3,oc3,e1,g _ _ _ e2,e3⟩
noncomputable def plus(H:Hp)(h:aE)(cs:List aj):Hp:=λb=>if b∈cs then(h.get? b).map λo=>.frz o (.own 0)else H b
def Oc{h:aE}{cs:List aj}{b:aj}{o:d8}(hb:b∈cs)(e:h.get? b=a8 o):plus H h cs b=a8 (.frz o (.own 0)):=by unfold plus;rw[if_pos hb,e];rfl
def Q0{h:aE}{cs:List aj}{b:aj}(hb:b∉cs):plus H h cs b=H b:=if_neg hb
def Own(X:Cx)(cs:List aj):Prop:=∀c∈cs,∃y,X.env.cells.lookup y=a8 c/\X.fn y=ah
def Own.obj{cs:List aj}(I:Inv X pins σ H s)(hc:Own X cs){c:aj}(h:c∈cs):∃o v,s.heap.get? c=a8 o/\o.data=.cell v/\H c=ae/\X.s₀.heap.objs.size<=c/\c≠X.env.locals:=by obtain⟨y,e,f⟩:=hc c h;obtain⟨v,o,e1,e2⟩:=I.cell y c e;exact⟨o,v,e1,e2,I.freeC y c e,I.ok.cab y c f e,I.cne y c e⟩
def Up{cs:List aj}(I:Inv X pins σ H s)(hc:Own X cs):j0 H (plus H s.heap cs):=λb o e=>by rw[Q0];exact e;intro z;obtain⟨_,_,_,_,n,_⟩:=hc.obj I z;rw[n]at e;cases e
def Inv.plus{cs:List aj}(I:Inv X pins σ H s)(hc:Own X cs) :
  Env0 X.prog X.w X.K X.mg X.base X.A X.stack s (plus H s.heap cs)/\∀(Q:VK)(u:ai)(s':ao),CE X.stack X.prog X.w (L2.plus H s.heap cs) s (λv H'=>Cel H' cs->Q v (del H' cs)) u s'->EP X pins σ Q u s':=by
 have e0:=I.env0;have nb:∀{b:aj}{u:HO},H b=a8 u->b∉cs:=λ{b u} e z=>by obtain⟨_,_,_,_,n,_⟩:=hc.obj I z;rw[n]at e;cases e
 have nf:∀b∈frs X.stack,b∉cs:=λb hb z=>by
  obtain⟨o,v,e1,e2,n,hge,hl⟩:=hc.obj I z;rcases xr.mp (I.stkSub b hb)with y|y
  .exact hl y
  .obtain⟨_,o',ho,_⟩:=I.ok.funs.mem y;exact absurd (Xi (xn ho) hge) (Ph _)
 have g:=Up I hc;refine⟨⟨e0.frames,e0.mod,λb o e=>⟨(e0.bs b o e).1,?_⟩,e0.bsz,e0.funs,λb hb=>by rw[Q0 (nf b hb)];exact e0.frf b hb,λb o e=>?_,e0.bare⟩,λQ u s' hq=>?_⟩
 .rw[Q0];exact(e0.bs b o e).2;intro z;obtain⟨_,_,_,_,_,hge,_⟩:=hc.obj I z;exact absurd (Xi (xn e) (Xg I.ok.bsz hge)) (Ph _)
 .by_cases z:b∈cs
  .obtain⟨oc,v,e1,_⟩:=hc.obj I z;rw[Oc z e1]at e;cases e;exact⟨e1,_,e1⟩
  .rw[Q0 z]at e;exact(I.hok b o e).stay (λ_ _ _ r=>r) (λ_ r=>g _ _ r) (λ_ _ r=>g _ _ r) λ_ _ _ r=>g _ _ r
 .obtain⟨v,H',os,bare,un,hok',rel,q⟩:=hq;have cel:∀c∈cs,∃o v,s.heap.get? c=a8 o/\o.data=.cell v/\H' c=a8 (.frz o (.own 0))/\s'.heap.get? c=a8 o:=λc hcs=>by obtain⟨o,v,e1,e2,_⟩:=hc.obj I hcs;have z:=un.frzs c o _ (Oc hcs e1);exact⟨o,v,e1,e2,z,(show ji X.prog X.w H' s'.heap c (.frz o (.own 0))from hok' _ _ z).1⟩
  have hC:Cel H' cs:=λc hcs=>let ⟨o,v,_,e2,e3,_⟩:=cel c hcs;⟨o,v,e3,e2⟩;have nb':∀{b:aj}{u:HO},H' b=a8 u->(∀oc v,u=.frz oc (.own 0)->oc.data≠.cell v)->del H' cs b=a8 u:=λ{b u} e n=>by rw[j7];exact e;intro z;obtain⟨o,v,_,e2,e3,_⟩:=cel b z;rw[e]at e3;cases e3;exact n _ _ rfl e2
  refine⟨v,del H' cs,I.call' (ch:=[]) os ⟨λb o e n hb hx=>?_,λb o e n hb hx=>?_,λb o e n hx=>?_,un.there,λb xs e=>?_,λb o u e=>?_,λb ps e=>?_⟩ (λb o e=>?_) bare (λb z=>absurd z (by simp)),rel,q hC⟩
  .by_cases z:b∈cs
   .obtain⟨o',v',e1,_,_,e4⟩:=cel b z;rw[e]at e1;cases e1;exact e4
   .exact un.keep b o e (by rw[Q0 z];exact n) hb hx
  .exact un.slot b o e (by rw[Q0 (nf b hb)];exact n) hb hx
  .by_cases z:b∈cs
   .exact qj z
   .rw[j7 z];exact un.free b o e (by rw[Q0 z];exact n) hx
  .have z:=un.tups b xs (g _ _ e);exact nb' z λ_ _ y=>by cases y
  .have z:=un.frzs b o u (g _ _ e);rw[j7 (nb e)];exact z
  .obtain⟨m,z⟩:=un.tbls b ps (g _ _ e);exact⟨m,nb' z λ_ _ y=>by cases y⟩
  .obtain⟨n,e⟩:=of_del e;exact(hok' b o e).stay (λ_ _ _ r=>r) (λ_ r=>nb' r λ_ _ y=>by cases y) (λ_ _ r=>nb' r λ_ _ y=>by cases y) λ_ _ ⟨vs,d⟩ r=>nb' r λ_ _ y d'=>by cases y;rw[d]at d';cases d'
end
def Zv(X:Cx)(ρ:Rho):List (aq×aj)->List D->Prop
 |[],ds=>ds=[]
 |p::cl,ds=>∃(d:D)(r:List D)(i:Nat),ds=d::r/\X.N[i]?=a8 p.1/\X.env.scope.names.lookup p.1=a8 .cell/\X.env.cells.lookup p.1=a8 p.2/\X.fn p.1=ah/\ρ[i]?=a8 (.val d)/\Zv X ρ cl r
section
variable{X:Cx}{pins:k98}{σ:St}{H H2:Hp}{s s2:ao}{ρ:Rho}
theorem Zv.own:∀{cl:List (aq×aj)} {ds:List D},Zv X ρ cl ds->Own X (cl.map (·.2))
 |[],_,_=>λ_ h=>nomatch h
 |p::cl,_,⟨d,r,i,e,h1,h2,h3,h4,h5,l⟩=>λc hc=>(xr.mp hc).elim (λz=>⟨p.1,by rw[z];exact h3,h4⟩) (Zv.own l c)
theorem Zv.look:∀{cl:List (aq×aj)} {ds:List D},Zv X ρ cl ds->∀p∈cl,X.env.cells.lookup p.1=a8 p.2
 |p::cl,_,⟨d,r,i,e,h1,h2,h3,h4,h5,l⟩,q,hq=>(xr.mp hq).elim (λz=>z▸h3) (Zv.look l q)
theorem Zv.cells(I2:Inv X pins σ H2 s2)(R:Rep X.K ρ σ H){cs:List aj}(hg:j0 (del H (owns ρ)) (del (plus H2 s2.heap cs) cs)):∀{cl:List (aq×aj)} {ds:List D},Zv X ρ cl ds->(∀c∈cl.map (·.2),c∈cs) ->
  ∃vs,vf (plus H2 s2.heap cs) (cl.map (·.2)) vs/\j4 X.K (del (plus H2 s2.heap cs) cs) ds vs
 |[],_,h,_=>by cases h;exact⟨[],rfl,rfl⟩
 |p::cl,_,⟨d,r,i,e,h1,h2,h3,h4,h5,l⟩,hm=>by
  subst e;obtain⟨vs,q1,q2⟩:=Zv.cells I2 R hg l λc hc=>hm c (xg _ hc);obtain⟨v,hv,en⟩:=R.val i d h5;obtain⟨m,hn,hl⟩:=I2.loc;obtain⟨u,r,lk⟩:=hl i p.1 v h1 hv (.inr (.inl h2));rcases lk with ⟨k,_⟩|⟨_,c,e,o,ho,hd⟩
  .have k:X.env.scope.names.lookup p.1=a8 .local:=k;rw[h2]at k;cases k
  .rw[h3]at e;cases e;exact⟨v::vs,⟨v,vs,o,u,rfl,Oc (hm _ (xq ..)) ho,hd,r,q1⟩,v,vs,rfl,en.mono hg,q2⟩
def j2e{cl:List (aq×aj)}{ds:List D}(ok:X.Ok)(h:Zv X ρ cl ds)(nd:(cl.map (·.1)).Nodup):(cl.map (·.2)).Nodup:=by
 have lk:=h.look;clear h;induction cl with
 |nil=>exact eZ
 |cons p r ih =>rw[X5]at nd ⊢;obtain⟨n1,n2⟩:=Xk.mp nd;refine Xk.mpr ⟨λz=>?_,ih n2 λq hq=>lk q (xg _ hq)⟩;obtain⟨q,hq,e⟩:=X8.mp z;have:=ok.inj p.1 q.1 p.2 (lk p (xq ..)) (by rw[<-e];exact lk q (xg _ hq));exact n1 (this▸cu hq)
def j74{x:aq}{tx:Tx}{cl:List (aq×aj)}{ds:List D}{f c:aj}{oc:d8}{pm ctv:ai}(ht:Z0 X.K x=a8 tx)(hn:cl.map (·.1)=v5 tx.2.2)(nd:(v5 tx.2.2).Nodup)(hc:Zv X ρ cl ds)(I2:Inv X pins σ H2 s2)(R:Rep X.K ρ σ H)(g:j0 H H2)
  (hf:H2 f=a8 (.frz (W.kla_obj "<lambda>" (jx x) tx.1 tx.2.1 tx.2.2 cl pm c ctv) (.own 0))) (ho:H2 c=a8 (.frz oc (.own 0))) (hq:Ba oc (jx x)):Enc X.K (plus H2 s2.heap (cl.map (·.2))) (.fn x ds) (.ref f):=by
 have pg:=Up I2 hc.own;have hg:j0 (del H (owns ρ)) (del (plus H2 s2.heap (cl.map (·.2))) (cl.map (·.2))):=λb o e=>by
  have e2:=g _ _ (of_del e).2;have nb:b∉cl.map (·.2):=λz=>by obtain⟨_,_,_,_,n,_⟩:=hc.own.obj I2 z;rw[n]at e2;cases e2
  rw[j7 nb,Q0 nb];exact e2
 obtain⟨vs,q1,q2⟩:=hc.cells I2 R hg λ_ z=>z;exact⟨f,c,tx,cl,vs,rfl,⟨ht,⟨pm,ctv,pg _ _ hf⟩,⟨oc,pg _ _ ho,hq⟩,hn,j2e I2.ok hc (by rw[hn];exact nd),q1⟩,q2⟩
end
section
variable{X:Cx}{ρ:Rho}{P:Po}{x:aq}{params:dQ}{body:au}{scope:b8}{cl:List (aq×aj)}{ds:List D}{pos p1 p2:aO}
def DS.retLam(M:LMk X x)(hdef:gx params X.env=([],[]))(hcl:dY scope X.env=pure cl)(ht:Z0 X.K x=a8 (params,body,scope))(hn:cl.map (·.1)=v5 scope)(nd:(v5 scope).Nodup)(hc:Zv X ρ cl ds)(h:P.rt (.val (.fn x ds))) :
  DS X ρ (.Return (a8 (.Lambda params body scope p1)) pos) P:=λσ H E R q pins s I=>by
 refine lB (thn (j69 M hdef hcl pins s σ H (λv H2=>∃(f c:aj)(oc:d8)(pm ctv:ai),v=.ref f/\j0 H H2/\H2 f=a8 (.frz (W.kla_obj "<lambda>" (jx x) params body scope cl pm c ctv) (.own 0))/\H2 c=a8 (.frz oc (.own 0))/\Ba oc (jx x)) I
  ⟨R.tb,λf c oc pm ctv H2 g _ h1 h2 h3=>⟨f,c,oc,pm,ctv,rfl,g,h1,h2,h3⟩⟩) λu s2 ⟨v,H2,I2,r,f,c,oc,pm,ctv,ev,g,h1,h2,h3⟩=>?_)
 subst ev;refine⟨_,σ,H2,plus H2 s2.heap (cl.map (·.2)),I2,r,λb=>?_,q.rt _ _ _ h ⟨λb o e=>Up I2 hc.own _ _ (g _ _ (of_del e).2),j74 (tx:=(params,body,scope)) ht hn nd hc I2 R g h1 h2 h3⟩⟩;by_cases z:b∈cl.map (·.2)
 .obtain⟨o,v,e1,e2,_⟩:=hc.own.obj I2 z;obtain⟨y,e,fy⟩:=hc.own b z;exact .inr ⟨y,o,v,e,fy,Oc z e1,e1,e2⟩
 .exact .inl (Q0 z)
def DT.callL{S:List D->D->Prop}{g:aq}{e1 e2:au}{d1 d2 d:D}(c:Cal X g (spP X.K S))(M:LMk X x)(hdef:gx params X.env=([],[]))(hcl:dY scope X.env=pure cl)(ht:Z0 X.K x=a8 (params,body,scope))(hn:cl.map (·.1)=v5 scope)(nd:(v5 scope).Nodup)(hc:Zv X ρ cl ds)
  (h1:DT X ρ e1 d1) (h2:DT X ρ e2 d2) (nf:noFn d=ah) (hS:S [d1,d2,.fn x ds] d) (hg:Gl X g) (hdb:(g==k9a)=a9)
  (hs1:af [e1,e2,.Lambda params body scope p1] X.env=(a9,aC e1 X.env)::af [e2,.Lambda params body scope p1] X.env) (hs2:af [e2,.Lambda params body scope p1] X.env=(a9,aC e2 X.env)::af [.Lambda params body scope p1] X.env)
  (hs3:af [.Lambda params body scope p1] X.env=(a9,aC (.Lambda params body scope p1) X.env)::af [] X.env) (hpl:(aP pos (af [e2,.Lambda params body scope p1] X.env)).any (·.1)=a9) :
  DT X ρ (.Call (.Name g p2) [e1,e2,.Lambda params body scope p1] [] pos) d:=λσ H Q R q pins s I=>by
 obtain⟨k,f,fd,ps,F,hr,hm,hk,hb,_⟩:=c.ex;refine aK (Yz I hg hm ?_ hdb);refine W.callWith_K (h₀:=X.base) I.ok.mod.kin hk (thn ((jc peS (jc peS (jc (j69 M hdef hcl) jt hs3) hs2) hs1) pos pins s σ H (λvs H2=>∃(v1 v2:V)(f c:aj)(oc:d8)(pm ctv:ai),vs=[v1,v2,.ref f]/\j0 H H2/\Enc X.K H2 d1 v1/\Enc X.K H2 d2 v2 /\
   H2 f=a8 (.frz (W.kla_obj "<lambda>" (jx x) params body scope cl pm c ctv) (.own 0))/\H2 c=a8 (.frz oc (.own 0))/\Ba oc (jx x)) I
  (h1 σ H _ R λv1 H1 g1 q1=>h2 σ H1 _ (R.grow g1) λv2 H2 g2 q2=>⟨R.tb.mono (g1.trans g2),λf c oc pm ctv H3 g3 _ z1 z2 z3=>⟨v1,v2,f,c,oc,pm,ctv,rfl,(g1.trans g2).trans g3,q1.mono (g2.trans g3),q2.mono g3,z1,z2,z3⟩⟩)) λus s2 ⟨vs,H2,I2,rv,v1,v2,fa,ca,oc,pm,ctv,ev,g,q1,q2,z1,z2,z3⟩=>⟨I2.kIn,?_⟩) hs1 hpl
 subst ev;have pg:=Up I2 hc.own;have ef:=j74 (tx:=(params,body,scope)) ht hn nd hc I2 R g z1 z2 z3;obtain⟨e0,back⟩:=I2.plus hc.own;have sp:spP X.K S [v1,v2,.ref fa] (plus H2 s2.heap (cl.map (·.2))) (λv H'=>Cel H' (cl.map (·.2))->Q v (del H' (cl.map (·.2)))) E0 :=
  ⟨[],[d1,d2,.fn x ds],d,(R.tb.mono g).mono pg,(λa h=>nomatch h),by rw[qp];exact⟨_,_,rfl,q1.mono pg,_,_,rfl,q2.mono pg,_,_,rfl,ef,rfl⟩,hS,λv H' g' en hC=>by
   rw[qp]at en
   refine q v _ (λb o e=>?_) (en.noc hC nf)
   have e2:=g _ _ e
   have nb:b∉cl.map (·.2):=λz=>by obtain⟨_,_,_,_,n,_⟩:=hc.own.obj I2 z;rw[n]at e2;cases e2
   rw[j7 nb];exact g' _ _ (pg _ _ e2)⟩
 have hl:us.length=ps.length:=by rw[<-rv.length];exact F.len _ _ _ _ sp
 have hb':=hb s2 us I2.kIn (by rw[Xn];exact hl);rw[Xn]at hb';refine gq (bG (F.run X.A X.stack s2 _ ⟨us,[]⟩ us _ _ _ (hr.mono (Pn _)) e0 hb' rv sp) λr s' hq=>?_);cases r with
 |error e=>exact(show False from hq).elim
 |ok fl =>
  cases fl with
  |ret u=>exact back Q u s' hq
  |next=>exact(show False from hq).elim
  |brk=>exact(show False from hq).elim
  |cont=>exact(show False from hq).elim
end
section
variable{X:Cx}{ρ:Rho}{e a b c:au}{es:List au}{st:aS}{rest sa sb body:List aS}{P:Po}{d:D}{ds ds':List D}{pos p p1 p2 p3:aO}{x:aq}{i:Nat}
def Cal.comp{sp:Sp}{scope:b8}{C:aj}{s:ao}{H:Hp}{fp:List aj}{pn:k98}(h:Cal X x sp):Cal (cCx X scope C s H fp pn) x sp:=⟨h.ex⟩
end
def vy(lo:Int)(n:Nat):(upto lo n).length=n:=by unfold upto;rw[xf,Xj]
def j7y{lo:Int}{n j:Nat}{d:D}(h:(upto lo n)[j]?=a8 d):j<n/\d=.int (lo+j):=by
 unfold upto at h;rw[X4]at h;cases z:(aA n)[j]? with
 |none=>rw[z]at h;cases h
 |some k =>rw[z]at h;have hl:=(X6.mp z).1;rw[Xj]at hl;have:=P0 (n:=n) (i:=j) hl;rw[this]at z;cases z;cases h;exact⟨hl,rfl⟩
theorem D.depL_of{n:Nat}:∀{ds:List D},(∀d∈ds,d.dep<=n)->D.depL ds<=n
 |[],_=>by simp only[D.depL];omega
 |x::xs,h=>by simp only[D.depL];have h1:=h x (xq ..);have h2:=D.depL_of (ds:=xs) λd m=>h d (xg _ m);omega
end L2
namespace L2
noncomputable def ju(b:Int):Nat->Int->zo
 |0,_=>[]
 |i+1,n=>(n/b^i%b)::ju b i n
theorem zf(b:Int):∀(m:Nat)(n:Int),(ju b m n).length=m
 |0,_=>rfl
 |m+1,n=>by rw[ju,xx,zf b m n]
theorem Vp(b:Int):∀{m k:Nat}{n:Int},k<m->(ju b m n)[k]?=a8 (n/b^(m-k-1)%b)
 |m+1,0,n,_=>by rw[ju];rfl
 |m+1,k+1,n,h=>by
  rw[ju,eC,Vp b nofun];have:m-k-1=m+1-(k+1)-1:=by omega
  rw[this]
theorem Ds{b:Int}(hb:0<b):∀{m:Nat}{n v:Int},v∈ju b m n->0<=v/\v<b
 |m+1,n,v,h=>by
  rw[ju]at h;rcases xr.mp h with e|h
  .subst e;exact⟨Th _ nofun,cH _ hb⟩
  .exact Ds hb h
def j9u(n b:Int)(hb:0<b)(i:Nat):n/b^i/b=n/b^(i+1):=by rw[Int.ediv_ediv_of_nonneg (iR (d6 hb)),iP]
end L2
end
section
namespace L2
open PySem PySem.Spec PyProof.Rows
def CX1(P:ay)(w:aD):CXT:=λouter H s E ev s'=>∃(e:aj)(C:ai)(H':Hp),ev=.ref e/\s'.os=s.os/\eJ s'.gens/\Un (frs outer) [] H H' s.heap s'.heap/\HOk P w H' s'.heap /\
 Fl (λb=>∃o,s.heap.get? b=a8 o) H' s'.heap e C/\E C ae H'
def ji.get{P:ay}{w:aD}{H:Hp}{h:aE}{a:aj}{o:HO}(x:ji P w H h a o):∃u,h.get? a=a8 u:=by
 cases o with
 |lst xs=>obtain⟨_,_,_,_,e⟩:=x;exact⟨_,e⟩
 |tup xs=>obtain⟨_,_,_,⟨_,e,_⟩,_⟩:=x;exact⟨_,e⟩
 |dK kvs=>obtain⟨_,_,_,_,o,_,_,e,_⟩:=x;exact⟨_,e⟩
 |dT kvs=>obtain⟨_,_,_,_,o,_,_,e,_⟩:=x;exact⟨_,e⟩
 |dI xs ep=>obtain⟨_,_,_,o,_,e,_⟩:=x;exact⟨_,e⟩
 |set S n=>obtain⟨o,_,_,_,e,_⟩:=x;exact⟨_,e⟩
 |ins C dx fs=>obtain⟨_,_,_,e,_⟩:=x;exact⟨_,e⟩
 |own y=>obtain⟨_,e⟩:=x;exact⟨_,e⟩
 |xd fs=>obtain⟨_,⟨_,_,_,e,_⟩,_⟩:=x;exact⟨_,e⟩
 |rng lo hi=>obtain⟨_,_,_,e⟩:=x;exact⟨_,e⟩
 |frz ob u=>obtain⟨e,_⟩:=x;exact⟨_,e⟩
 |tbl ps=>exact⟨_,(show h.get? a=a8 _ from x)⟩
 |cod q=>obtain⟨_,e,_⟩:=x;exact⟨_,e⟩
 |met f y=>exact⟨_,(show h.get? a=a8 _ from x)⟩
 |ext φ=>obtain⟨_,⟨_,e⟩,_⟩:=x;exact⟨_,e⟩
section
variable{X:Cx}{pins:k98}{σ:St}{H:Hp}{s:ao}
def Inv.old(I:Inv X pins σ H s){b:aj}(h:Old X pins b):∃o,s.heap.get? b=a8 o:=by
 rcases h with ⟨o,q,n⟩|⟨p,hp,rfl⟩|rfl|⟨x,e⟩
 .exact I.base.there b o q n
 .exact⟨_,(I.pin p hp).1⟩
 .obtain⟨m,⟨o,_,_,e,_⟩,_⟩:=I.loc;exact⟨o,e⟩
 .obtain⟨v,o,e,_⟩:=I.cell x b e;exact⟨o,e⟩
end
section
variable{P:ay}{w:aD}{K:k96}{mg:k99}{base:aE}{N ps:List aq}{qual:aq}{scope:b8}{f:aj}{cd:ai}{A:aF}{outer:List d9}{s s':ao}{H H':Hp}{E:XK}{σ:St}{pins:k98}{e:aj}{C:ai}
def Lg{as:List aj}{h':aE}{a0:ai}(I:Inv (zq (CX1 P w) P w K mg base N qual scope f cd A outer s H E) pins σ H' s')(F:FlQ (flF (zq (CX1 P w) P w K mg base N qual scope f cd A outer s H E).env) (Old (zq (CX1 P w) P w K mg base N qual scope f cd A outer s H E) pins) H' s'.heap e C)
  (hE:E C ae H') (ha:∀b,b∈as↔b∈frs (bD qual scope s.heap.objs.size f cd::outer)\/(¬(∃o,s.heap.get? b=a8 o)/\H' b=ae/\b∈as)) (hfa:∀b∈frs (bD qual scope s.heap.objs.size f cd::outer),b∈as)
  (hL:Heap.LeftW (W.hideAll s'.heap as) (bD qual scope s.heap.objs.size f cd::outer) e C a0 s'.heap h'):CX1 P w outer H s E (.ref e) { s' with heap:=h' }:=by
 obtain⟨k1,k2,k3,k4⟩:=hL;have fr:∀b∈frs outer,∃o,s'.heap.get? b=a8 o/\∀vs,o.data≠.fields vs:=λb hb=>by obtain⟨o,ho,hd⟩:=(I.stack.mem (show b∈frs (bD qual scope s.heap.objs.size f cd::outer)from xg _ hb)).2;exact⟨o,ho,hd⟩
 have sfree:∀b∈frs (bD qual scope s.heap.objs.size f cd::outer),H' b=ae:=I.stkFree;have keep:∀b o,s'.heap.get? b=a8 o->b∉as->h'.get? b=a8 o:=λb o q n=>k1 b o (W.hideAll_get _ q n);have nold:∀b o,s.heap.get? b=a8 o->b∉frs outer->b∉as:=λb o q n z=>by
  rcases(ha b).mp z with z|⟨z,_⟩
  .rcases xr.mp z with z|z
   .have:=xn q;rw[show b=s.heap.objs.size from z]at this;exact absurd this (Ph _)
   .exact n z
  .exact z ⟨o,q⟩
 have ntrk:∀b u,H' b=a8 u->b∉as:=λb u q z=>by
  rcases(ha b).mp z with z|⟨_,z,_⟩
  .rw[sfree b z]at q;cases q
  .rw[z]at q;cases q
 have slot:∀b∈frs outer,∀o,s'.heap.get? b=a8 o->∃sl,h'.get? b=a8 { o with slots:=sl }:=λb hb o q=>by obtain⟨o',ho,hd⟩:=fr b hb;rw[q]at ho;cases ho;exact k4 b o q hd
 have un:=I.base;refine⟨e,C,H',rfl,I.os,I.bare,⟨λb o q n hb _=>keep b o (un.keep b o q n hb (λz=>nomatch z)) (nold b o q hb),λb o q n hb _=>?_,λb o q n _=>un.free b o q n (λz=>nomatch z),λb o q _=>?_,un.tups,un.frzs,un.tbls⟩,
  λa o q=>(I.hok a o q).stay (λb u hb r=>keep b u r ?_) (λ_ z=>z) (λ_ _ z=>z) λ_ _ _ z=>z,?_,hE⟩
 .obtain⟨sl,q'⟩:=un.slot b o q n hb (λz=>nomatch z);obtain⟨sl',q2⟩:=slot b hb _ q';exact⟨sl',q2⟩
 .obtain⟨o',q'⟩:=un.there b o q (λz=>nomatch z);by_cases hb:b∈frs outer
  .obtain⟨sl,q2⟩:=slot b hb _ q';exact⟨_,q2⟩
  .exact⟨_,keep b o' q' (nold b o q hb)⟩
 .rcases hb with rfl|hb
  .exact ntrk _ _ q
  .exact ntrk _ _ hb
 .obtain⟨oe,vs,T,oT,ts,he,⟨hc,h0⟩,hd,h1,hnT,hTe,hT,hdT,h3⟩:=k3;refine⟨λb ⟨o,q⟩=>F.new b (.inl ⟨o,q,λz=>nomatch z⟩),F.free,oe,vs,a0,he,hc,hd,h0,.inr ⟨T,oT,ts,.none,h1,hTe,hT,hdT,⟨h3,rfl⟩,?_,λb ⟨o,q⟩ z=>?_⟩⟩
  .cases r:H' T with
   |none=>rfl
   |some u =>obtain⟨ob,q⟩:=(I.hok T u r).get;rw[W.hideAll_get _ q (ntrk T u r)]at hnT;cases hnT
  .subst z;obtain⟨o',q'⟩:=un.there b o q (λz=>nomatch z);by_cases hb:b∈frs outer
   .obtain⟨o2,q2,nf⟩:=fr b hb;obtain⟨sl,q3⟩:=slot b hb o2 q2;rw[q3]at hT;cases hT;exact nf ts hdT
   .rw[W.hideAll_get _ q' (nold b o q hb)]at hnT;cases hnT
def j6s(I:Inv (zq (CX1 P w) P w K mg base N qual scope f cd A outer s H E) pins σ H' s')(F:FlQ (flF (zq (CX1 P w) P w K mg base N qual scope f cd A outer s H E).env) (Old (zq (CX1 P w) P w K mg base N qual scope f cd A outer s H E) pins) H' s'.heap e C)(hE:E C ae H') :
  (zq (CX1 P w) P w K mg base N qual scope f cd A outer s H E).xe (.ref e) s':=by
 obtain⟨oe,vs,a0,he,hc,hd,h0,hT⟩:=F.obj;have hsN:∀b,(∃o,s.heap.get? b=a8 o)->Old (zq (CX1 P w) P w K mg base N qual scope f cd A outer s H E) pins b:=λb ⟨o,q⟩=>.inl ⟨o,q,λz=>nomatch z⟩;have hin:∀(as:List aj),(∀b∈frs (bD qual scope s.heap.objs.size f cd::outer),b∈as)->∀env∈bD qual scope s.heap.objs.size f cd::outer,∀a,env.frame=a8 a->a∈as:=λas h env he a ha=>h a (Td.mpr ⟨env,he,ha⟩);subst hc;rcases hT with h1|⟨T,oT,ts,fl,h1,hTe,hT,hdT,⟨h3,hfl⟩,hTf,hTn⟩
 .let as:=e::frs (bD qual scope s.heap.objs.size f cd::outer)
  have hfa:∀b∈frs (bD qual scope s.heap.objs.size f cd::outer),b∈as:=λb hb=>xg _ hb;refine wpAny_leaving_firstW (base:=W.hideAll s'.heap as) I.ok.frames (W.funFrames_hide I.stack (hin as hfa)) rfl he (λb o q=>W.of_hideAll _ q) (W.hideAll_none _ (xq ..)) hd h1 h0 λh' hL =>Lg I F hE (λb=>⟨λz=>?_,λz=>z.elim (hfa b) λz=>z.2.2⟩) hfa hL
  rcases xr.mp z with e1|z'
  .subst e1;exact .inr ⟨λq=>F.new _ (hsN _ q) rfl,F.free,z⟩
  .exact .inl z'
 .let as:=e::T::frs (bD qual scope s.heap.objs.size f cd::outer)
  have hfa:∀b∈frs (bD qual scope s.heap.objs.size f cd::outer),b∈as:=λb hb=>xg _ (xg _ hb);have mem:∀b∈as,b∈frs (bD qual scope s.heap.objs.size f cd::outer)\/(¬(∃o,s.heap.get? b=a8 o)/\H' b=ae/\b∈as):=λb z=>by
   rcases xr.mp z with e1|z'
   .subst e1;exact .inr ⟨λq=>F.new _ (hsN _ q) rfl,F.free,z⟩
   .rcases xr.mp z' with e1|z2
    .subst e1;exact .inr ⟨λq=>hTn _ (hsN _ q) rfl,hTf,z⟩
    .exact .inl z2
  have tr:s'.heap.TracedAtW (W.hideAll s'.heap as) e oe.cls a0 fl:=⟨oe,vs,T,oT,ts,he,⟨rfl,h0⟩,hd,h1,W.hideAll_none _ (xg _ (xq ..)),hTe,hT,hdT,h3⟩
  rcases hfl with hfl|⟨L,hfL,hfl⟩
  .subst hfl;exact wpAny_leaving_nextW (base:=W.hideAll s'.heap as) (a0:=a0) I.ok.frames (W.funFrames_hide I.stack (hin as hfa)) rfl tr
    (λb o q=>W.of_hideAll _ q) (W.hideAll_none _ (xq ..)) λh' hL =>
    Lg I F hE (λb=>⟨mem b,λz=>z.elim (hfa b) λz=>z.2.2⟩) hfa hL
  .subst hfl;show aw _ _ (leaving _ (.ref e)) _ _ s';unfold leaving;refine aa (wpAny_noteFrame_againW (base:=W.hideAll s'.heap as) (a0:=a0) hfL tr ?_);exact wpAny_setFlight_noneW (base:=W.hideAll s'.heap as) (a0:=a0) (λb o q=>W.of_hideAll _ q) (W.funFrames_hide I.stack (hin as hfa)) tr λh' k1 k2 k3 k4 =>Lg I F hE (λb=>⟨mem b,λz=>z.elim (hfa b) λz=>z.2.2⟩) hfa ⟨k1,k2,k3,λb o hb hn=>⟨o.slots,k4 b o hb hn⟩⟩
end
def spX(K:k96)(mg:k99)(S:List D->aq->Prop):Sp:=λvs H _ E=>∃ds x C,TabOk K H/\j4 K H ds vs/\S ds x/\mg x=a8 C/\∀H',j0 H H'->E C ae H'
section
variable{P:ay}{w:aD}{K:k96}{mg:k99}{base:aE}{x qual:aq}{st:aS}{f:aj}{fd:aL}{N ps:List aq}{k:Nat}
def j73{S:List D->aq->Prop}(F:Fun K x qual st f fd)(Sc:FnScope N ps (jb st))(hl:∀ds y,S ds y->ds.length=ps.length)
  (hbody:∀(cdv:ai)(A:aF)(outer:List d9)(s:ao)(H:Hp)(E:XK),M4 K f cdv->Room k (A.deeper (bD qual (jb st) s.heap.objs.size f cdv))->∀ds y,S ds y ->
   DSs (zq (CX1 P w) P w K mg base N qual (jb st) f cdv A outer s H E) (qi N ds) (jm st) { nx:=λ_=>False,rt:=λ_=>False,ex:=λz _=>z=y }):FnOk P w K mg base (CX1 P w) (k+1) f fd ps (spX K mg S):=by
 obtain⟨oc,od,dV,kV,doc,pm,an,cdv,ct,osl,rfl,lk,hcd⟩:=F.ex;refine jb1 lk hcd Sc (λvs H Q E ⟨ds,y,C,tb,en,hS,_⟩=>by rw[en.length];exact hl ds y hS) λA outer s H vs Q E hr ⟨ds,y,C,tb,en,hS,hC,hE⟩=>⟨_,Yi,?_⟩
 have ho:=Za N ds;refine hbody cdv A outer s H E ⟨oc,od,_,osl,lk,rfl⟩ hr ds y hS (start N vs) H _ (Y5 tb en) ⟨λρ' σ' H' n R f=>n.elim,λ_ _ _ z=>z.elim,λ_ _ _ z=>z.elim,λr v H' n z=>n.elim,λz ρ' σ' H' n R g=>?_⟩;cases(show z=y from n);intro pins H2 s' e C' I g2 hC' Fe;cases hC.symm.trans hC';unfold Fr0 at g;rw[ho,qp]at g;exact j6s I Fe (hE H2 ((g.trans jk).trans g2))
end
def DX(X:Cx)(ρ:Rho)(e:au)(x:aq):Prop:=∀σ H Q,Rep X.K ρ σ H->W8 X σ H x->J8 X e σ H Q
def DXA(X:Cx)(ρ:Rho)(es:List au)(x:aq):Prop:=∀σ H Q,Rep X.K ρ σ H->W8 X σ H x->U6 X es σ H Q
structure CalX(X:Cx)(x:aq)(sp:Sp):Prop where
 ex:∃(k:Nat)(f:aj)(fd:aL)(ps:List aq),FnOk X.prog X.w X.K X.mg X.base (CX1 X.prog X.w) k f fd ps sp/\Room k X.A/\X.mg x=a8 (.ref f)/\W.keepIn X.K (.ref f)=ah/\Binds X.K fd ps []
section
variable{X:Cx}{ρ:Rho}{e:au}{es:List au}{f x:aq}{ds:List D}{p pos:aO}{C:ai}
def DX.call {S:List D->aq->Prop} (c:CalX X f (spX X.K X.mg S)) (ha:DTA X ρ (e::es) ds) (hS:S ds x) (hC:X.mg x=a8 C) (hg:Gl X f) (hdb:(f==k9a)=a9)
  (he:af (e::es) X.env=(a9,aC e X.env)::af es X.env) (hpl:(aP pos (af es X.env)).any (·.1)=a9):DX X ρ (.Call (.Name f p) (e::es) [] pos) x:=λσ H Q R k pins s I=>by
 obtain⟨n,fa,fd,ps,F,hr,hm,hk,hb⟩:=c.ex;refine aK (Yz I hg hm ?_ hdb);refine W.callWith_K (h₀:=X.base) I.ok.mod.kin hk (thn (ha σ H (λvs H1=>j0 H H1/\j4 X.K H1 ds vs) R (λvs H1 g e=>⟨g,e⟩) pos pins s I) λus s1 ⟨vs,H1,I1,r,g,en⟩=>⟨I1.kIn,?_⟩) he hpl;have sp:spX X.K X.mg S vs H1 (λ_ _=>False) (λC' _ H'=>C'=C/\j0 H1 H'):=⟨ds,x,C,R.tb.mono g,en,hS,hC,λH' g=>⟨rfl,g⟩⟩
 have hl:us.length=ps.length:=by rw[<-r.length];exact F.len _ _ _ _ sp
 have hb':=hb s1 us I1.kIn (by rw[Xn];exact hl);rw[Xn]at hb';refine gq (bG (F.run X.A X.stack s1 H1 ⟨us,[]⟩ us vs _ _ hr I1.env0 hb' r sp) λr s' hq=>?_);cases r with
 |error ev =>obtain⟨e,C',H',rfl,os,bare,un,hok,fl,rfl,g'⟩:=hq;have I':Inv X pins σ H' s':=I1.call' os un hok bare (λb z=>nomatch z);refine k pins H' s' e C' I' (g.trans g') hC (FlQ.up fl (λ_ z=>.inl z) λb hb=>I1.old hb)
 |ok fl =>
  cases fl with
  |ret u=>obtain⟨_,_,_,_,_,_,_,z⟩:=hq;exact z.elim
  |next=>exact bx hq
  |brk=>exact bx hq
  |cont=>exact bx hq
end
section
variable{X:Cx}{ρ:Rho}{e:au}{es:List au}{x:aq}{d:D}{p pos np cpos:aO}{P:Po}{i:Int}{y:aq}{ys:List aq}
def DE.fmtI(ha:DT X ρ e (.int i))(hi:i.natAbs.log2<1920):DE X ρ (.FormattedValue e (-1) ae pos) (.str (toString i)):=λσ H Q R q pins s I=>by
 refine fV (thn (ha σ H (λv H1=>v=.int i/\j0 H H1) R (λv H1 g e=>⟨e,g⟩) pins s I) λu s1 ⟨v,H1,I1,r,ev,g⟩=>?_);subst ev;obtain⟨t,rfl⟩:=(show ∃t,u=br i t from r)
 exact formatField_int_small hi ⟨.str (toString i),H1,I1.un (t':=s1.toks+1+1) Un.refl I1.hok,⟨_,rfl⟩,q _ H1 g rfl⟩
def DE.fmtS(ha:DT X ρ e (.str y))(hy:y.length<=av):DE X ρ (.FormattedValue e (-1) ae pos) (.str y):=λσ H Q R q pins s I=>by
 refine fV (thn (ha σ H (λv H1=>v=.str y/\j0 H H1) R (λv H1 g e=>⟨e,g⟩) pins s I) λu s1 ⟨v,H1,I1,r,ev,g⟩=>?_);subst ev;obtain⟨t,rfl⟩:=(show ∃t,u=bA y t from r)
 exact mO (λt' tk=>⟨.str y,H1,I1.un (t':=tk) Un.refl I1.hok,⟨_,rfl⟩,q _ H1 g rfl⟩) hy
noncomputable def j05(out:aq):List aq->aq
 |[]=>out
 |y::ys=>j05 (out++y) ys
def DPs(X:Cx)(ρ:Rho):List au->List aq->Prop
 |[],[]=>True
 |e::es,y::ys=>DE X ρ e (.str y)/\DPs X ρ es ys
 |_,_=>False
theorem j1f:∀{es:List au}{ys:List aq}{out:aq}{n:Nat}{pins:k98} {σ:St} {H0 H:Hp} {s:ao} {Q:VK},DPs X ρ es ys->(∀y∈ys,y.length<=10000)->out.length+10000*ys.length<=av->Inv X pins σ H s->Rep X.K ρ σ H->j0 H0 H ->
  (∀H',j0 H0 H'->Q (.str (j05 out ys)) H')->aw (aB X.prog X.w) X.A (joinParts out (evalEach es X.env)) (EP X pins σ Q) X.xe s
 |[],[],out,n,pins,σ,H0,H,s,Q,_,_,hl,I,R,g,q=>joinParts_nil ⟨.str out,H,I.un (t':=s.toks+1) Un.refl I.hok,⟨_,rfl⟩,q H g⟩ (by have:=hl;omega)
 |e::es,y::ys,out,n,pins,σ,H0,H,s,Q,hp,hy,hl,I,R,g,q=>by
  have hy0:=hy y (xq ..);rw[xx]at hl;refine joinParts_cons (thn (hp.1 σ H (λv H1=>v=.str y/\j0 H H1) R (λv H1 g e=>⟨e,g⟩) pins s I) λu s1 ⟨v,H1,I1,r,ev,g1⟩=>?_);subst ev;obtain⟨t,rfl⟩:=(show ∃t,u=bA y t from r)
  have hz:(out++y).length<=out.length+10000:=by rw[strLen_append];omega
  exact⟨by omega,j1f (n:=n) hp.2 (λz hz=>hy z (xg _ hz)) nofun I1 (R.grow g1) (g.trans g1) q⟩
 |[],_::_,_,_,_,_,_,_,_,_,h,_,_,_,_,_,_=>h.elim
 |_::_,[],_,_,_,_,_,_,_,_,h,_,_,_,_,_,_=>h.elim
def DE.joined{a b:au}(h:DPs X ρ (a::b::es) ys)(hy:∀y∈ys,y.length<=10000)(hl:ys.length<=1000):DE X ρ (.JoinedStr (a::b::es) pos) (.str (j05 fh ys)):=λσ H Q R q pins s I =>
 JoinedStr_many (j1f (n:=0) (out:=fh) h hy (by
  have e:Str.empty.length=0:=rfl
  rw[e,cD];omega) I R (j0.refl H) λH' g=>q _ H' g rfl)
def jdc{Q:VK}{σ:St}{H:Hp}(he:J8 X e σ H Q)(hs:af [e] X.env=[(a9,aC e X.env)]):U6 X [e] σ H (λvs H'=>∃v,vs=[v]/\Q v H') :=
 (jc (es:=[]) peS jt hs).to λpins s I=>thn (he pins s I) λu s' ⟨v,H',I',r,q⟩=>⟨v,H',I',r,⟨v,rfl,q⟩⟩
def DS.raise{C:aj}{bm bmN:List ai}{newId B Bn nid initId inN:String}(O:OwnCls x C bm newId X.mg X.base)(Fn:ExcBaseFacts Bn newId inN bmN)(hBn:bm.contains (.type Bn)=ah)(FB:ExcBaseFacts B nid initId bm)(hc:X.calm=ah)
  (ha:∀σ H,Rep X.K ρ σ H->J8 X e σ H λ_ H'=>j0 H H') (hP:P.ex x ρ) (hg:Gl X x) (hdb:(x==k9a)=a9) (he:af [e] X.env=[(a9,aC e X.env)])
  : DS X ρ (.Raise (a8 (.Call (.Name x np) [e] [] cpos)) ae pos) P:=λσ H E R q pins s I=>by
 obtain⟨tl,N,nm,qn,bs,hdct,sn,sub,ab,col,dd,k0,k1,k2,k3,k5,mN,hC,hN,hni,T⟩:=O.obj;refine wpAny_Raise_call_subU (C:=C) (nm:=nm) (q:=qn) (N:=N) (bs:=bs) (bm:=tl) (hdct:=hdct) (sn:=sn) (sub:=sub) (ab:=ab) (col:=col) (dd:=dd) (k0:=k0) (k1:=k1) (k2:=k2) (k3:=k3) (k5:=k5)
  Fn hBn FB (mN:=mN) (T.hasType FB.hasBase) (I.ok.hd hc) (by rw[he];rfl) hni (Yz I hg O.bound ⟨rfl,?_⟩ hdb)
 have hsp:=jdc (ha σ H R) he cpos pins s I;rw[he]at hsp ⊢;refine cW (thn hsp λus s2 ⟨vs,H1,I1,r,v,ev,g⟩=>⟨rfl,?_,I1.bk _ _ hC,hN.keeps I1.bk,T.keeps I1.bk,λh' e' hm=>?_⟩)
 .show us.length<=av;rw[<-r.length,ev];show 1<=av;rw[cD];omega
 .have nold:∀b,(∃o,s2.heap.get? b=a8 o)->b≠e':=λb ⟨o,q⟩ z=>by rw[z,hm.new]at q;cases q
  obtain⟨t,ht,_,_⟩:=hm.there;refine q.ex x ρ σ H hP R (Fr0.refl _ _) pins H1 { s2 with heap:=h' } e' (.ref C) (I1.un (t':=s2.toks) (Un.kept hm.keeps) (I1.hok.kept hm.keeps)) g O.bound ⟨λb hb=>nold b (I1.old hb),?_,_,_,_,ht,rfl,rfl,rfl,.inl rfl⟩;cases z:H1 e' with
  |none=>rfl
  |some u=>exact absurd rfl (nold e' (I1.hok e' u z).get)
end
end L2
end
section
namespace L2
open PySem PySem.Spec PyProof.Rows
noncomputable def vz:List aq:=["WrongSize","NoAsk","NoWord","Twice","WrongAnswers","Unlike","NoPlace","NoText","WrongPrices","WrongWeights","NoPlan"]
noncomputable def bmV:List ai:=[.type "ValueError",.type "Exception",.type "BaseException",.type "object"]
noncomputable def j7w(K:k96)(C:aj):Bool:=W.findIn K (.ref C) "__getattribute__" == a8 (a8 (.builtin "BaseException.__getattribute__"))&&(W.findIn K (.ref C) "__getattr__" == a8 ae&&(W.subIn K (.ref C) (.type "BaseException")==a8 ah &&
 (W.findIn K (.ref C) "__class__" == a8 (a8 (.builtin "object.__class__"))&&(W.mroIn K C (.type "object")==a8 ah&&((W.clsIn K C).isSome&&W.excIn K C bmV "ValueError.__new__")))))
noncomputable def Oq(K:k96):Bool:=vz.all λx=>match W.nsIn K ax x with
 |some (a8 (.ref C))=>j7w K C&&(W.kitOne K (.ref C) (.type "ValueError")==a8 ah&&((match W.nsIn K ax "AskError" with
   |some (a8 a)=>W.exmOne K (.ref C) a==a8 ah
   |_=>a9)&&vz.all λc=>match W.nsIn K ax c with
   |some (a8 v)=>W.kitOne K (.ref C) v==a8 (x==c)
   |_=>ah))
 |some (a8 _)=>a9
 |_=>ah
structure XcOk(K:k96)(C:aj):Prop where
 ga:W.findIn K (.ref C) "__getattribute__" = a8 (a8 (.builtin "BaseException.__getattribute__"))
 gt:W.findIn K (.ref C) "__getattr__" = a8 ae
 sub:W.subIn K (.ref C) (.type "BaseException")=a8 ah
 cls:W.findIn K (.ref C) "__class__" = a8 (a8 (.builtin "object.__class__"))
 mro:W.mroIn K C (.type "object")=a8 ah
 is:(W.clsIn K C).isSome=ah
 exc:W.excIn K C bmV "ValueError.__new__" = ah
def jbi{K:k96}{C:aj}(h:j7w K C=ah):XcOk K C:=by unfold j7w at h;simp only[Xe,beq_iff_eq]at h;exact⟨h.1,h.2.1,h.2.2.1,h.2.2.2.1,h.2.2.2.2.1,h.2.2.2.2.2.1,h.2.2.2.2.2.2⟩
structure ExOne(K:k96)(x:aq)(C:aj):Prop where
 ok:XcOk K C
 val:W.kitOne K (.ref C) (.type "ValueError")=a8 ah
 ask:∃a,W.nsIn K ax "AskError" = a8 (a8 a)/\W.exmOne K (.ref C) a=a8 ah
 one:∀c∈vz,∀v,W.nsIn K ax c=a8 (a8 v)->W.kitOne K (.ref C) v=a8 (x==c)
def j9k{K:k96}(h:Oq K=ah){x:aq}{o:ai}(hx:x∈vz)(e:W.nsIn K ax x=a8 (a8 o)):∃C,o=.ref C/\ExOne K x C:=by
 have q:=Pj.mp h x hx;rw[e]at q;cases o with
 |ref C =>
  refine⟨C,rfl,?_⟩;dsimp only at q;simp only[Xe,beq_iff_eq]at q;obtain⟨q1,q2,q3,q4⟩:=q;refine⟨jbi q1,q2,?_,λc hc v ev=>?_⟩
  .split at q3
   .rename_i a ea;exact⟨a,ea,beq_iff_eq.mp q3⟩
   .cases q3
  .have z:=Pj.mp q4 c hc;rw[ev]at z;exact beq_iff_eq.mp z
 |_=>cases q
def jcm{K:k96}{h₀:aE}{C:aj}{bmB:List ai}{newId:String}{x:aq}{mg:k99}(X:K.In h₀)(hb:mg x=a8 (.ref C))(q:W.excIn K C bmB newId=ah):OwnCls x C bmB newId mg h₀:=by
 refine⟨hb,?_⟩;unfold W.excIn at q;split at q
 .rename_i dd cd sl ho;split at q
  .rename_i C' bm k0 k1 k2 k3 n k5 hm hs;simp only[Xe,beq_iff_eq,dO]at q;obtain⟨⟨⟨⟨⟨rfl,rfl⟩,hdel⟩,ht⟩,hok⟩,hni⟩:=q;obtain⟨nm,bs,mro,ns,qn,hd,sn,sub,ab,col,del⟩:=cd;dsimp only at hm hdel hok hni;subst hm hdel;have hsl:sl = #[k0,k1,k2,k3,a8 (.builtin n),k5]:=by obtain⟨l⟩:=sl;simp only at hs;rw[hs]
   subst hsl;exact⟨bm,ns,nm,qn,bs,hd,sn,sub,ab,col,dd,k0,k1,k2,k3,k5,_,X _ _ ho,.of_isNs (W.isNs_of_in X hok),W.nsMap_none_of_in X hok hni,W.tail_of_in X ht⟩
  .cases q
 .cases q
def DS.raiseE{X:Cx}{ρ:Rho}{e:au}{x:aq}{o:ai}{np cpos pos:aO}{P:Po}(ha:Oq X.K=ah)(hx:x∈vz)(hn:W.nsIn X.K ax x=a8 (a8 o))(hb:X.mg x=a8 o)(hK:X.K.In X.base)(hc:X.calm=ah)
  (he:∀σ H,Rep X.K ρ σ H->J8 X e σ H λ_ H'=>j0 H H') (hP:P.ex x ρ) (hg:Gl X x) (hdb:(x==k9a)=a9) (hs:af [e] X.env=[(a9,aC e X.env)]):DS X ρ (.Raise (a8 (.Call (.Name x np) [e] [] cpos)) ae pos) P:=by
 obtain⟨C,rfl,F⟩:=j9k ha hx hn;exact DS.raise (jcm hK hb F.ok.exc) gk (by decide +kernel) gk hc he hP hg hdb hs
section
variable{X:Cx}{pins pins':k98}{σ:St}{H:Hp}{s:ao}{xe:k97}{e:aj}
noncomputable abbrev Cx.hnd(X:Cx)(e:aj):Cx:={ X with A:=X.A.mark (a8 (.ref e)),calm:=a9,xe:=λ_ _=>False }
end
structure KindsP(P:ay)(w:aD)(K:k96)(mg:k99)(base:aE)(f x:aq)(l:List D):Prop where
 ex:∃fa:aj,mg f=a8 (.ref fa)/\W.keepIn K (.ref fa)=ah/\∀(A:aF)(outer:List d9)(s:ao)(H:Hp)(e:aj)(o:d8),A.depth+4<fK->A.units+150<aQ->Env0 P w K mg base A outer s H->TabOk K H ->
  H e=a8 (.frz o (.own e))->W.nsIn K ax x=a8 (a8 o.cls) ->
  bL (aB P w) A (.call (.ref fa) ⟨[.ref e],[]⟩) (CR CX0 outer P w H s (λv H'=>∃a xs,v=.ref a/\j0 H H'/\H a=ae/\H' a=a8 (.lst xs)/\j4 K (del H' [a]) l xs) E0) s
 nl:za l=ah
abbrev Kinds(X:Cx)(f x:aq)(l:List D):Prop:=KindsP X.prog X.w X.K X.mg X.base f x l
section
variable{X:Cx}
def jlk:V->Option Int->Option Int->Hp->VK->Prop:=λx lo hi H Q=>∃z,x=.str z/\z.length<=av/\Q (.str (bS z lo hi)) H
def part_of{v:ai}{o:Option Int}(h:fQ v o):∃l:Option (Int×gR),v=partValue l/\l.map (·.1)=o:=by
 cases h with
 |none=>exact⟨ae,rfl,rfl⟩
 |int i t=>exact⟨a8 (i,t),rfl,rfl⟩
def jes:SlR X jlk:=by intro pins s σ H x v vl vu lo hi sl Q I rx hs pl pu h;obtain⟨z,ex,hz,q⟩:=h;subst ex;obtain⟨t,ev⟩:=rx;subst ev;obtain⟨l,el,ml⟩:=part_of pl;obtain⟨u,eu,mu⟩:=part_of pu;subst el eu ml mu;obtain⟨o,h1,h2,h3⟩:=hs;refine⟨"str",_,PySem.F.slot_str_getitem.lookup,gr s z t,wpAny_getItem_str_slice (l:=l) (u:=u) (st:=ae) ⟨o,h1,h2,h3⟩ rfl ?_⟩;exact post_val_or_str ⟨Xg (Txt.slice_le z _ _) hz,λt' k=>⟨.str _,H,I.tok k,⟨_,rfl⟩,q⟩⟩
theorem j2t:∀{ts:List aq}{us:List ai},Vals (ts.map V.str) us->∃l:List (aq×gR),us=strValues l/\l.map (·.1)=ts
 |[],_,r=>by cases r;exact⟨[],rfl,rfl⟩
 |t::ts,_,r=>by
  cases r with
  |cons a b =>obtain⟨k,e⟩:=a;obtain⟨l,e1,e2⟩:=j2t b;subst e e1 e2;exact⟨(t,k)::l,rfl,rfl⟩
def jcs:MtR X "str.join" (λx vs H Q=>∃(sep:aq)(l:aj)(ts:List aq),x=.str sep/\vs=[.ref l]/\SqL X.K H l (ts.map V.str)/\fP sep ts=ah/\Q (.str (f7 sep ts)) H):=by rintro pins s σ H x vs v us Q I rx rv ⟨sep,l,ts,e,e',sq,hok,q⟩;subst e e';obtain⟨t,ev⟩:=rx;subst ev;obtain⟨u,eu,ru⟩:=rv.one;subst eu;cases ru;obtain⟨its,ri,pl,_⟩:=I.list sq;obtain⟨ps,e1,e2⟩:=j2t ri;subst e1 e2;unfold fP at hok;rw[dO]at hok;exact bI jF (gr _ _ _) F.entry_str_join (F.args_str_join_2 _ _) (meets_str_join_list sep t l ps hok) ⟨pl.isList,post_join ps ⟨joinFit_length hok,λt' k=>⟨.str _,H,I.tok k,⟨_,rfl⟩,q⟩⟩⟩
def j7j (hc:X.calm=ah):Qg X (.builtin "sum") (λxs H Q=>∃(lst:Bool)(l:aj)(ns:zo),xs=[.ref l]/\SqB X.K lst H l (ns.map V.int)/\Q (.int ns.sum) H):=by
 rintro pins s σ H xs us Q I r ⟨lst,l,ns,e,sq,q⟩;subst e;obtain⟨u,eu,ru⟩:=vals1 r;subst eu;cases ru;obtain⟨its,rv,pl,_⟩:=I.side sq;have hl:its.length=ns.length:=by rw[<-rv.length,xf]
 have val:∀i v,its.toArray[i]?=a8 v->∃t,v=br (ns.getD i 0) t:=by
  intro i v hv;have hi:i<its.length:=by obtain⟨h,_⟩:=Array.getElem?_eq_some_iff.mp hv;simpa using h
  have hi':i<ns.length:=by omega
  obtain⟨w1,hw,rw1⟩:=rv.get (x:=.int (ns.getD i 0)) (i:=i) (by rw[X4,kh hi',kj,kh hi'];rfl);have:its.toArray[i]?=a8 w1:=by simpa using hw
  rw[this]at hv;cases hv;exact rw1
 have tot:preSum (λi=>ns.getD i 0) its.toArray.size=ns.sum:=by rw[preSum_getD,Tq (by rw[X7];omega)]
 have fin:∀(o:d8)(s':ao)(t':gR),Moved [s.heap.objs.size] (λa b=>b=a) { s with heap:=s.heap.push o } s'->EP X pins σ Q (.int (preSum (λi=>ns.getD i 0) its.toArray.size) t') s':=λo s' t' mv=>by obtain⟨hh,gg,dd,tt,oo⟩:=s';obtain⟨m1,m2,m3,m4,m5⟩:=mv;cases m2;cases m3;cases m4;rw[tot];refine⟨.int _,H,I.kept (t':=tt) λb o e=>m1 b o ?_ (km _ e),⟨_,rfl⟩,q⟩;intro z;rw[xm.mp z]at e;exact Ph _ (xn e)
 unfold jg at pl;cases lst with
 |true =>
  rw[if_pos rfl]at pl;have hlt:l<s.heap.objs.size:=by obtain⟨_,e,_⟩:=pl;exact xn e
  refine lD (bF pl ⟨s.heap.objs.size,[s.heap.objs.size,l],[s.heap.objs.size],_,its.toArray.size,_,_,λi=>ns.getD i 0,rfl,(Walks.list (A:=X.A.in1) (I.ok.hd hc) _ _ (Xa hlt) its.toArray).toS,⟨⟨_,xu _ rfl,rfl,rfl⟩,pl.push _⟩,?_,val,λs' t' mv=>fin _ s' t' mv⟩);intro b hb;show b<(s.heap.push _).objs.size;rw[Pg];rcases xr.mp hb with z|z
  .rw[z];exact cj _
  .rw[xm.mp z];exact Tz hlt
 |false =>
  rw[if_neg xj]at pl;have hlt:l<s.heap.objs.size:=by obtain⟨_,e,_⟩:=pl;exact xn e
  refine lD (gp pl ⟨s.heap.objs.size,[s.heap.objs.size,l],[s.heap.objs.size],_,its.toArray.size,_,_,λi=>ns.getD i 0,rfl,(Walks.tuple (A:=X.A.in1) (I.ok.hd hc) _ _ (Xa hlt) its.toArray).toS,⟨⟨_,xu _ rfl,rfl,rfl⟩,pl.push _⟩,?_,val,λs' t' mv=>fin _ s' t' mv⟩);intro b hb;show b<(s.heap.push _).objs.size;rw[Pg];rcases xr.mp hb with z|z
  .rw[z];exact cj _
  .rw[xm.mp z];exact Tz hlt
end
section
variable{X:Cx}{ρ:Rho}{a b e:au}{ds:List D}{i j:Int}{pos p p1 p2:aO}{y z:aq}{lo hi:Option au}{l u:Option Int}
theorem Mv{K:k96}{H:Hp}:∀{ts:List aq}{xs:List V},j4 K H (ts.map D.str) xs->xs=ts.map V.str
 |[],_,h=>h
 |t::ts,_,⟨x,r,e,h,l⟩=>by subst e;cases(show x=.str t from h);rw[Mv l];rfl
theorem qw{K:k96}{H:Hp}:∀{ts:zo}{xs:List V},j4 K H (ts.map D.int) xs->xs=ts.map V.int
 |[],_,h=>h
 |t::ts,_,⟨x,r,e,h,l⟩=>by subst e;cases(show x=.int t from h);rw[qw l];rfl
def DE.lenS (ha:DT X ρ a (.str y)) (hy:y.length<=av) (hm:X.mg "len" = ae) (hg:Gl X "len") (hs:af [a] X.env=[(a9,aC a X.env)]):DE X ρ (.Call (.Name "len" p) [a] [] pos) (.int y.length):=λσ H Q R q =>(J3 j1y hg hm dj (jc peS jt hs) (by decide) (by decide) hs).to (ha σ H _ R λv H1 g1 e1=>⟨y,by rw[show v=.str y from e1],hy,q _ H1 g1 rfl⟩)
def DE.catS(ha:DT X ρ a (.str y))(hb:DT X ρ b (.str z))(hl:y.length+z.length<=av):DE X ρ (.BinOp a .Add b pos) (.str (y++z)):=λσ H Q R q =>(Uq j4c peS peS).to (ha σ H _ R λv H1 g1 e1=>hb σ H1 _ (R.grow g1) λu H2 g2 e2=>⟨y,z,e1,e2,hl,q _ H2 (g1.trans g2) rfl⟩)
def DE.ixC{c:Nat}(ha:DT X ρ a (.str y))(hb:DT X ρ b (.int i))(hy:y.length<=av)(h:L2.atI y.cps.toList i=a8 c)(hs:Jv b):DE X ρ (.Subscript a b pos) (.str ⟨#[c]⟩):=λσ H Q R q =>(Ur jgg peS peS hs).to (ha σ H _ R λv H1 g1 e1=>hb σ H1 _ (R.grow g1) λu H2 g2 e2=>⟨y,i,c,e1,e2,hy,h,q _ H2 (g1.trans g2) rfl⟩)
def DE.sliceS(ha:DT X ρ a (.str y))(hl:DP X ρ lo l)(hu:DP X ρ hi u)(hy:y.length<=av):DE X ρ (.Subscript a (.Slice lo hi ae p2) pos) (.str (bS y l u)):=λσ H Q R q =>(Ng jes peS poS poS).to (ha σ H _ R λv H1 g1 e1=>hl σ H1 _ (R.grow g1) λH2 g2=>hu σ H2 _ (R.grow (g1.trans g2)) λH3 g3=>⟨y,e1,hy,q _ H3 (g1.trans (g2.trans g3)) rfl⟩)
def DE.int1 {k:Bool} (ha:DT X ρ a (.bl k)) (hm:X.mg "int" = ae) (hg:Gl X "int") (hs:af [a] X.env=[(a9,aC a X.env)]):DE X ρ (.Call (.Name "int" p) [a] [] pos) (.int (if k then 1 else 0)):=λσ H Q R q =>(Us j7o hg hm boot_int (jc peS jt hs) (by decide) (by decide) hs).to (ha σ H _ R λv H1 g1 e1=>.inr ⟨k,by rw[show v=.bl k from e1],q _ H1 g1 rfl⟩)
def DE.sum (lst:Bool) {ns:zo} (ha:DT X ρ a (D.seq lst (ns.map D.int))) (hm:X.mg "sum" = ae) (hc:X.calm=ah) (hg:Gl X "sum") (hs:af [a] X.env=[(a9,aC a X.env)]):DE X ρ (.Call (.Name "sum" p) [a] [] pos) (.int ns.sum):=λσ H Q R q =>
 (J3 (j7j hc) hg hm boot_sum (jc peS jt hs) (by decide) (by decide) hs).to (ha σ H _ R λv H1 g1 e1=>by
  obtain⟨t,xs,ev,sq,en⟩:=Z1 e1
  subst ev
  rw[qw en]at sq
  exact⟨lst,t,ns,rfl,sq,q _ H1 g1 rfl⟩)
def DE.join{sep:aq}{ts:List aq}{n:Nat}{p0:aO}(ha:DT X ρ a (.lst (ts.map D.str)))(hok:fP sep ts=ah)
  (hfew:((aP p2 (af [a] X.env)).all (λx=>!x.1)&&(bM p2 (ba [] X.env)).all (λx=>x.1.isSome)&&decide (([a]:List au).length+([]:List b7).length+(if ([]:List b7).isEmpty then 0 else 1)<30))=ah)
  (hbase:aW (.Constant (.str sep) n p0) "join" X.env (aC (.Constant (.str sep) n p0) X.env)=aC (.Constant (.str sep) n p0) X.env)
  (hline:(p1.endLine==p2.line)=ah) (hs:af [a] X.env=(a9,aC a X.env)::af [] X.env):DE X ρ (.Call (.Attribute (.Constant (.str sep) n p0) "join" p1) [a] [] p2) (.str (f7 sep ts)):=λσ H Q R q =>
 (Wz PySem.F.plainAttrs_str jF PySem.F.type_str_join jcs j66 (jc peS jt hs) hbase hfew hline hs rfl).to ⟨rfl,ha σ H _ R λv H1 g1 ⟨t,xs,e,sq,en⟩=>⟨sep,t,ts,rfl,by rw[e],by rw[Mv en]at sq;exact sq,hok,q _ H1 g1 rfl⟩⟩
end
section
variable{prog:ay}{w:aD}{A:aF}{lst:Bool}{j t:aj}{its:Array ai}
def j4r(hh:A.handled=ae)(hne:t≠j):Draws prog w A j [j,t] its.size (λi v=>its[i]?=a8 v) (λi h=>jj lst h j t i/\jg lst h t its) where
 live:=λ_ _ st=>by obtain⟨o,e,_⟩:=st.1.obj;exact⟨o,e⟩
 frame:=λ_ h h' st hk=>⟨st.1.stay λo e=>hk j (by simp) o e,by
  have q:=st.2
  unfold jg at q ⊢
  cases lst with
  |true=>rw[if_pos rfl]at q ⊢;exact q.at λo e=>hk t (by simp) o e
  |false=>rw[if_neg xj]at q ⊢;exact q.at λo e=>hk t (by simp) o e⟩
 item:=λi s Q E hi st hQ=>Uo st.1 st.2 (y:=its[i]) (by simp[hi]) λh' hit' hs'=>hQ _ h' s.toks (by simp[hi]) ⟨hit',st.2.ext hs'.extBut hne⟩ hs'
 done:=λs Q E st hE=>Ww hh st.1 st.2 (by simp) hE
def j75{n:Nat}(hh:A.handled=ae)(hne:t≠j)(hn:its[n]?=ae):Draws prog w A j [j,t] n (λi v=>its[i]?=a8 v) (λi h=>i=n/\jj lst h j t i/\jg lst h t its) where
 live:=λ_ _ st=>by obtain⟨o,e,_⟩:=st.2.1.obj;exact⟨o,e⟩
 frame:=λ_ h h' st hk=>⟨st.1,st.2.1.stay λo e=>hk j (by simp) o e,by
  have q:=st.2.2
  unfold jg at q ⊢
  cases lst with
  |true=>rw[if_pos rfl]at q ⊢;exact q.at λo e=>hk t (by simp) o e
  |false=>rw[if_neg xj]at q ⊢;exact q.at λo e=>hk t (by simp) o e⟩
 item:=λi s Q E hi st hQ=>absurd st.1 (Xa hi)
 done:=λs Q E st hE=>Ww hh st.2.1 st.2.2 hn hE
end
noncomputable abbrev eh2(h:aE)(lst:Bool)(t:aj):aE:=(zh1 h lst t).push { cls:=.type "enumerate",data:=.fields #[.none,.bool a9,.ref h.objs.size,cR 0,.none,.none] }
def j9q {lst:Bool} (t:aj) (its:Array ai):jK (cO.«enumerate.__new__» ⟨[.type "enumerate",.ref t],[]⟩) (λ_ R s=>jg lst s.heap t its/\R (.ok (.ret (.ref (zh1 s.heap lst t).objs.size))) { s with heap:=eh2 s.heap lst t }) :=
 .of_wp λprog w A R s h=>by
  obtain⟨hp,g,d,tk,os⟩:=s;obtain⟨h1,h⟩:=h;have hsub:=sub_enumerate;have e1:jg lst (Shared.heap ⟨hp,g,d,tk,os⟩) t its:=h1;have ld:∃o:d8,hp.get? t=a8 o:=by
   unfold jg at e1;cases lst with
   |true=>rw[if_pos rfl]at e1;obtain⟨o,e,_⟩:=e1;exact⟨o,e⟩
   |false=>rw[if_neg xj]at e1;obtain⟨o,e,_⟩:=e1;exact⟨o,e⟩
  obtain⟨o,ho⟩:=ld
  wp_walk using bY ho
  refine wpAny_stack_any λstk=>?_;refine ar ?_;split
  .rename_i cl _ _ _ _ _;cases(cl==eF "enumerate")
   .wp_walk using bY ho,Yb e1
    exact⟨_,rfl,h⟩
   .wp_walk using bY ho,Yb e1
    exact⟨_,rfl,h⟩
  .wp_walk using bY ho,Yb e1
   exact⟨_,rfl,h⟩
noncomputable def Ite(K:k96)(lst:Bool)(t:aj):It :=
 ⟨λi H=>∃xs x,SqB K lst H t xs/\xs[i]?=a8 x,
 λi H v H'=>∃p x,v=.ref p/\H p=ae/\H'=upd H p (.tup [.int (i:Int),x])/\∀xs,SqB K lst H t xs->xs[i]?=a8 x,
 λi H=>∃xs,SqB K lst H t xs/\xs.length<=i⟩
def j5e{P:ay}{w:aD}{K:k96}{es:List au}{n:Nat}{pos:aO}{lst:Bool}{z j t:aj}(hzj:z≠j)(hzt:z≠t)(htj:t≠j) :
  Turn P w K (.Tuple es n pos) (Ite K lst t) [z,j] z (λi h=>(∃old,IsEnum h z j (i:Nat) old)/\jj lst h j t i) where
 mem:=by simp
 obj:=λi h ⟨⟨old,hz⟩,h1⟩ c hc=>by
  simp at hc;rcases hc with rfl|rfl
  .exact⟨_,hz,λv e=>by cases e⟩
  .exact h1.obj
 keep:=λi h h' ⟨⟨old,hz⟩,h1⟩ k=>⟨⟨old,k z (by simp) _ hz⟩,h1.stay λo e=>k j (by simp) o e⟩
 item:=by
  rintro X hP hw hK hc i pins s σ H E I hf ⟨⟨old,hz⟩,h1⟩ ⟨xs,x,sx,hx⟩;subst hP hw hK;obtain⟨us,ru,qu,_⟩:=I.side sx;obtain⟨u,hu,rx⟩:=ru.get hx;have hlt:i<us.toArray.size:=by obtain⟨h,_⟩:=X6.mp hu;simpa using h
  refine wpAny_pyNext_enum_itemD (j4r (A:=X.A.in1) (I.ok.hd hc) htj) hz ⟨h1,qu⟩ hlt hzj (by simp[hzj,hzt]) λv h' tk hv ho st ht sz kp=>⟨_,rfl,?_⟩
  have ev:u=v:=by
   have:us.toArray[i]?=a8 u:=by simpa using hu
   rw[this]at hv;exact az hv
  subst ev;refine wpAny_letOwnedTupleGo_enum (s:={ s with heap:=h',toks:=tk+1 }) ho λh'' z'' sb=>?_
  replace sb:cN z h' h'':=sb
  have zlt:z<s.heap.objs.size:=xn hz;have kp':∀c o,c∉[z,j]->s.heap.get? c=a8 o->h''.get? c=a8 o:=λc o nc e=>by simp at nc;exact sb.extBut _ _ nc.1 (kp c o nc.1 nc.2 e)
  have pt:ij h'' s.heap.objs.size [.int i tk,u].toArray:=⟨_,sb.extBut _ _ (Pb zlt) ht,rfl,_,rfl⟩
  have I2:=(I.chgT hf kp' (xs:=[.int (i:Int),x]) (.cons ⟨tk,rfl⟩ (.cons rx .nil)) (by show 2<=av;decide) pt (Zu.of (sb.extBut _ _ (Pb zlt) ht))).tok (tk+1);refine⟨.ref s.heap.objs.size,_,I2,rfl,⟨_,x,rfl,I.fresh,rfl,λws hw=>by rw[I.side_inj hw sx];exact hx⟩,⟨⟨u,?_⟩,st.1.ext sb.extBut (bq hzj)⟩,λc hc=>?_⟩
  .have e:((i+1:Nat):Int)=(i:Int)+1:=by push_cast;rfl
   rw[e];exact z''
  .obtain⟨o,e⟩:∃o,s.heap.get? c=a8 o:=by
    simp at hc;rcases hc with rfl|rfl
    .exact⟨_,hz⟩
    .obtain⟨o,e,_⟩:=h1.obj;exact⟨o,e⟩
   rw[jd (Xa (xn e))];exact(hf c hc).1
 done:=by
  rintro X hP hw hK hc i pins s σ H E I hf ⟨⟨old,hz⟩,h1⟩ ⟨xs,sx,hend⟩;subst hP hw hK;obtain⟨us,ru,qu,_⟩:=I.side sx;have e1:=ru.length;have hn:us.toArray[i]?=ae:=by simp;omega
  refine wpAny_pyNext_enum_endD (j75 (A:=X.A.in1) (I.ok.hd hc) htj hn) hz ⟨rfl,h1,qu⟩ λh' kp=>⟨rfl,I.chg hf λc o nc e=>?_⟩
  simp at nc;exact kp c o nc.2 e
 self:=λ_ _ _ _ _ ⟨⟨old,hz⟩,_⟩ h=>lz hz h
section
variable{X:Cx}{ρ:Rho}{a b:au}{es:List au}{n:Nat}{pos p q1 q2:aO}{ds ds':List D}{lst:Bool}
noncomputable def Jl(ds:List D):List D:=ds.zipIdx.map λp=>D.tup [.int (p.2:Int),p.1]
def Iv{i:Nat}:(Jl ds)[i]?=(ds[i]?).map λd=>D.tup [.int (i:Int),d]:=by unfold Jl;rw[X4,List.getElem?_zipIdx];cases ds[i]?<;>simp
def j6x{K:k96}{F:Hp}{t:aj}{xs:List V}(s1:SqB K lst F t xs)(e1:j4 K F ds xs):Vc K F (Ite K lst t) (Jl ds):=λi H A g hA=>by
 have s1':SqB K lst H t xs:=jk.seqB (g.seqB s1);have hl:(Jl ds).length=ds.length:=by unfold Jl;rw[xf,dn]
 refine⟨λh=>?_,λh=>⟨xs,s1',?_⟩,λv H' ⟨p,x,ev,np,eH,hx⟩=>?_⟩
 .rw[hl]at h;obtain⟨x,hx,_⟩:=e1.get (kh h);exact⟨xs,x,s1',hx⟩
 .rw[hl]at h;rw[e1.length];exact h
 .subst eH;refine⟨j6 np,λd hd=>?_⟩;rw[Iv]at hd;cases z:ds[i]? with
  |none=>rw[z]at hd;cases hd
  |some d1 =>rw[z]at hd;cases hd;obtain⟨x',hx',ex⟩:=e1.get z;have q1:=hx xs s1';rw[hx']at q1;have q1:=az q1;subst q1;have pA:p∉A:=λz=>hA p z np;have gg:j0 F (del (upd H p (.tup [.int (i:Int),x'])) A):=g.trans (je (j6 np));exact⟨p,[.int (i:Int),x'],ev,.inl (.inl (by rw[j7 pA];exact j8)),.int (i:Int),[x'],rfl,rfl,x',[],rfl,ex.mono gg,rfl⟩
def DI.enum (lst:Bool) (ha:DE X ρ a (D.seq lst ds)) (hm:X.mg "enumerate" = ae) (hg:Gl X "enumerate") (hs:af [a] X.env=[(a9,aC a X.env)]):DI X ρ (.Tuple es n q1) (.Call (.Name "enumerate" p) [a] [] pos) (Jl ds):=λσ H R r q pins s I=>by
 have args:U6 X [a] σ H (λvs H'=>∃v,vs=[v]/\j0 H H'/\Enc X.K (del H' (owns ρ)) (D.seq lst ds) v) :=
  (jc peS jt hs).to (ha σ H _ r λv H1 g1 e1=>⟨v,rfl,g1,e1⟩)
 refine Call_ (Jg I hg hm boot_enumerate (callWith_type1 (thn (args pos pins s I) λus s1 h1=>?_) hs rfl));obtain⟨vs,H1,I1,r1,v,ev,g1,e1⟩:=h1;subst ev;obtain⟨t,xs,et,sq,en⟩:=Z1 e1;subst et;obtain⟨u1,eu,ru1⟩:=r1.one;subst eu;cases ru1;obtain⟨w1,rw1,qw1,_⟩:=I1.side (jk.seqB sq);refine callType_new F.called_enumerate (by decide) (F.typeCall_enumerate_1 _) (F.newCall_enumerate_1 _) (λobj=>jT obj _) F.entry_enumerate_new (j9q (lst:=lst) t w1.toArray) ⟨qw1,?_⟩;have z1:(zh1 s1.heap lst t).objs.size=s1.heap.objs.size+1:=Pg ..;have b2:(eh2 s1.heap lst t).get? (zh1 s1.heap lst t).objs.size=a8 _:=xu _ rfl;have b1:(eh2 s1.heap lst t).get? s1.heap.objs.size=a8 _:=km _ (xu _ rfl);have kp:∀c o,s1.heap.get? c=a8 o->(eh2 s1.heap lst t).get? c=a8 o:=λc o e=>km _ (km _ e);show _/\_;rw[z1]at b2 ⊢;have I2:Inv X pins σ H1 { s1 with heap:=eh2 s1.heap lst t }:=I1.kept (t':=s1.toks) kp;have lt1:t<s1.heap.objs.size:=by
  unfold jg at qw1;cases lst with
  |true=>rw[if_pos rfl]at qw1;obtain⟨_,e,_⟩:=qw1;exact xn e
  |false=>rw[if_neg xj]at qw1;obtain⟨_,e,_⟩:=qw1;exact xn e
 have side:jj lst (eh2 s1.heap lst t) s1.heap.objs.size t 0:=by
  unfold jj;cases lst with
  |true=>rw[if_pos rfl];exact⟨_,b1,rfl,rfl⟩
  |false=>rw[if_neg xj];exact⟨_,b1,rfl,rfl⟩
 refine⟨⟨_,b2,rfl⟩,lz (s:={ s1 with heap:=eh2 s1.heap lst t }) b2 ?_⟩;refine⟨_,_,_,Ite X.K lst t,H1,rfl,I2,j5e (j:=s1.heap.objs.size) (Nat.succ_ne_self _) (Pb (Tz lt1)) (Xa lt1),⟨⟨_,b2⟩,side⟩,λc hc=>?_,q _ H1 g1 (j6x sq en)⟩;have hc':c=s1.heap.objs.size+1\/c=s1.heap.objs.size:=by simpa using hc
 have hge:s1.heap.objs.size<=c:=by rcases hc' with e|e<;>rw[e]<;>first|exact X3 _|exact kC _ _
 obtain⟨f0,f1,f2,f3,f4,f5⟩:=I1.fpOk hge (I1.hok.fresh hge);exact⟨f0,f1,f2,f3,f4,f5⟩
end
section
variable{X:Cx}
def j8q:OpR X (bg .FloorDiv) (rI (λ_ j=>0<j/\j<18446744073709551616) λi j=>.int (i/j)):=opI λi j _ _ _ _ _ hc q=>by
 have e:i/j=i.fdiv j:=by rw[i8 _ nofun]
 refine floordiv_int nofun (by rw[<-e];exact q) (.inl (PyProof.noPylong_of_log2 ?_))
 have h2:(2:Nat)^64=18446744073709551616:=by decide
 have:=(mP (n:=j.natAbs) (k:=64) nofun).mpr (by rw[h2];omega);omega
def j6l (hu:X.A.units+100<aQ):MtR X "list.count" (λx vs H Q=>∃t xs ds d y,x=.ref t/\vs=[y]/\SqL X.K H t xs/\j4 X.K H ds xs/\Enc X.K H d y/\D.depL ds<=97/\d.dep<10000/\Q (.int (ds.countP λe=>deq e d)) H):=by
 rintro pins s σ H x vs v us Q I rx rv ⟨t,xs,ds,d,y,e,e',sq,l,en,hd,nd,q⟩;subst e e';cases rx;obtain⟨u,eu,ru⟩:=rv.one;subst eu;obtain⟨its,ri,⟨⟨cl,dd,da,sl⟩,n,h1,h2,h4,h3⟩,_⟩:=I.list sq;have h2:cl=.type "list":=h2;have h3:da=.seq its.toArray n:=h3;subst h2 h3;refine bI iU ⟨_,h1,rfl⟩ F.entry_list_count (F.args_list_count_2 _ _) (SeqAt.list_countAt t its.toArray n dd sl u (eqW X H d)) ⟨h1,λy hy=>Vj (n:=97) I en ru nd (by show X.A.units+1+97<aQ;omega) hd l ri y (by simpa using hy),?_⟩;have ev:(its.toArray.toList.countP (eqW X H d):Nat)=ds.countP λe=>deq e d:=by rw[fq];exact Rr I nofun l ri
 rw[ev];exact⟨.int _,H,I.tok _,⟨_,rfl⟩,q⟩
end
section
variable{X:Cx}{ρ:Rho}{a b e:au}{d d':D}{ds:List D}{i j:Int}{pos p p1 p2:aO}{P:Po}
def DE.fdivB(ha:DT X ρ a (.int i))(hb:DT X ρ b (.int j))(h:0<j/\j<18446744073709551616):DE X ρ (.BinOp a .FloorDiv b pos) (.int (i/j)):=DE.arI (g:=λi j=>i/j) j8q ha hb h
def DE.countL (hu:X.A.units+100<aQ) (ha:DT X ρ a (.lst ds)) (hb:DT X ρ b d) (hd:D.depL ds<=97) (nd:d.dep<10000) (hbase:aW a "count" X.env (aC a X.env)=aC a X.env)
  (hfew:((aP p2 (af [b] X.env)).all (λx=>!x.1)&&(bM p2 (ba [] X.env)).all (λx=>x.1.isSome)
   && decide (([b]:List au).length+([]:List b7).length+(if ([]:List b7).isEmpty then 0 else 1)<30))=ah) (hline:(p1.endLine==p2.line)=ah)
  (hs:af [b] X.env=(a9,aC b X.env)::af [] X.env):DE X ρ (.Call (.Attribute a "count" p1) [b] [] p2) (.int (ds.countP λe=>deq e d)):=λσ H Q R q =>
 (Wz cz iU PySem.F.type_list_count (j6l hu) peS (jc peS jt hs) hbase hfew hline hs rfl).to (ha σ H _ R λv H1 g1 ⟨t,xs,e,sq,l⟩=>⟨by rw[e];exact .inl ⟨rfl,xs,sq⟩,hb σ H1 _ (R.grow g1) λu H2 g2 e2 =>
  ⟨t,xs,ds,d,u,e,rfl,g2.seq sq,l.mono g2,e2,hd,nd,q _ H2 (g1.trans g2) rfl⟩⟩)
end
noncomputable def ddS(acc:List aq)(v:aq):List aq:=if acc.any (· == v)=ah then acc else acc++[v]
noncomputable def dd(ts:List aq):List aq:=ts.foldl ddS []
def jdr(ts:List aq)(v:aq):dd (ts++[v])=ddS (dd ts) v:=by simp[dd]
theorem j1r:∀(ts acc:List aq),(ts.foldl ddS acc).length<=acc.length+ts.length
 |[],acc=>by simp
 |v::ts,acc=>by
  have h:=j1r ts (ddS acc v);have h2:(ddS acc v).length<=acc.length+1:=by unfold ddS;split<;>simp
  rw[T3,xx];omega
def Z9(P:ay)(w:aD)(h:aE)(S:aj)(ts:List aq):Prop:=h.SetOf (dH P w) S (λk=>(dd ts).any (· == k)) (dd ts).length
section
variable{P:ay}{w:aD}{A:aF}{I S:aj}{fp wr:List aj}{Gn:Array fR->Array fR->Prop}{Pv:Nat->ai->Prop}{St:Nat->ao->Prop}{ts:List aq}
def Z9.stay{h h':aE}(x:Z9 P w h S ts)(k:∀o,h.get? S=a8 o->h'.get? S=a8 o):Z9 P w h' S ts:=by obtain⟨o,es,ep,t,ho,r⟩:=x;exact⟨o,es,ep,t,k o ho,r⟩
def Z9.more{h:aE}{v:aq}(x:h.SetOf (dH P w) S (λk=>(dd ts).any (· == k) || decide (k=v)) (if (dd ts).any (· == v)=ah then(dd ts).length else(dd ts).length+1)):Z9 P w h S (ts++[v]):=by
 unfold Z9;rw[jdr];have e1:(λk=>(ddS (dd ts) v).any (· == k))=λk=>(dd ts).any (· == k) || decide (k=v):=by
  funext k
  unfold ddS;by_cases h1:(dd ts).any (· == v)=ah
  .rw[if_pos h1];by_cases h2:k=v
   .subst h2;rw[h1];rfl
   .rw[decide_eq_false h2,l8]
  .rw[if_neg h1,List.any_append];congr 1;by_cases h2:k=v
   .subst h2;simp
   .have:¬v=k:=λz=>h2 z.symm;simp[h2,this]
 have e2:(ddS (dd ts) v).length=if (dd ts).any (· == v)=ah then(dd ts).length else(dd ts).length+1:=by unfold ddS;split<;>simp
 rw[e1,e2];exact x
def fill{R:eL->ao->Prop}(W:WalksS P w A.in1 I fp wr Gn ts.length Pv St)(out:S∉fp)(hv:∀i v,Pv i v->∃x t,ts[i]?=a8 x/\v=.str x t)(room:ts.length+1<i3):∀(r i:Nat)(q:ao),i+r=ts.length->St i q->Z9 P w q.heap S (ts.take i) ->
  (∀q',Moved (S::wr) Gn q q'->Z9 P w q'.heap S ts->R (.ok (.ret .none)) q')->bL (aB P w) A (.builtin "set.update.loop" ⟨[.ref S,.ref I],[]⟩) R q:=by
 have outw:S∉wr:=λz=>out (W.sub S z);have wider:∀b∈wr,b∈S::wr:=λb z=>xg S z;intro r;induction r with
 |zero =>intro i q hi st fu fin;have e:i=ts.length:=hi;subst e;refine bu dR ?_;rw[Py bO _];refine aa (m:=cZ (.ref I)) (W.done q _ _ st λq' mv=>?_);refine ar (fin q' (mv.mono wider) ?_);rw[bZ]at fu;exact fu.stay λo z=>mv.heap S o outw z
 |succ r ih =>
  intro i q hi st fu fin;have lt:i<ts.length:=by omega
  refine bu dR ?_;rw[Py bO _];refine aa (m:=cZ (.ref I)) (W.item i q _ _ lt st λv q' pv st' mv=>?_);obtain⟨x,t,hx,ev⟩:=hv i v pv;subst ev;have fu':Z9 P w q'.heap S (ts.take i):=fu.stay λo z=>mv.heap S o outw z;refine aa (m:=iy [bA x t] (setAdd S (.str x t))) (cL ?_);unfold setAdd;refine cL (aa ((dH P w).pyHash (k:=x) (strKind_is P w x t) ?_));have small:(dd (ts.take i)).length+1<i3:=by
   have:=j1r (ts.take i) [];have e:(dd (ts.take i)).length<=i:=by
    have:([]:List aq).length+(ts.take i).length<=i:=by rw[Pa,tu];omega
    exact Xg (j1r (ts.take i) []) this
   omega
  refine wpAny_setAddHashed_of (knd:=dH P w) (strKind_is P w x t) rfl fu' small λh' sb full2=>?_;have next:Z9 P w h' S (ts.take (i+1)):=by rw[su,hx];exact Z9.more full2
  refine ar ⟨cM bO _,ih (i+1) _ nofun (W.frame _ q' _ _ st' (Pn _) λb hb o e=>?_) next λq2 mv2 full3=>?_⟩
  .have ne:b≠S:=λz=>out (z▸hb);rw[sb.2 b ne];exact e
  .refine fin q2 (Moved.trans W.gtrans ((mv.mono wider).then_heap (Pn _) λb o hb e=>?_) mv2) full3;have ne:b≠S:=λz=>hb (by rw[z];exact xq ..);rw[sb.2 b ne];exact e
end
section
variable{P:ay}{w:aD}{A:aF}{E:k97}{s:ao}
noncomputable abbrev Js(led:Bool):d8:={ cls:=.type "set",dict:=ae,data:=.set #[] 0 (.fresh 0 0 led) }
def j9c{led:Bool}{l:aj}{its:Array ai}{ts:List aq}{X:mK->ao->Prop}{Y:k97}(hh:A.handled=ae)(hl:s.heap.IsList l its)(hts:∀(i:Nat)(v:ai),its[i]?=a8 v->∃x t,ts[i]?=a8 x/\v=.str x t)(hn:its.size=ts.length)(room:ts.length+1<i3)
  (q:∀h' tk,Z9 P w h' s.heap.objs.size ts->(∀b o,b<s.heap.objs.size->s.heap.get? b=a8 o->h'.get? b=a8 o)->X (.done (.ret .none)) { s with heap:=h',toks:=tk }) :
  aw (aB P w) A.in1 (cO.«set.__init__» ⟨[.ref s.heap.objs.size,.ref l],[]⟩) X Y { s with heap:=s.heap.push (Js led) }:=by
 obtain⟨⟨oc,od,oda,os⟩,e1,e2,n,e3⟩:=hl;have e2:oc=.type "list":=e2;have e3:oda=.seq its n:=e3;subst e2 e3;have here:(s.heap.push (Js led)).get? s.heap.objs.size=a8 (Js led):=xu _ rfl;have lst:(s.heap.push (Js led)).get? l=a8 { cls:=.type "list",dict:=od,data:=.seq its n,slots:=os }:=km _ e1;have ne1:=PySem.F.sub_list_set;have ne2:=PySem.F.sub_list_frozenset;have ne3:(eF "list" == eF "dict")=a9:=by decide
 have isl:(s.heap.push (Js led)).IsList l its:=⟨_,lst,rfl,n,rfl⟩
 unfold cO.«set.__init__» noKeywords Builtin.Frozenset.updateFrom;generalize keep:iI=PI
 wp_walk
 subst keep;refine bF isl (aa (mU ?_));have lt:l<s.heap.objs.size:=xn e1;have sz:(s.heap.push (Js led)).objs.size=s.heap.objs.size+1:=Pg ..;have walk:=(Walks.list (prog:=P) (w:=w) (A:=A.in1.in1) (by simp[hh]) (s.heap.push (Js led)).objs.size l (by rw[sz];exact Xa (Tz lt)) its).toS;rw[hn]at walk;refine fill (ts:=ts) (S:=s.heap.objs.size) walk (λz=>?_) hts room ts.length 0 { s with heap:=(s.heap.push (Js led)).push { cls:=.type "list_iterator",data:=.fields #[.ref l,.int 0 0] } } nofun ⟨⟨_,xu _ rfl,rfl,rfl⟩,isl.push _⟩ ?_ λq' mv full=>?_
 .rw[sz]at z;rcases xr.mp z with z|z
  .exact Xa (cj _) z
  .exact Pb lt (xm.mp z)
 .have z:Z9 P w (s.heap.push (Js led)) s.heap.objs.size []:=(setObjOf_fresh (knd:=dH P w) led).setOf here (by unfold i3;omega);exact z.stay λo e=>km _ e
 .obtain⟨h',g',d',tk',os'⟩:=q';obtain⟨m1,m2,m3,m4,m5⟩:=mv;cases m2;cases m3;cases m4;refine ar (ar (q h' tk' full λb o hb e=>m1 b o ?_ (km _ (km _ e))));intro z;rw[sz]at z;rcases xr.mp z with z|z
  .exact Xa hb z
  .exact Xa (Tz hb) (xm.mp z)
def j7k{l:aj}{its:Array ai}{ts:List aq}{Q:k97}(hh:A.handled=ae)(hl:s.heap.IsList l its)(hts:∀(i:Nat)(v:ai),its[i]?=a8 v->∃x t,ts[i]?=a8 x/\v=.str x t)(hn:its.size=ts.length)(room:ts.length+1<i3)
  (q:∀h' tk,Z9 P w h' s.heap.objs.size ts->(∀b o,b<s.heap.objs.size->s.heap.get? b=a8 o->h'.get? b=a8 o)->Q (.ref s.heap.objs.size) { s with heap:=h',toks:=tk }):aw (aB P w) A (call (.type "set") [.ref l]) Q E s:=by
 have cs:=PySem.F.called_set;obtain⟨c0,tl0,hm0⟩:=cs.mro;have m1:=cs.made;have m2:=cs.sub;have m3:=cs.notType;have m4:=cs.canCreate;have m5:=PySem.F.typeCall_set_1 (.ref l);refine gq (mJ (?_:aw _ _ (callAny (.type "set") _) _ _ _));refine ar ⟨Code.quiet_builtin _ (by decide +kernel),bu PySem.F.entry_type_call ?_⟩;rw[Around.under_plain (weight_type_call_type "set" [.ref l] []) rfl]
 repeat (any_goals (first|assumption|wp_step))
 refine bG (PySem.code_set_new_1 (.ref l) (E:=E) (Q₁:=λo q1=>∃led:Bool,o=.ref s.heap.objs.size/\q1={ s with heap:=s.heap.push (Js led) }) λled=>⟨led,rfl,rfl⟩) λr q1 hr=>?_;cases r with
 |error e=>exact hr
 |ok fl =>
  cases fl with
  |ret o =>
   obtain⟨led,eo,eq1⟩:=hr;subst eo eq1;have ty:Shared.TypeIs { s with heap:=s.heap.push (Js led) } (.ref s.heap.objs.size) "set":=⟨_,xu _ rfl,rfl⟩
   have m6:=cs.init.lookup;have m7:=cs.init.bind (.ref s.heap.objs.size)
   repeat (any_goals (first|assumption|wp_step))
   refine bG (codeAny_call_builtin (R:=wants (λr q2=>r=.none/\∃h' tk,q2={ s with heap:=h',toks:=tk }/\Z9 P w h' s.heap.objs.size ts/\∀b o,b<s.heap.objs.size->s.heap.get? b=a8 o->h'.get? b=a8 o) E) cs.init.plain PySem.F.entry_set_init (PySem.check_set_init_1 ty ?_)) λr2 q2 hr2=>?_
   .exact j9c (led:=led) (by simp[hh]) hl hts hn room λh' tk full old=>⟨rfl,h',tk,rfl,full,old⟩
   .cases r2 with
    |error e=>exact hr2
    |ok fl2 =>
     cases fl2 with
     |ret r3 =>
      obtain⟨e3,h',tk,e4,full,old⟩:=hr2;subst e3 e4
      repeat (any_goals (first|assumption|wp_step))
      exact q _ _ full old
     |_=>exact hr2.elim
  |_=>exact hr.elim
end
section
variable{X:Cx}{ρ:Rho}{a:au}{p p1 p2 pos:aO}
def DE.lenSet {ts:List aq} (ha:DT X ρ a (.lst (ts.map D.str))) (hc:X.calm=ah) (room:ts.length+1<4096) (hm:X.mg "len" = ae) (hm2:X.mg "set" = ae) (hg:Gl X "len") (hg2:Gl X "set") (hs:af [a] X.env=[(a9,aC a X.env)])
  (hs2:af [.Call (.Name "set" p1) [a] [] p2] X.env=[(a9,aC (.Call (.Name "set" p1) [a] [] p2) X.env)]):DE X ρ (.Call (.Name "len" p) [.Call (.Name "set" p1) [a] [] p2] [] pos) (.int (dd ts).length):=λσ H Q R q pins s I=>by
 have inner:aw (aB X.prog X.w) X.A (aC (.Call (.Name "set" p1) [a] [] p2) X.env) (λu s2=>∃(S:aj)(H1:Hp),u=.ref S/\Inv X pins σ H1 s2/\j0 H H1/\Z9 X.prog X.w s2.heap S ts) X.xe s:=by
  refine aK (Jg I hg2 hm2 boot_set ?_);refine callWith_type1 (thn ((jc (es:=[]) peS jt hs).to (σ:=σ) (H:=H) (Q:=λvs H1=>∃(l:aj)(xs:List V),vs=[.ref l]/\j0 H H1/\SqL X.K H1 l xs/\j4 X.K H1 (ts.map D.str) xs) (ha σ H _ R λv H1 g ⟨l,xs,e,sq,en⟩=>⟨l,xs,by rw[e],g,sq,en⟩) p2 pins s I) λus s1 ⟨vs,H1,I1,r,l,xs,ev,g,sq,en⟩=>?_) hs rfl;subst ev;obtain⟨u,eu,r1⟩:=vals1 r;subst eu;cases(show u=aI l from r1);obtain⟨its,rv,pl,_⟩:=I1.list sq;rw[Mv en]at rv;have hlen:its.toArray.size=ts.length:=by rw[X7,<-rv.length,xf]
  refine j7k (ts:=ts) (I1.ok.hd hc) pl.isList (λi v hv=>?_) hlen (by show ts.length+1<4096;exact room) λh' tk full old=>?_
  .have hi:i<ts.length:=by have:=(Array.getElem?_eq_some_iff.mp hv).1;omega
   obtain⟨w1,hw,t,ew⟩:=rv.get (x:=.str ts[i]) (i:=i) (by rw[X4,kh hi];rfl);have:its.toArray[i]?=a8 w1:=by simpa using hw
   rw[this]at hv;cases hv;exact⟨ts[i],t,kh hi,ew⟩
  .exact⟨_,H1,rfl,I1.kept (t':=tk) λb o e=>old b o (xn e) e,g,full⟩
 refine aK (Jg I hg hm dj ?_);refine cJ (by rw[hs2];rfl) (cW ?_);show aw _ _ (iw ((a9,aC _ X.env)::aP pos [])) _ _ s;refine df (thn inner λu s2 h2=>dF ?_);obtain⟨S,H1,rfl,I2,g,⟨o,es,ep,t,ho,hex,hd,hel,hmem,hb,hf,hn⟩⟩:=h2;refine call_len_set ho hex hd hf ?_ ?_
 .have:es.size<4096:=hb;omega
 .rw[hn];exact⟨.int _,H1,I2.tok _,⟨_,rfl⟩,q _ H1 g rfl⟩
end
section
variable{X:Cx}{ρ:Rho}{a b:au}{es:List au}{n:Nat}{pos p p1 p2 q1:aO}{ks:List zo}{ds:List D}{k:zo}
theorem j1h{P:ay}{w:aD}:∀{ks:zo}{us:List ai},Vals (ks.map V.int) us->ItemsAre (fe P w) ks us
 |[],_,r=>by rw[de]at r;cases r;exact .nil
 |k::ks,_,r=>by
  rw[X5]at r;cases r with
  |cons h t =>
   obtain⟨tk,e⟩:=(show ∃t,_=br k t from h)
   subst e;exact .cons (by simp[fe,lj]) (j1h t)
def Om{pins:k98}{σ:St}{H:Hp}{s:ao}{t:aj}(I:Inv X pins σ H s)(sq:SqT X.K H t (k.map V.int)):(fW (fe X.prog X.w)).is s.heap k t:=by obtain⟨its,rv,⟨o,e1,e2,m,e3⟩,_⟩:=I.tuple sq;exact⟨o,its.toArray,m,e1,e2,e3,by simpa using j1h rv⟩
def K7{pins:k98}{σ:St}{H:Hp}{s:ao}{d:aj}{xs:List (zo×aj×ai)}{ep:Nat}(I:Inv X pins σ H s)(hx:H d=a8 (.dI xs ep))(kt:∀x∈xs,SqT X.K H x.2.1 (x.1.map V.int)) :
  (d==fc)=a9/\xs.length<=av/\s.heap.DictOfH (fW (fe X.prog X.w)) d xs:=by
 obtain⟨z1,z2,z3,od,en,h1,h2,h3,h4⟩:=(show ji X.prog X.w H s.heap d (.dI xs ep)from I.hok _ _ hx)
 exact⟨z2,z1,od,en,ep,h1,h2,h3,h4,λx hx=>Om I (kt x hx),z3⟩
def Ek{xs:List (zo×aj×ai)}:(kA xs k).isSome=(xs.map λx=>x.1).contains k:=by
 induction xs with
 |nil=>rfl
 |cons x xs ih =>
  unfold kA at ih ⊢;rw[Option.isSome_map]at ih ⊢;rw[kH,X5,jP];by_cases z:x.1=k
  .simp[z]
  .have z':(k==x.1)=a9:=by simp;exact λe=>z e.symm
   rw[decide_eq_false z,z',l9];exact ih
theorem any_range:∀bs:List Bool,(aA bs.length).any (λi=>(bs[i]?).getD ah)=bs.any id
 |[]=>rfl
 |b::bs=>by rw[xx,cP,fD,lF,fD,<-any_range bs];rfl
def j2k (hc:X.calm=ah):Qg X (.builtin "any") (λxs H Q=>∃(l:aj)(bs:List Bool),xs=[.ref l]/\SqL X.K H l (bs.map V.bl)/\Q (.bl (bs.any id)) H):=by
 intro pins s σ H xs us Q I r ⟨l,bs,e,sq,q⟩;subst e;obtain⟨u,eu,ru⟩:=vals1 r;subst eu;cases ru;obtain⟨its,rv,pl,_⟩:=I.list sq;have hlt:l<s.heap.objs.size:=by obtain⟨_,_,e,_⟩:=pl;exact xn e
 have hl:its.length=bs.length:=by rw[<-rv.length,xf]
 refine call_any_walk (bF pl.isList ⟨s.heap.objs.size,[s.heap.objs.size,l],[s.heap.objs.size],its.toArray.size,_,_,λi=>(bs[i]?).getD ah,rfl,Walks.list (A:=X.A.in1) (I.ok.hd hc) _ _ (Xa hlt) its.toArray,⟨⟨_,xu _ rfl,rfl,rfl⟩,pl.isList.push _⟩,?_,λh' tk kp=>?_⟩)
 .intro i v s' Q' E' hv hq;have hi:i<its.length:=by have:=Array.getElem?_eq_some_iff.mp hv;obtain⟨h,_⟩:=this;simpa using h
  have hb:i<bs.length:=by omega
  obtain⟨w1,hw,rw1⟩:=rv.get (x:=.bl bs[i]) (i:=i) (by rw[X4,kh hb];rfl);have:its.toArray[i]?=a8 w1:=by simpa using hw
  rw[this]at hv;cases hv;cases rw1;simp only[kh hb,Tp]at hq;exact bE hq
 .have ev:(aA its.toArray.size).any (λi=>(bs[i]?).getD ah)=bs.any id:=by rw[X7,hl];exact any_range bs
  rw[ev];refine⟨.bl _,H,I.kept (t':=tk) λb o e=>kp b o ?_ (km _ e),rfl,q⟩;intro z;rw[xm.mp z]at e;exact Ph _ (xn e)
def DE.any {bs:List Bool} (ha:DT X ρ a (.lst (bs.map D.bl))) (hm:X.mg "any" = ae) (hc:X.calm=ah) (hg:Gl X "any") (hs:af [a] X.env=[(a9,aC a X.env)]):DE X ρ (.Call (.Name "any" p) [a] [] pos) (.bl (bs.any id)):=λσ H Q R q =>(J3 (j2k hc) hg hm boot_any (jc peS jt hs) (by decide) (by decide) hs).to (ha σ H _ R λv H1 g1 ⟨l,xs,e,sq,en⟩=>⟨l,bs,by rw[e],by rw[Nr en]at sq;exact sq,q _ H1 g1 rfl⟩)
end
def jiu:TE:=λ_ H Q=>∀p,H p=ae->Q (.ref p) (upd H p (.dI [] 0))
def jj4(K:k96)(td ty tv:TE):TS:=λD σ H=>tv σ H λv H1=>td σ H1 λx H2=>ty σ H2 λy H3 =>
 ∃(a b:aj)(xs:List (zo×aj×ai)) (ep:Nat) (k:zo),x=.ref a/\H3 a=a8 (.dI xs ep)/\(∀x∈xs,SqT K H3 x.2.1 (x.1.map V.int))/\y=.ref b/\SqT K H3 b (k.map V.int) /\
  (xs.map λx=>x.1).contains k=a9/\xs.length<av/\∀u ep',RelV v u->D.nx σ (upd H3 a (.dI (xs++[(k,b,u)]) ep'))
section
variable{X:Cx}{pos pos':aO}{o i value:au}{td ty tv:TE}
def Inv.bigD{pins:k98}{σ:St}{H:Hp}{s:ao}(I:Inv X pins σ H s):fc<s.heap.objs.size:=by have h:ax<s.heap.objs.size:=(I.mod.glob.keeps I.bk).lt;exact pq (by decide) h
def j35:PE X (.Dict [] [] pos) jiu:=λpins s σ H Q I h =>
 wpAny_Dict_empty ⟨.ref s.heap.objs.size,_,I.laid (a:=s.heap.objs.size) (o:=.dI [] 0) (t':=s.toks) (λ_ _ q=>km _ q) (X3 _)
  ⟨Pq _,beq_eq_false_iff_ne.mpr (bq (Xa I.bigD)),eZ,_,#[],xu _ rfl,⟨rfl,rfl,rfl⟩,rfl,rfl⟩,rfl,h _ (I.hok.fresh (X3 _))⟩
def j32(hu:X.A.units+100<aQ)(ho:PE X o td)(hi:PE X i ty)(hv:PE X value tv)(hs:aN value (a8 (.Subscript o i pos')) pos.line X.env=pure a9) :
  PS X (.Assign [.Subscript o i pos'] value pos) (jj4 X.K td ty tv):=by
 intro pins s σ H D I h;refine wpAny_Assign_Subscript (thn (hv pins s σ H _ I h) λr s1 ⟨v,H1,I1,rv,q1⟩=>thn (ho pins s1 σ H1 _ I1 q1) λu s2 ⟨x,H2,I2,rx,q2⟩=>thn (hi pins s2 σ H2 _ I2 q2) λiv s3 ⟨y,H3,I3,ry,hq⟩=>?_) hs;obtain⟨a,b,xs,ep,k,ex,hx,kt,ey,sq,nk,hl,q⟩:=hq;subst ex ey;cases rx;cases ry;obtain⟨lo,hz,dd⟩:=K7 I3 hx kt;refine wpAny_setItem_heap (hsz:=hz) (gv nofun) (Om I3 sq) dd λh' dd' sb=>?_;have na:kA xs k=ae:=by
  have:=Ek (xs:=xs) (k:=k);rw[nk]at this;cases z:kA xs k with
  |none=>rfl
  |some _=>rw[z]at this;cases this
 rw[storedH_new na]at dd';obtain⟨ob,es,ep',w1,w2,w3,w4,w5,w6⟩:=dd';refine⟨σ,_,I3.write (x:=a) (e:=a) (o:=.dI (xs++[(k,b,r)]) ep') (t':=s3.toks+(fW (fe X.prog X.w)).draws k) (by rw[hx];exact True.intro) (.inl rfl) (λc z nc e=>(sb.2 c nc).trans e) ⟨ob,w1⟩ ?_,q r ep' rv⟩;exact⟨by simp;omega,lo,w6,ob,es,w1,w2,w3,w4⟩
end
section
variable{X:Cx}{ρ:Rho}{it e:au}{P:Po}{ds:List D}{x t y:Nat}{nx nt ny:aq}{n8:Nat}{p1 p2 p3 p4 p5 p6 p7 p8 p9 p10 p11 p12 p13 p14 p15 p16 p17 p18:aO}
def O9{H:Hp}{a:aj}{o:HO}(h:H a=a8 o):H=upd (del H [a]) a o:=funext λb=>by
 by_cases z:b=a
 .subst z;rw[j8];exact h
 .rw[jd z,j7 (by simpa using z)]
def Nv{H:Hp}{a:aj}{o:HO}(h:H a=ae):del (upd H a o) [a]=H:=funext λb=>by
 by_cases z:b=a
 .subst z;rw[qj (by simp)];exact h.symm
 .rw[j7 (by simpa using z),jd z]
def Lj{H F:Hp}{a:aj}{o:HO}(h:H a=a8 o):mrg [a] H F=upd F a o:=funext λb=>by
 by_cases z:b=a
 .subst z;rw[J4 (by simp),j8];exact h
 .rw[jl (by simpa using z),jd z]
end
noncomputable def zp:List zo->List D->zo->Option D
 |k'::ks,d::ds,k=>if k'=k then a8 d else zp ks ds k
 |_,_,_=>ae
theorem j3h{K:k96}{H:Hp}{k:zo}{d:D}:∀{xs:List (zo×aj×ai)} {ds:List D} {vs:List V},Vals vs (xs.map λx=>x.2.2)->j4 K H ds vs->zp (xs.map λx=>x.1) ds k=a8 d->∃p v,kA xs k=a8 p/\RelV v p.2/\Enc K H d v
 |[],_,_,_,_,h=>by cases h
 |x::xs,[],_,_,_,h=>by cases h
 |x::xs,d'::ds,_,rv,⟨v,r,e,h1,l⟩,h=>by
  subst e;rw[X5]at rv h;unfold kA;rw[kH];cases rv with
  |cons a b =>
   rw[zp]at h;by_cases z:x.1=k
   .rw[if_pos z]at h;cases h;rw[decide_eq_true z];exact⟨x.2,v,rfl,a,h1⟩
   .rw[if_neg z]at h;rw[decide_eq_false z];exact j3h b l h
section
variable{X:Cx}{ρ:Rho}{a b:au}{d:D}{ds:List D}{ks:List zo}{k:zo}{pos p p1 p2 p3:aO}
def jjr(hu:X.A.units+100<aQ):IxR X (λx y H Q=>∃(d:aj)(xs:List (zo×aj×ai)) (ep:Nat) (t:aj) (k:zo) (q:aj×ai) (v:V),x=.ref d/\y=.ref t/\H d=a8 (.dI xs ep)/\(∀x∈xs,SqT X.K H x.2.1 (x.1.map V.int))/\SqT X.K H t (k.map V.int)/\kA xs k=a8 q/\RelV v q.2/\Q v H):=by intro value slice pins s σ H x y v u Q I rx ry h hs;obtain⟨d,xs,ep,t,k,q,w,rfl,rfl,hx,kt,sq,hq,rq,hQ⟩:=h;cases rx;cases ry;obtain⟨lo,hz,dd⟩:=K7 I hx kt;exact n6 dd.typeIs slot_dict_getitem.lookup (wpAny_getItem_heap (gv nofun) (Om I sq) dd hq ⟨w,H,I.tok _,rq,hQ⟩) hs
def DE.dget(hu:X.A.units+100<aQ)(ha:DE X ρ a (.dct ks ds))(hb:DT X ρ b (.tup (k.map D.int)))(h:zp ks ds k=a8 d)(hs:Jv b):DE X ρ (.Subscript a b pos) d:=λσ H Q R q =>
 (Ur (jjr hu) peS peS hs).to (ha σ H _ R λv H1 g1 ⟨c,xs,ep,vs,e,hx,ek,kt,rv,l⟩=>hb σ H1 _ (R.grow g1) λu H2 g2 ⟨t,ys,e2,sq,l2⟩=>by
  rw[qw l2]at sq
  subst ek
  obtain⟨q',v',z1,z2,z3⟩:=j3h rv (l.mono (je g2)) h
  exact⟨c,xs,ep,t,k,q',v',e,e2,g2 _ _ (of_del hx).2,λx hx=>g2.seqT (jk.seqT (kt x hx)),sq,z1,z2,q v' H2 (g1.trans g2) z3⟩)
end
section
variable{prog:ay}{w:aD}{A:aF}{E:k97}{s:ao}{d it vw:aj}{od:d8}{es:Array i6}{ep i:Nat}
def jdp {Q:k97} (ht:s.TypeIs (.ref d) "dict") (lo:(d==fc)=a9)
  (q:Q (.ref s.heap.objs.size) { s with heap:=s.heap.push { cls:=.type "dict_values",data:=.fields #[.ref d] } }):aw (aB prog w) A (call (.builtin "dict.values") [.ref d]) Q E s:=by
 refine bj iH ht F.entry_dict_values ?_ (F.args_dict_values_1 _);unfold cO.«dict.values»;refine aa ?_;unfold Builtin.Dict.noArgs;refine aa (wpAny_notOrdered_dict ht ?_);show aw _ _ (pure d) _ _ s;refine ar ?_;show aw _ _ (Builtin.Dict.showsAll d >>= _) _ _ s;unfold Builtin.Dict.showsAll;rw[if_neg (λz=>by rw[lo]at z;cases z)];exact aa (ar (aa (aR (ar ⟨_,rfl,q⟩))))
def jdo{Q:k97}(hv:s.heap.IsValuesView vw d)(ho:s.heap.get? d=a8 od)(hd:od.data=.dict es ep)
  (q:Q (.ref s.heap.objs.size) { s with heap:=s.heap.push { cls:=.type "dict_valueiterator",data:=.fields #[.ref d,.int 0 0,.int es.size 0,.int ep 0] } }) :
  aw (aB prog w) A (iI (.ref vw)) Q E s:=by
 obtain⟨oz,z1,z2,z3⟩:=id hv;refine wpAny_pyIter_slot hv.typeIs iV (bj iV hv.typeIs F.entry_dict_values_iter ?_ (F.args_dict_values_iter_1 _));unfold cO.«dict_values.__iter__»;refine aa (ar ?_);refine aa ?_;unfold ki;refine aa (aZ z1 z3 (x:=.ref d) rfl (ar (aa ?_)));unfold kg;refine aa (gJ ho hd (aa (ir ho hd ?_)));have own:cA "dict_valueiterator" = a9:=by decide
 simp only[own,ph,if_false];refine aR (ar ⟨_,rfl,"dict_valueiterator",_,⟨_,xu _ rfl,rfl⟩,T4.lookup,?_⟩);simpa [cR]using q
def jdn{e:i6}{Q:Option ai->ao->Prop}(hit:s.heap.IsValIter it d i es.size ep)(ho:s.heap.get? d=a8 od)(hd:od.data=.dict es ep)(he:es[i]?=a8 e)
  (hQ:∀h',h'.IsValIter it d (i+1) es.size ep->cN it s.heap h'->Q (a8 e.val) { s with heap:=h' }):aw (aB prog w) A (cZ (.ref it)) Q E s:=by
 obtain⟨o,hoI,hc,hdI⟩:=id hit;unfold cZ;refine aa (gh (b9 (name:=cb "__next__") hit.typeIs T4
  (bj T4 hit.typeIs gz ?_ (gn _))))
 refine aa (ar ?_);refine aa ?_;refine aa ?_
 first|refine aa (bP hit.typeIs (ar ?_))|refine aa (cK hit.typeIs (ar ?_))
 refine aa (mV hoI hdI ?_);have hown:cA "dict_valueiterator" = a9:=by decide
 simp only[hown,ph,if_false];show aw _ _ (if (aI d==aY)=ah then _ else _) _ _ s;rw[if_neg (λz=>by cases z)];refine aa (ar ?_);refine aa (gJ ho hd ?_);rw[if_neg (by simp)];refine aa (ar ?_);refine aa (ir ho hd ?_);rw[if_neg (by simp)];refine ar ?_;simp only[show ¬((i:Int)<0)from by omega,if_false,Xh,he];refine aa ?_
 first|refine aa (bP hit.typeIs (ar ?_))|refine aa (cK hit.typeIs (ar ?_))
 refine aa (fC hit.typeIs ?_);show aw _ _ (setField (.ref it) 1 (cR ((i:Int)+1)) >>= _) _ _ s;refine aa (fJ hoI hdI (by simp) ?_);have hit':(s.heap.update it (il (·.setIfInBounds 1 (cR ((i:Int)+1))))).IsValIter it d (i+1) es.size ep :=
  ⟨_,iC _ hoI (iS (dz hdI _)),(ke ..).trans hc,by rw[dz hdI];simp[cR]⟩
 refine aa (cL ?_);refine aa (fC (s:={ s with heap:=s.heap.update it (il (·.setIfInBounds 1 (cR ((i:Int)+1)))) }) hit'.typeIs ?_);refine aa (fC (s:={ s with heap:=s.heap.update it (il (·.setIfInBounds 1 (cR ((i:Int)+1)))) }) hit'.typeIs ?_);show aw _ _ (pure e.val) _ _ _;exact ar (ar ⟨_,rfl,ar (hQ _ hit' (T9 ..))⟩)
def jhf{Q:Option ai->ao->Prop}(hh:A.handled=ae)(hit:s.heap.IsValIter it d i es.size ep)(ho:s.heap.get? d=a8 od)(hd:od.data=.dict es ep)(hge:es.size<=i)
  (hQ:∀h',eW it s.heap h'->Q ae { s with heap:=h' }):aw (aB prog w) A (cZ (.ref it)) Q E s:=by
 obtain⟨o,hoI,hc,hdI⟩:=id hit;unfold cZ;refine aa (gh (b9 (name:=cb "__next__") hit.typeIs T4
  (bj T4 hit.typeIs gz ?_ (gn _))))
 refine aa (ar ?_);refine aa ?_;refine aa ?_
 first|refine aa (bP hit.typeIs (ar ?_))|refine aa (cK hit.typeIs (ar ?_))
 refine aa (mV hoI hdI ?_);have hown:cA "dict_valueiterator" = a9:=by decide
 simp only[hown,ph,if_false];show aw _ _ (if (aI d==aY)=ah then _ else _) _ _ s;rw[if_neg (λz=>by cases z)];refine aa (ar ?_);refine aa (gJ ho hd ?_);rw[if_neg (by simp)];refine aa (ar ?_);refine aa (ir ho hd ?_);rw[if_neg (by simp)];refine ar ?_;simp only[show ¬((i:Int)<0)from by omega,if_false,Xh,Array.getElem?_eq_none hge];refine aa ?_
 first|refine aa (bP hit.typeIs (ar ?_))|refine aa (cK hit.typeIs (ar ?_))
 show aw _ _ (setField (.ref it) 0 .none >>= _) _ _ s;refine aa (fJ hoI hdI (by simp) ?_);show aw _ _ (mW (.type "StopIteration") [] >>= _) _ _ _;refine aa ?_;simp only[mW,newTuple];refine aa (aR ?_ (by size_fits));refine aa (m:=fN _ _) (ib (a:=aY) (by first|rfl|(simp only[fN];rfl)) ?_);refine aR ?_ (by size_fits);simp only[raiseNew];refine aa (ni ?_);rw[show A.in1.handled=ae from hh];refine aa (ar (wpAny_throw ?_));refine aa (lU (T:="StopIteration") (b:=ah) ⟨_,xu _ rfl,rfl⟩ mX ?_);exact ar (hQ _ (((T9 ..).extBut.push _).push _))
def j9w(hh:A.handled=ae)(I:aj)(hne:d≠I)(hd:od.data=.dict es ep):Walks prog w A I [I,d] [I] es.size (λi v=>∃e,es[i]?=a8 e/\v=e.val) (λi h=>h.IsValIter I d i es.size ep/\h.get? d=a8 od) where
 sub:=λb hb=>by simp at hb;simp[hb]
 frame:=λ_ _ _ st hk=>⟨let ⟨o,ho,x⟩:=st.1;⟨o,hk I (by simp) o ho,x⟩,hk d (by simp) _ st.2⟩
 item:=λi s Q E hi st hQ=>by refine jdn st.1 st.2 hd (c9 hi) λh' hit' hs'=>?_;exact hQ _ h' s.toks ⟨_,c9 hi,rfl⟩ ⟨hit',hs'.extBut _ _ hne st.2⟩ λb o hb e=>hs'.extBut b o (λh=>hb (by simp[h])) e
 done:=λs Q E st hQ=>jhf hh st.1 st.2 hd (X3 _) λh' he'=>hQ h' s.toks λb o hb e=>he' b o (λh=>hb (by simp[h])) e
 self:=λ_ _ _ _ st hQ=>wpAny_pyIter_valiter st.1 hQ
def jhe (hd:od.data=.dict es ep):gj prog w "dict_values" vw d es.size (λi v=>∃e,es[i]?=a8 e/\v=e.val) (λh=>h.IsValuesView vw d/\h.get? d=a8 od) where
 type:=λ_ hm=>hm.1.typeIs
 there:=λ_ hm=>⟨let ⟨_,ho,_⟩:=hm.1;xn ho,xn hm.2⟩
 keep:=λ_ _ hm hk=>⟨let ⟨o,ho,x⟩:=hm.1;⟨o,hk vw (.inl rfl) o ho,x⟩,hk d (.inr rfl) _ hm.2⟩
 notList:=by decide
 notTuple:=by decide
 hint:=λ_ _ _ _ hm hq=>W.kdl_hint_values hm.1.typeIs hq
 iter:=λ_ _ hh hm=>⟨_,_,(λ_ _ hq=>jdo hm.1 hm.2 hd hq),j9w hh _ (Xa (xn hm.2)) hd,⟨⟨_,xu _ rfl,rfl,rfl⟩,km _ hm.2⟩⟩
end
section
variable{prog:ay}{w:aD}{A:aF}{E:k97}{s:ao}{T:String}{r d:aj}{n:Nat}{P:Nat->ai->Prop}{OK:aE->Prop}
def j2i{Q:List ai->ao->Prop}(K:gj prog w T r d n P OK)(hh:A.handled=ae)(hok:OK s.heap)(hn:n<=av)
  (hQ:∀(h':aE)(tk:Nat)(acc:Array ai),(∀b o,s.heap.get? b=a8 o->h'.get? b=a8 o)->lE P acc n->Q acc.toList { s with heap:=h',toks:=tk }):aw (aB prog w) A (collect (.ref r)) Q E s:=by
 have hlt:=K.there _ hok;have hS:(s.heap.push { cls:=.type "list",data:=.seq ([]:List ai).toArray }).get? s.heap.objs.size=a8 { cls:=.type "list",data:=.seq ([]:List ai).toArray }:=xu _ rfl;have key:∀R:eL->ao->Prop,(∀(h':aE)(tk:Nat)(acc:Array ai)(c:Nat),(∀b o,s.heap.get? b=a8 o->h'.get? b=a8 o)->h'.get? s.heap.objs.size=a8 { cls:=.type "list",dict:=ae,data:=.seq acc c,slots:=#[] }->lE P acc n->R (.ok (.ret (.ref s.heap.objs.size))) { s with heap:=h',toks:=tk }) ->
   bL (aB prog w) A (.builtin "proto.collect" ⟨[.ref r],[]⟩) R s:=λR hR=>by
  refine bu F.entry_proto_collect ?_;rw[Py F.plain_proto_collect _];show aw _ A.in1 (jX [] >>= λl=>ig (.builtin "list.__iadd__" ⟨[l,.ref r],[]⟩)) _ _ s;refine aa (aR ?_);refine ar ⟨cM kM _,bu F.entry_list_iadd ?_⟩;rw[Py kM _];show aw _ A.in1 (mH (.ref s.heap.objs.size) (.ref r) (.ref s.heap.objs.size)) _ _ _;exact W.kdl_extend (R:=R) (s:={ s with heap:=s.heap.push { cls:=.type "list",data:=.seq ([]:List ai).toArray } }) K hh (K.keep _ _ hok λb _ o e=>km _ e) _ (Pb hlt.1) (Pb hlt.2) _ 0 hS
   (λh' tk acc c kp hS' hacc=>hR h' tk acc c (λb o e=>kp b o (Xa (xn e)) (km _ e)) hS' hacc) hn
 unfold collect;refine aa (mU (key _ λh' tk acc c kp hS' hacc=>?_));show aw _ A (load s.heap.objs.size >>= _) _ _ _;refine aa (wpAny_load hS' ?_);exact ar (hQ h' tk acc kp hacc)
def Kf {Q:k97} (K:gj prog w T r d n P OK) (hh:A.handled=ae) (hok:OK s.heap) (hsz:n<=av) (hTt:(eF T==eF "tuple")=a9)
  (hQ:∀(h':aE)(tk:Nat)(acc:Array ai),(∀b o,s.heap.get? b=a8 o->h'.get? b=a8 o)->lE P acc n->Q (.ref h'.objs.size) { s with heap:=h'.push { cls:=.type "tuple",data:=.seq acc },toks:=tk }) :
  aw (aB prog w) A (call (.type "tuple") [.ref r]) Q E s:=by
 refine callType_codes (Q₁:=λobj s₁=>s₁.TypeIs obj "tuple"/\Q obj s₁) F.called_tuple (F.typeCall_tuple_1 _) F.entry_object_init ?_ λobj s₁ h₁ =>⟨h₁.1,jT obj _,object_init_meets F.called_tuple.init.lookup F.called_tuple.made (by decide) prog w A.in1 _ s₁ ⟨h₁.1,rfl,h₁.2⟩⟩
 refine mJ ?_;show aw _ A.in1.in1 (do checkBuiltinCall "tuple.__new__" ⟨[.type "tuple",.ref r],[]⟩;ig (.builtin "tuple.__new__" ⟨[.type "tuple",.ref r],[]⟩)) _ _ s;refine aa (ib (F.newCall_tuple_1 _) (ar ⟨cM kL _,bu F.entry_tuple_new ?_⟩));rw[Py kL _];have hsub:=sub_tuple_self;have hinit:=init_tuple_lookup;have hmh:=madeHere_tuple;have hTI:=K.type s hok;have hn:=hsz
 wp_walk using wpAny_typeOf hTI,j2i (A:=A.in1.in1) K hh hok hn
 intro h' tk acc kp hacc;show aw _ _ (bc acc.toList.toArray >>= λv=>ret v) _ _ _;unfold bc;refine aa (aR ?_ (by show acc.toList.toArray.size<=av;simp only[Array.toArray_toList];rw[hacc.1];exact hsz));refine ar ?_;have e:acc.toList.toArray=acc:=by simp
 rw[e];exact⟨⟨_,xu _ rfl,rfl⟩,hQ h' tk acc kp hacc⟩
end
section
variable{X:Cx}{ρ:Rho}{a:au}{ds:List D}{ks:List zo}{pos p p1 p2:aO}
def j1m{P:ay}{w:aD}{en:Array i6}{xs:List (zo×aj×ai)}{acc:Array ai}(h:en.toList=xs.map (kZ (fW (fe P w))))(ha:lE (λi v=>∃e,en[i]?=a8 e/\v=e.val) acc en.size):acc=(xs.map λx=>x.2.2).toArray:=by
 obtain⟨h1,h2⟩:=ha;have hl:en.size=xs.length:=by have:=congrArg dM h;simpa using this
 apply Array.ext';refine S5 λi=>?_;rw[fq,X4];by_cases hi:i<acc.size
 .have hv:acc[i]?=a8 acc[i]:=c9 hi;obtain⟨e,he,ev⟩:=h2 i _ hv;have he':en.toList[i]?=a8 e:=by simpa using he
  rw[h,X4]at he';rw[iA,hv,ev];obtain⟨x,hx,ex⟩:=Xl.mp he';rw[hx,<-ex];rfl
 .rw[Xu (by simpa using hi),Xu nofun];rfl
def DE.tupVals (ha:DE X ρ a (.dct ks ds)) (hc:X.calm=ah) (hm:X.mg "tuple" = ae) (hg:Gl X "tuple") (hbase:aW a "values" X.env (aC a X.env)=aC a X.env) (hline:(p1.endLine==p2.line)=ah)
  (hs2:af [.Call (.Attribute a "values" p1) [] [] p2] X.env=[(a9,aC (.Call (.Attribute a "values" p1) [] [] p2) X.env)]):DE X ρ (.Call (.Name "tuple" p) [.Call (.Attribute a "values" p1) [] [] p2] [] pos) (.tup ds):=λσ H Q R q pins s I=>by
 refine aK (Jg I hg hm boot_tuple ?_);refine callWith_type1 ?_ hs2 rfl;rw[hs2];show aw _ _ (iw ((a9,aC _ X.env)::aP pos [])) _ _ s;refine df ?_;refine wpAny_Call_method0_late hbase hline (thn (ha σ H (λv H'=>j0 H H'/\Enc X.K (del H' (owns ρ)) (.dct ks ds) v) R (λv H' g e=>⟨g,e⟩) pins s I) λv s1 ⟨x,H1,I1,r1,g1,en⟩=>?_);obtain⟨d,xs,ep,vs,ex,hx,ek,kt,rv,l⟩:=en;subst ex ek;cases r1;have hx1:H1 d=a8 (.dI xs ep):=(of_del hx).2;obtain⟨z1,z2,z3,od,en,h1,h2,h3,h4⟩:=(show ji X.prog X.w H1 s1.heap d (.dI xs ep)from I1.hok _ _ hx1)
 have hsz:en.size=xs.length:=by have:=congrArg dM h4;simpa using this
 refine⟨"dict","dict.values",PySem.F.plainAttrs_dict,iH,PySem.F.type_dict_values,⟨od,h1,h2.1⟩,λb e=>by cases e;exact⟨od,h1,h2.2.1⟩,cJ rfl (PySem.evalArgs_none (jdp ⟨od,h1,h2.1⟩ z2 ?_))⟩;refine dF ?_;have v1:(s1.heap.push { cls:=.type "dict_values",data:=.fields #[.ref d] }).get? s1.heap.objs.size=a8 { cls:=.type "dict_values",data:=.fields #[.ref d] }:=xu _ rfl;have I2:=I1.kept (t':=s1.toks) (h':=s1.heap.push { cls:=.type "dict_values",data:=.fields #[.ref d] }) λb o e=>km _ e;refine Kf (jhe (vw:=s1.heap.objs.size) (d:=d) (od:=od) h3) (I1.ok.hd hc) ⟨⟨_,v1,rfl,rfl⟩,km _ h1⟩ (by rw[hsz];exact z1) (by decide) λh' tk acc kp hacc=>?_;have ea:=j1m h4 hacc;subst ea;have I3:Inv X pins σ H1 { s1 with heap:=h',toks:=tk }:=I2.kept (t':=tk) (h':=h') kp;have hf:H1 h'.objs.size=ae:=I3.hok.fresh (X3 _);have hl:=rv.length;have hxl:vs.length<=av:=by rw[hl,xf];exact z1
 have I4:=I3.laid (a:=h'.objs.size) (o:=.tup vs) (t':=tk) (h':=h'.push { cls:=.type "tuple",data:=.seq (xs.map λx=>x.2.2).toArray }) (λb u q=>km _ q) (X3 _) ⟨hxl,_,rv,IsTup.new _ _,Zu.new _ _⟩;have nt:h'.objs.size∉owns ρ:=(R.grow g1).fresh hf;exact⟨.ref h'.objs.size,_,I4,rfl,q _ _ (g1.trans (j6 hf)) ⟨h'.objs.size,vs,rfl,.inl (.inl (by rw[j7 nt];exact j8)),l.mono (je (j6 hf))⟩⟩
end
section
variable{X:Cx}{ρ:Rho}{it e1 e2:au}{P:Po}{ds:List D}{x t y:Nat}{nx nt ny:aq}{p1 p2 p3 p4 p5 p6 p10 p11 p12 p14 p16 p17 p18:aO}
noncomputable abbrev jau(nx nt ny:aq)(it e1 e2:au)(p1 p2 p3 p4 p5 p6 p10 p11 p12 p14 p16 p17 p18:aO):List aS :=
 [.Assign [.Name nx p1] (.Dict [] [] p2) p3,.For (.Name nt p4) it [.Assign [.Name ny p5] e1 p6,.Assign [.Subscript (.Name nx p10) (.Name nt p11) p12] e2 p14] [] p16,.Return (a8 (.Name nx p17)) p18]
theorem Qi:∀ns:zo,za (ns.map D.int)=ah
 |[]=>rfl
 |n::ns=>by rw[X5,za,Qi ns];rfl
theorem Bx{α:Type}:∀{l:List α}{i:Nat}{x:α},l[i]?=a8 x->l.set i x=l
 |[],_,_,_=>rfl
 |y::l,0,x,h=>by simp at h;subst h;rfl
 |y::l,i+1,x,h=>by rw[Xz,Bx (by simpa using h)]
def j9t{K:k96}{H:Hp}{A:List aj}(hA:∀a∈A,Hd (H a)){ds:List D}{vs:List V}(n:za ds=ah)(h:j4 K H ds vs):j4 K (del H A) ds vs:=j4.hide hA n h
def DSs.nmake(W:Nat->Rho->List zo->zo->Prop)(rx:x<ρ.length)(rt:t<ρ.length)(ry:y<ρ.length)(hxt:x≠t)(hxy:x≠y)(hty:t≠y)(hi:DI X (ρ.set x .un) (.Name nt p4) it ds)(h0:W 0 (ρ.set x .un) [] [])
  (hs:∀i d ρ' ks ns,ds[i]?=a8 d->W i ρ' ks ns->∃k d1 n,d=.tup (k.map D.int)/\DE X (ρ'.set t (.val d)) e1 d1/\DE X (((ρ'.set t (.val d)).set y (.val d1)).set x (.val (.dct ks (ns.map D.int)))) e2 (.int n) /\
   ks.contains k=a9/\ks.length<av/\W (i+1) ((ρ'.set t (.val d)).set y (.val d1)) (ks++[k]) (ns++[n]))
  (hd:∀ρ' ks ns,W ds.length ρ' ks ns->P.rt (.val (.dct ks (ns.map D.int))))
  (hu:X.A.units+100<aQ) (hc:X.calm=ah) (hp:i5 (aB X.prog X.w) X.A X.env X.xe) (hN:X.N.Nodup) (hX:X.N[x]?=a8 nx) (hT:X.N[t]?=a8 nt) (hY:X.N[y]?=a8 ny)
  (lx:Loc X.env.scope nx) (lt:Loc X.env.scope nt) (ly:Loc X.env.scope ny) (fx:X.fn nx=ah\/X.env.scope.names.lookup nx=a8 .local) (ft:X.fn nt=ah\/X.env.scope.names.lookup nt=a8 .local) (fy:X.fn ny=ah\/X.env.scope.names.lookup ny=a8 .local)
  (dx:(nx==k9a)=a9) (cx:(nx==k9b)=a9) (dt:(nt==k9a)=a9) (ct:(nt==k9b)=a9)
  (s1:aN (.Dict [] [] p2) (a8 (.Name nx p1)) p3.line X.env=pure a9) (s2:aN e1 (a8 (.Name ny p5)) p6.line X.env=pure a9)
  (s3:aN e2 (a8 (.Subscript (.Name nx p10) (.Name nt p11) p12)) p14.line X.env=pure a9) (hf:∀x,aG it X.env x=pure x) :
  DSs X ρ (jau nx nt ny it e1 e2 p1 p2 p3 p4 p5 p6 p10 p11 p12 p14 p16 p17 p18) P:=λσ H E R q=>by
 have vis:∀{z:aq},Loc X.env.scope z->Vis X.env.scope z:=λh=>h.elim .inl λz=>.inr (.inl z);refine(Jj (Y6 hN hX lx j35 s1 fx) (Jj (j5y hp hc piS (Yx hN hT lt ft) (Jj (Y6 hN hY ly peS s2 fy)
  (Wi (j32 hu (Jc hX (vis lx) dx cx) (Jc hT (vis lt) dt ct) peS s3))) hf)
  (Wi (Y7 (Jc hX (vis lx) dx cx))))).to ?_
 intro a ha;have R0:Rep X.K (ρ.set x .un) (σ.set x (a8 (.ref a))) H:=R.set_un;have hxl:x<σ.length:=by rw[R.len];exact rx
 refine Fx (A:=[a]) (R':=λJ F=>j0 H F/\Vc X.K (del F (owns (ρ.set x .un))) J ds) (λb hb=>.inr ⟨[],0,by rw[xm.mp hb];exact j8⟩) (by rw[Nv ha];exact hi _ H _ R0 λJ F g ok=>⟨g,ok⟩) λJ F ⟨g,ok⟩ hn=>?_;rw[Lj j8];have fa:F a=ae:=hn a (by simp);refine⟨λi m σ' H'=>∃ρ' Fh xs ep ns,H'=upd Fh a (.dI xs ep)/\Fh a=ae/\Rep X.K ρ' σ' Fh/\j0 F Fh/\(∀b∈owns ρ',b∈owns (ρ.set x .un))/\ρ'.length=ρ.length/\σ'[x]?=a8 (a8 (.ref a)) /\
   (∀z∈xs,SqT X.K Fh z.2.1 (z.1.map V.int))/\Vals (ns.map V.int) (xs.map λz=>z.2.2)/\W i ρ' (xs.map λz=>z.1) ns/\m=ds.length-i/\i<=ds.length,
  ⟨ds.length,ρ.set x .un,F,[],0,[],rfl,fa,R0.grow g,j0.refl _,λb hb=>hb,by simp,Jb hxl,λz hz=>(nomatch hz),.nil,h0,rfl,Pq _⟩,?_⟩
 rintro i m σ' H' ⟨ρ',Fh,xs,ep,ns,rfl,fha,R',gF,sub,hL,sx,kt,rv,w,rfl,hle⟩;have gU:j0 Fh (upd Fh a (.dI xs ep)):=j6 fha;obtain⟨go,stop,yld⟩:=ok i (upd Fh a (.dI xs ep)) (a::owns ρ') (λb o eb=>by
  obtain⟨nb,eb⟩:=of_del eb
  have nba:b≠a:=λz=>by rw[z,fa]at eb;cases eb
  rw[j7,jd nba]
  .exact gF b o eb
  .intro z
   rcases xr.mp z with z|z
   .exact nba z
   .exact nb (sub b z)) (λb hb=>by
  rcases xr.mp hb with z|z
  .rw[z,j8];simp
  .obtain⟨ys,eb⟩:=R'.owned b z
   rw[gU _ _ eb];simp)
 by_cases hlt:i<ds.length
 .obtain⟨k,d1,n,ed,hE,hE2,nk,hkl,w'⟩:=hs i ds[i] ρ' _ ns (kh hlt) w;refine .inr ⟨go hlt,λσ2 H2=>∃ρ2 Fh2 xs2 ep2 ns2,H2=upd Fh2 a (.dI xs2 ep2)/\Fh2 a=ae/\Rep X.K ρ2 σ2 Fh2/\j0 F Fh2/\(∀b∈owns ρ2,b∈owns (ρ.set x .un))/\ρ2.length=ρ.length/\σ2[x]?=a8 (a8 (.ref a)) /\
   (∀z∈xs2,SqT X.K Fh2 z.2.1 (z.1.map V.int))/\Vals (ns2.map V.int) (xs2.map λz=>z.2.2)/\W (i+1) ρ2 (xs2.map λz=>z.1) ns2,
   λσ2 H2 ⟨ρ2,Fh2,xs2,ep2,ns2,z1,z2,z3,z4,z5,z5',z6,z7,z8,z10⟩=>⟨ds.length-(i+1),by omega,ρ2,Fh2,xs2,ep2,ns2,z1,z2,z3,z4,z5,z5',z6,z7,z8,z10,rfl,hlt⟩,λv H2 yv=>?_⟩
  obtain⟨g2,en⟩:=yld v H2 yv;have en:=en _ (kh hlt);have h2a:H2 a=a8 (.dI xs ep):=g2 _ _ j8;have e2:H2=upd (del H2 [a]) a (.dI xs ep):=O9 h2a;have f2a:del H2 [a] a=ae:=qj (by simp);have gF2:j0 Fh (del H2 [a]):=λb o eb=>by
   have nb:b≠a:=λz=>by rw[z,fha]at eb;cases eb
   rw[j7 (by simpa using nb)];exact g2 b o (gU b o eb)
  have en2:Enc X.K (del (del H2 [a]) (owns ρ')) ds[i] v:=by rw[Ju];exact en
  generalize del H2 [a]=F2 at e2 f2a gF2 en2;subst e2;have R2:Rep X.K (ρ'.set t (.val ds[i])) (σ'.set t (a8 v)) F2:=(R'.grow gF2).set_val en2;have sub2:∀b∈owns (ρ'.set t (.val ds[i])),b∈owns (ρ.set x .un):=λb hb=>sub b ((jf rfl).subset hb);show J8 X e1 (σ'.set t (a8 v)) (upd F2 a (.dI xs ep)) _;refine Fy (A:=[a]) (Q':=λv F3=>j0 F2 F3/\Enc X.K (del F3 (owns (ρ'.set t (.val ds[i])))) d1 v) (λb hb=>.inr ⟨xs,ep,by rw[xm.mp hb];exact j8⟩) (by rw[Nv f2a];exact hE _ F2 _ R2 λv F3 g e=>⟨g,e⟩) λv3 F3 ⟨g3,en3⟩ hn3=>?_;rw[Lj j8];have f3a:F3 a=ae:=hn3 a (by simp);have R3:Rep X.K ((ρ'.set t (.val ds[i])).set y (.val d1)) ((σ'.set t (a8 v)).set y (a8 v3)) F3:=(R2.grow g3).set_val en3;have sub3:∀b∈owns ((ρ'.set t (.val ds[i])).set y (.val d1)),b∈owns (ρ.set x .un):=λb hb=>sub2 b ((jf rfl).subset hb);have sx3:((σ'.set t (a8 v)).set y (a8 v3))[x]?=a8 (a8 (.ref a)):=by rw[jz (bq hxy),jz (bq hxt)];exact sx
  have lenN:σ'.length=ρ.length:=by rw[R'.len,hL]
  have htl:t<σ'.length:=by rw[lenN];exact rt
  have hL3:((ρ'.set t (.val ds[i])).set y (.val d1)).length=ρ.length:=by rw[T5,T5,hL]
  have st3:((σ'.set t (a8 v)).set y (a8 v3))[t]?=a8 (a8 v):=by rw[jz (bq hty)];exact Jb htl
  have kt3:∀z∈xs,SqT X.K F3 z.2.1 (z.1.map V.int):=λz hz=>g3.seqT (gF2.seqT (kt z hz));rw[ed]at en2;obtain⟨tb,ys,ev,sq,li⟩:=en2;rw[qw li]at sq;subst ev;have sq3:SqT X.K F3 tb (k.map V.int):=g3.seqT (jk.seqT sq);clear R2;show J8 X e2 ((σ'.set t (a8 (V.ref tb))).set y (a8 v3)) (upd F3 a (.dI xs ep)) _;generalize (σ'.set t (a8 (V.ref tb))).set y (a8 v3)=σ3 at R3 sx3 st3 ⊢;generalize (ρ'.set t (.val ds[i])).set y (.val d1)=ρ3 at R3 sub3 hL3 hE2 w' ⊢;have g4:j0 F3 (upd F3 a (.dI xs ep)):=j6 f3a;have hO:∀b∈owns ρ3,Hd (upd F3 a (.dI xs ep) b):=λb hb=>.inl (let ⟨zs,e⟩:=R3.owned b hb;⟨zs,g4 _ _ e⟩);have na:a∉owns ρ3:=λz=>by obtain⟨zs,e⟩:=R3.owned a z;rw[f3a]at e;cases e
  have R4:Rep X.K (ρ3.set x (.val (.dct (xs.map λz=>z.1) (ns.map D.int)))) σ3 (upd F3 a (.dI xs ep)):=by
   have z:=(R3.grow g4).set_val (i:=x) (d:=.dct (xs.map λz=>z.1) (ns.map D.int)) (v:=.ref a) ⟨a,xs,ep,ns.map V.int,rfl,by rw[j7 na];exact j8,rfl,λz hz=>?_,rv,j9t hO (Qi ns) (j4.ints ns)⟩
   .rw[Bx sx3]at z;exact z
   .have e:Enc X.K (upd F3 a (.dI xs ep)) (.tup (z.1.map D.int)) (.ref z.2.1):=⟨_,_,rfl,g4.seqT (kt3 z hz),j4.ints z.1⟩
    obtain⟨b,zs,e1,e2,e3⟩:=e.hide hO (by rw[Zd];exact Qi z.1);cases e1;rw[qw e3]at e2;exact e2
  refine hE2 σ3 _ _ R4 λv4 H4 g5 en4=>?_;cases(show v4=.int n from en4);have h4a:H4 a=a8 (.dI xs ep):=g5 _ _ j8;have f4a:del H4 [a] a=ae:=qj (by simp);have gF4:j0 F3 (del H4 [a]):=λb o eb=>by
   have nb:b≠a:=λz=>by rw[z,f3a]at eb;cases eb
   rw[j7 (by simpa using nb)];exact g5 b o (g4 b o eb)
  have gU4:j0 (del H4 [a]) H4:=jk;refine⟨.ref a,sx3,.ref tb,st3,a,tb,xs,ep,k,rfl,h4a,λz hz=>gU4.seqT (gF4.seqT (kt3 z hz)),rfl,gU4.seqT (gF4.seqT sq3),nk,by rw[xf]at hkl;exact hkl,λu ep' ru=>?_⟩;refine⟨ρ3,del H4 [a],xs++[(k,tb,u)],ep',ns++[n],?_,f4a,R3.grow gF4,gF.trans (gF2.trans (g3.trans gF4)),sub3,hL3,sx3,λz hz=>?_,?_,by rw[Xo];exact w'⟩
  .funext b
   by_cases z:b=a
   .subst z;rw[j8,j8]
   .rw[jd z,jd z,j7 (by simpa using z)]
  .rcases Xw.mp hz with hz|hz
   .exact gF4.seqT (kt3 z hz)
   .rw[xm.mp hz];exact gF4.seqT sq3
  .rw[Xo,Xo];exact rv.append (.cons ru .nil)
 .have e:i=ds.length:=by omega
  subst e;refine .inl ⟨stop (X3 _),.ref a,sx,?_⟩;refine q.rt (.val (.dct _ (ns.map D.int))) (.ref a) _ (hd ρ' _ ns w) ⟨λb o eb=>gU b o (gF b o (g b o (of_del eb).2)),a,xs,ep,ns.map V.int,rfl,j8,rfl,λz hz=>gU.seqT (kt z hz),rv,j4.ints ns⟩
end
def Ce{M:iK}{A:aF}{E:k97}{s:ao}{β:Type}{a b:Nat}(f:Nat->β->mZ (ForInStep β))(I:Nat->β->ao->Prop)(Q:β->ao->Prop)
  (turn:∀i c st,a<=i->i<b->I i c st->aw M A (f i c) (λr s'=>match r with|.yield c'=>I (i+1) c' s'|.done c'=>Q c' s') E st)
  (fin:∀c st,I (max a b) c st->Q c st) (c:β) (h:I a c s):aw M A (forIn [a:b] c f) Q E s:=by
 rw[Std.Legacy.Range.forIn_eq_forIn_range'];have hsz:([a:b]:Std.Legacy.Range).size=b-a:=by simp[Std.Legacy.Range.size]
 show aw M A (forIn (ma a ([a:b]:Std.Legacy.Range).size 1) c f) Q E s;rw[hsz];refine hU f (λl c st=>∃i,a<=i/\i<=max a b/\l=ma i (max a b-i) 1/\I i c st) Q ?_ ?_ _ c ⟨a,X3 _,by omega,by congr 1;omega,h⟩
 .rintro x rest c st ⟨i,hai,hib,hl,hI⟩;have hlt:i<max a b:=by
   rcases eN i (max a b)with h'|h'
   .exact h'
   .rw[show max a b-i=0 by omega]at hl;simp at hl
  obtain⟨n,hn⟩:∃n,max a b-i=n+1:=⟨max a b-i-1,by omega⟩
  rw[hn,kr]at hl;obtain⟨rfl,rfl⟩:=List.cons.inj hl;refine bB (turn x c st hai nofun hI) (λr st' h'=>?_) λ_ _ h=>h;cases r with
  |done c'=>exact h'
  |yield c'=>exact⟨x+1,by omega,by omega,by congr 1;omega,h'⟩
 .rintro c st ⟨i,hai,hib,hl,hI⟩;have:i=max a b:=by
   rcases eN i (max a b)with h'|h'
   .obtain⟨n,hn⟩:∃n,max a b-i=n+1:=⟨max a b-i-1,by omega⟩
    rw[hn,kr]at hl;cases hl
   .omega
  subst this;exact fin c st hI
def Eo(l:aj)(items:Array ai)(n:Nat)(dd:Option aj)(sl:Array (Option ai))(x:ai)(e:ai->Bool)(k:Nat)(hk:k<items.size)(h0:∀(j:Nat)(h:j<items.size),j<k->e items[j]=a9)(h1:e items[k]=ah) :
  jK (cO.«tuple.index» ⟨[.ref l,x],[]⟩)
   (λA R s=>s.heap.get? l=a8 { cls:=.type "tuple",dict:=dd,data:=.seq items n,slots:=sl }/\(∀y,y∈items->cU A.in1 s y x (e y))/\R (.ok (.ret (.int k s.toks))) { s with toks:=s.toks+1 }) :=
 .of_wp λprog w A R s h=>by
  obtain⟨hp,g,d,tk,os⟩:=s;obtain⟨hl,he,h⟩:=h
  wp_walk using dD hl,Ce _ (λi b s'=>b.1=ae/\s'=⟨hp,g,d,tk,os⟩/\i<=k) _
  case turn =>
   rintro i c s'-hi ⟨hb,rfl,hik⟩;have hlt:i<items.size:=by omega
   have hy:items[i]?=a8 items[i]:=by simp[hlt]
   rw[hy];refine aa (he items[i] (Array.getElem_mem hlt) prog w _ _ ?_);by_cases z:i=k
   .subst z;rw[h1]
    wp_walk
    exact⟨_,rfl,h⟩
   .rw[h0 i hlt nofun]
    wp_walk
    exact⟨rfl,rfl,by omega⟩
  case fin =>rintro c s' ⟨hb,rfl,hik⟩;omega
  case h =>exact⟨rfl,rfl,Pq _⟩
section
variable{X:Cx}{ρ:Rho}{a e:au}{l:List D}{d:D}{p1 pos:aO}
noncomputable def ixD(d:D):List D->Option Nat
 |[]=>ae
 |x::r=>if deq x d=ah then a8 0 else(ixD d r).map (· + 1)
theorem j1g{d:D}:∀{l:List D}{k:Nat},ixD d l=a8 k->∃x,l[k]?=a8 x/\deq x d=ah/\∀j y,j<k->l[j]?=a8 y->deq y d=a9
 |[],k,h=>by cases h
 |x::r,k,h=>by
  unfold ixD at h;split at h
  .rename_i z;cases h;exact⟨x,rfl,z,λj y hj=>absurd hj (kQ _)⟩
  .rename_i z;cases q:ixD d r with
   |none=>rw[q]at h;cases h
   |some m =>
    rw[q]at h;cases h;obtain⟨y,hy,e,f⟩:=j1g q;refine⟨y,hy,e,λj y hj hq=>?_⟩;cases j with
    |zero=>cases hq;simpa using z
    |succ j=>exact f j y (Nat.lt_of_succ_lt_succ hj) hq
def j6h (hu:X.A.units+100<aQ):MtR X "tuple.index" (λx vs H Q=>∃t xs ds d y k,x=.ref t/\vs=[y]/\SqT X.K H t xs/\j4 X.K H ds xs/\Enc X.K H d y/\D.depL ds<=97/\d.dep<10000/\ixD d ds=a8 k/\Q (.int (k:Nat)) H):=by
 rintro pins s σ H x vs v us Q I rx rv ⟨t,xs,ds,d,y,k,e,e',sq,l,en,hd,nd,hk,q⟩;subst e e';cases rx;obtain⟨u,eu,ru⟩:=rv.one;subst eu;obtain⟨its,ri,⟨⟨cl,dd,da,sl⟩,h1,h2,n,h3⟩,_⟩:=I.tuple sq;have h2:cl=.type "tuple":=h2;have h3:da=.seq its.toArray n:=h3;subst h2 h3;obtain⟨z,hz,ez,fz⟩:=j1g hk;have ll:=l.length;have rl:=ri.length;have hks:k<its.toArray.size:=by have:=(X6.mp hz).1;simp;omega
 have at_:∀(j:Nat)(h:j<its.toArray.size)(z:D),ds[j]?=a8 z->eqW X H d its.toArray[j]=deq z d:=λj h z hz=>by
  obtain⟨x,hx,ex⟩:=l.get hz;obtain⟨w,hw,rw⟩:=ri.get hx;have g1:its.toArray[j]=w:=by simp at h ⊢;rw[kh (by simpa using h)]at hw;exact az hw
  have:=D.depL_le hz;rw[g1];exact Mu I nofun ex rw
 refine bI iD ⟨_,h1,rfl⟩ F.entry_tuple_index (F.args_tuple_index_2 _ _) (Eo t its.toArray n dd sl u (eqW X H d) k hks (λj h hj=>?_) (by rw[at_ k hks z hz];exact ez))
  ⟨h1,λy hy=>Vj (n:=97) I en ru nd (by show X.A.units+1+97<aQ;omega) hd l ri y (by simpa using hy),⟨.int _,H,I.tok _,⟨_,rfl⟩,q⟩⟩
 have hlt:j<ds.length:=by simp at h;omega
 rw[at_ j h ds[j] (kh hlt)];exact fz j _ hj (kh hlt)
def DE.indexT {b:au} {ds:List D} {k:Nat} {p2:aO} (hu:X.A.units+100<aQ) (ha:DT X ρ a (.tup ds)) (hb:DT X ρ b d) (hd:D.depL ds<=97) (nd:d.dep<10000) (hk:ixD d ds=a8 k) (hbase:aW a "index" X.env (aC a X.env)=aC a X.env)
  (hfew:((aP p2 (af [b] X.env)).all (λx=>!x.1)&&(bM p2 (ba [] X.env)).all (λx=>x.1.isSome)
   && decide (([b]:List au).length+([]:List b7).length+(if ([]:List b7).isEmpty then 0 else 1)<30))=ah) (hline:(p1.endLine==p2.line)=ah)
  (hs:af [b] X.env=(a9,aC b X.env)::af [] X.env):DE X ρ (.Call (.Attribute a "index" p1) [b] [] p2) (.int (k:Nat)):=λσ H Q R q =>
 (Wz gE iD PySem.F.type_tuple_index (j6h hu) peS (jc peS jt hs) hbase hfew hline hs rfl).to (ha σ H _ R λv H1 g1 ⟨t,xs,e,sq,l⟩=>⟨by rw[e];exact .inr (.inl ⟨rfl,xs,sq⟩),hb σ H1 _ (R.grow g1) λu H2 g2 e2 =>
  ⟨t,xs,ds,d,u,k,e,rfl,g2.seqT sq,l.mono g2,e2,hd,nd,hk,q _ H2 (g1.trans g2) rfl⟩⟩)
end
section
variable{X:Cx}{pins:k98}{σ:St}{H:Hp}{l S I:aj}{xs:List V}{R:eL->ao->Prop}
def jin(X:Cx)(pins:k98)(σ:St)(H:Hp)(xs:List V)(bt:Nat->Nat->Bool):Prop:=∀(i j:Nat)(x y:V)(u v:ai)(s:ao)(Q:k97)(E:k97),xs[i]?=a8 x->xs[j]?=a8 y->RelV x u->RelV y v->Inv X pins σ H s ->
 Q (.bool (bt i j)) s->aw (aB X.prog X.w) X.A.in1 (ic .Lt u v) Q E s
def jct(bt:Nat->Nat->Bool)(hh:X.A.handled=ae)(hl:SqL X.K H l xs)(hSI:S≠I)(fS:Jk X pins H S)(fI:Jk X pins H I)(cmp:jin X pins σ H xs bt)
  (hR:∀x u s',xs[aU bt (xs.length-1)]?=a8 x->RelV x u->Inv X pins σ H s'->R (.ok (.ret u)) s') :
  ∀(r j:Nat)(s:ao)(x:V)(u:ai)(c:Nat),xs.length-(j+1)=r->j+1<=xs.length->Inv X pins σ H s->s.heap.get? S=a8 (fU "list" #[u,u] c) ->
   s.heap.IsListIter I l (j+1)->xs[aU bt j]?=a8 x->RelV x u->bL (aB X.prog X.w) X.A (.builtin "min.loop" ⟨[.ref I,.none,.ref S],[]⟩) R s:=by
 have hname:(toString "min" ++ toString ".loop":String) = "min.loop":=by decide
 have fp:∀b∈[S,I],Jk X pins H b:=λb hb=>by
  rcases xr.mp hb with e|hb
  .subst e;exact fS
  .rw[xm.mp hb];exact fI
 intro r;induction r with
 |zero =>
  intro j s x u c hr hj I1 oS it hx ru;have hin:j+1=xs.length:=by omega
  obtain⟨its,rv,p,_⟩:=I1.list hl;have hlen:=rv.length;refine bu dW ?_;rw[Py t6 _];show aw _ X.A.in1 (hZ (.ref S) >>= _) _ _ _;refine aa (bf oS rfl ?_);show aw _ X.A.in1 (tryCatch (cZ (.ref I)) _ >>= _) _ _ _;refine aa (fH (kn hh it p.isList (by simp;omega) λh' eb=>?_));have I2:Inv X pins σ H { s with heap:=h' }:=I1.chg (ch:=[S,I]) fp λb o hb e=>eb b o (λz=>hb (by simp[z])) e;have oS':h'.get? S=a8 (fU "list" #[u,u] c):=eb S _ hSI oS;show aw _ X.A.in1 (updateSeq S (λ_=>#[]) >>= _) _ _ _;refine aa ?_;refine ip oS' rfl (aa (dh (ar ?_)));have s1:=T9 h' S (dy λ_=>(#[]:Array ai));exact hR x u _ (by rw[<-hin];exact hx) ru (I2.chg (ch:=[S,I]) fp λb o hb e=>(s1.2 b (λz=>hb (by simp[z]))).trans e)
 |succ r ih =>
  intro j s x u c hr hj I1 oS it hx ru;have hlt:j+1<xs.length:=by omega
  obtain⟨its,rv,p,_⟩:=I1.list hl;have hlen:=rv.length;have hx1:xs[j+1]?=a8 xs[j+1]:=by simp[hlt]
  obtain⟨v,hv,rv1⟩:=rv.get hx1;refine bu dW ?_;rw[Py t6 _];show aw _ X.A.in1 (hZ (.ref S) >>= _) _ _ _;refine aa (bf oS rfl ?_);show aw _ X.A.in1 (tryCatch (cZ (.ref I)) _ >>= _) _ _ _;refine aa (fH (f9 it p.isList (x:=v) (by simpa using hv) λh' it' sb=>?_));have I2:Inv X pins σ H { s with heap:=h' }:=I1.chg (ch:=[S,I]) fp λb o hb e=>(sb.2 b (λz=>hb (by simp[z]))).trans e;have oS':h'.get? S=a8 (fU "list" #[u,u] c):=(sb.2 S hSI).trans oS;obtain⟨oI,eI,cI,dI⟩:=id it';show aw _ X.A.in1 (tryCatch (iy [v,v] (ic .Lt v u >>= _)) _ >>= _) _ _ _;refine aa (fH (cL (aa (cmp (j+1) (aU bt j) _ _ v u _ _ _ hx1 hx rv1 ru I2 ?_))));refine aa (cL (bE ?_));refine aa (dh (ar ?_));cases hb:bt (j+1) (aU bt j) with
  |true =>
   have s1:=T9 h' S (dy λ_=>#[v,v]);obtain⟨c2,hc2⟩:∃c2,(h'.update S (dy λ_=>#[v,v])).get? S=a8 (fU "list" #[v,v] c2):=⟨_,mM oS' λ_=>#[v,v]⟩
   simp only[if_true];refine aa ?_;refine ip oS' rfl (aa (dh ?_));rw[hname];exact ar ⟨cM t6 _,ih (j+1) _ _ v c2 nofun hlt (I2.chg (ch:=[S,I]) fp λb o hb e=>(s1.2 b (λz=>hb (by simp[z]))).trans e) hc2
    ⟨oI,(s1.2 I hSI.symm).trans eI,cI,dI⟩ (by simp only[aU,hb,if_true];exact hx1) rv1⟩
  |false =>simp only[ph,if_false];refine aa (dh ?_);rw[hname];exact ar ⟨cM t6 _,ih (j+1) _ x u c nofun hlt I2 oS' ⟨oI,eI,cI,dI⟩ (by simp only[aU,hb,ph,if_false];exact hx) ru⟩
def j1b(bt:Nat->Nat->Bool)(hh:X.A.handled=ae){s:ao}{Q:VK}{E:k97}(I0:Inv X pins σ H s)(hl:SqL X.K H l xs)(hne:0<xs.length)(cmp:jin X pins σ H xs bt)
  (hQ:∀x,xs[aU bt (xs.length-1)]?=a8 x->Q x H):aw (aB X.prog X.w) X.A (call (.builtin "min") [.ref l]) (EP X pins σ Q) E s:=by
 have hname:(toString "min" ++ toString ".loop":String) = "min.loop":=by decide
 obtain⟨its0,rv0,p0,_⟩:=I0.list hl;refine call_function_tree PySem.F.kind_min PySem.F.plain_min PySem.F.entry_min (PySem.F.args_min1 _) ?_;show aw _ X.A.in1 (Builtin.Builtins.bindParams "min" ["key","default"] 0 ⟨[],[]⟩ >>= _) _ _ s;refine aa (ib (show Builtin.Builtins.bindParams "min" ["key","default"] 0 ⟨[],[]⟩=pure [ae,ae]from rfl) ?_);refine aa (ar ?_);refine aa (bF p0.isList ?_);refine aa (wpAny_newList ?_ (Pq _));rw[hname];generalize hA:s.heap.push { cls:=.type "list_iterator",data:=.fields #[.ref l,.int 0 0] }=h1;have z1:h1.objs.size=s.heap.objs.size+1:=by rw[<-hA];exact size_push' ..
 have gI:(h1.push (fU "list" #[] 0)).get? s.heap.objs.size=a8 { cls:=.type "list_iterator",data:=.fields #[.ref l,.int 0 0] }:=by rw[<-hA];exact km _ (xu _ rfl)
 have gS:(h1.push (fU "list" #[] 0)).get? h1.objs.size=a8 (fU "list" #[] 0):=xu _ rfl;have I1:Inv X pins σ H { s with heap:=h1.push (fU "list" #[] 0) }:=I0.kept (t':=s.toks) λb o e=>km _ (by rw[<-hA];exact km _ e);have fI:Jk X pins H s.heap.objs.size:=I0.fpOk (X3 _) (I0.hok.fresh (X3 _));have fS:Jk X pins H h1.objs.size:=I0.fpOk (by rw[z1];exact Pn _) (I0.hok.fresh (by rw[z1];exact Pn _));have hSI:h1.objs.size≠s.heap.objs.size:=by rw[z1];exact Pb (cj _)
 have fp:∀b∈[h1.objs.size,s.heap.objs.size],Jk X pins H b:=λb hb=>by
  rcases xr.mp hb with e|hb
  .subst e;exact fS
  .rw[xm.mp hb];exact fI
 refine ar ⟨cM t6 _,?_⟩;obtain⟨its,rv,p,_⟩:=I1.list hl;have hlen:=rv.length;have hx0:xs[0]?=a8 xs[0]:=by simp[hne]
 obtain⟨v,hv,rv1⟩:=rv.get hx0;refine bu dW ?_;rw[Py t6 _];show aw _ X.A.in1 (hZ (.ref _) >>= _) _ _ _;refine aa (bf gS rfl ?_);show aw _ X.A.in1 (tryCatch (cZ (.ref s.heap.objs.size)) _ >>= _) _ _ _;refine aa (fH (f9 (i:=0) ⟨_,gI,rfl,rfl⟩ p.isList (x:=v) (by simpa using hv) λh' it' sb=>?_));have I2:Inv X pins σ H { s with heap:=h' }:=I1.chg (ch:=[h1.objs.size,s.heap.objs.size]) fp λb o hb e=>(sb.2 b (λz=>hb (by simp[z]))).trans e;have oS':h'.get? h1.objs.size=a8 (fU "list" #[] 0):=(sb.2 _ hSI).trans gS;obtain⟨oI,eI,cI,dI⟩:=id it';have s1:=T9 h' h1.objs.size (dy λ_=>#[v,v]);obtain⟨c2,hc2⟩:∃c2,(h'.update h1.objs.size (dy λ_=>#[v,v])).get? h1.objs.size=a8 (fU "list" #[v,v] c2):=⟨_,mM oS' λ_=>#[v,v]⟩
 show aw _ X.A.in1 (updateSeq h1.objs.size (λ_=>#[v,v]) >>= _) _ _ _;refine aa ?_;refine ip oS' rfl ?_;rw[hname];exact ar ⟨cM t6 _,jct bt hh hl hSI fS fI cmp (λx u s' hx ru I=>⟨x,H,I,ru,hQ x hx⟩) _ 0 _ _ v c2 rfl hne
  (I2.chg (ch:=[h1.objs.size,s.heap.objs.size]) fp λb o hb e=>(s1.2 b (λz=>hb (by simp[z]))).trans e) hc2 ⟨oI,(s1.2 _ hSI.symm).trans eI,cI,dI⟩ hx0 rv1⟩
end
noncomputable def zy(l:List zo)(i j:Nat):Bool:=HT.lexLt (l.getD i []) (l.getD j [])
section
variable{X:Cx}{ρ:Rho}{a:au}{l:List zo}{k:zo}{p pos:aO}
def DT.minT (hu:X.A.units+100<aQ) (hcalm:X.calm=ah) (hm:X.mg "min" = ae) (hg:Gl X "min") (ha:DT X ρ a (.lst (l.map λk=>D.tup (k.map D.int)))) (hk:l[aU (zy l) (l.length-1)]?=a8 k) (hs:af [a] X.env=[(a9,aC a X.env)]) :
  DT X ρ (.Call (.Name "min" p) [a] [] pos) (.tup (k.map D.int)):=λσ H Q R q pins s I=>by
 refine aK (Jg I hg hm iM ?_ (by decide) (by decide));refine callWith_builtin1 (thn ((jc (es:=[]) peS jt hs).to (σ:=σ) (H:=H) (Q:=λvs H1=>∃v,vs=[v]/\j0 H H1/\Enc X.K H1 (.lst (l.map λk=>D.tup (k.map D.int))) v) (ha σ H _ R λv H1 g1 e1=>⟨v,rfl,g1,e1⟩) pos pins s I) λus s1 ⟨vs,H1,I1,r1,v,ev,g1,e1⟩=>?_) hs rfl;subst ev;obtain⟨b,xs,eb,sq,en⟩:=e1;subst eb;obtain⟨u,eu,ru⟩:=r1.one;subst eu;cases(show u=aI b from ru);have hlen:xs.length=l.length:=by rw[en.length,xf]
 have hin:=(X6.mp hk).1;have item:∀{i:Nat}{x:V},xs[i]?=a8 x->∃t,x=.ref t/\SqT X.K H1 t ((l.getD i []).map V.int)/\Enc X.K H1 (.tup ((l.getD i []).map D.int)) x:=λ{i x} hx=>by
  obtain⟨d,hd,ed⟩:=en.get' hx;rw[X4]at hd;obtain⟨k',hk',ek⟩:=Xl.mp hd;subst ek;have eg:l.getD i []=k':=by rw[kj,hk'];rfl
  rw[eg];obtain⟨t,ys,e1,sq',l'⟩:=id ed;rw[qw l']at sq';exact⟨t,e1,sq',ed⟩
 refine j1b (zy l) (I.ok.hd hcalm) I1 sq nofun (λi j x y u v s2 Q2 E2 hx hy rx ry I2 hq=>?_) λx hx=>?_
 .obtain⟨t,e1,s1',_⟩:=item hx;obtain⟨t',e2,s2',_⟩:=item hy;subst e1 e2;cases rx;cases ry;obtain⟨its,r1,p1,_⟩:=I2.tuple s1';obtain⟨its2,r2,p2,_⟩:=I2.tuple s2';exact HT.lt_tupInts (A:=X.A.in1) p1 p2 (intsAre_of r1) (intsAre_of r2) (by show X.A.units+1<aQ;omega) hq
 .rw[hlen]at hx;obtain⟨t,e1,_,ed⟩:=item hx;have eg:l.getD (aU (zy l) (l.length-1)) []=k:=by rw[kj,hk];rfl
  rw[eg]at ed;exact q x H1 g1 ed
end
noncomputable def jlq(p q:Int×zo):Bool:=if p.1=q.1 then HT.lexLt p.2 q.2 else decide (p.1<q.1)
noncomputable def Lw(l:List (Int×zo))(i j:Nat):Bool:=jlq (l.getD i (0,[])) (l.getD j (0,[]))
noncomputable def pairD(p:Int×zo):D:=.tup [.int p.1,.tup (p.2.map D.int)]
theorem Di:∀l:zo,HT.lexLt l l=a9
 |[]=>rfl
 |x::l=>by rw[HT.lexLt_cons,if_pos rfl,Di l]
theorem Nu:∀l:zo,D.depL (l.map D.int)=0
 |[]=>rfl
 |x::l=>by rw[X5,D.depL,Nu l];rfl
theorem Iz:∀{ns ms:zo},vg (ns.map D.int) (ms.map D.int)=ah->ns=ms
 |[],[],_=>rfl
 |[],_::_,h=>nomatch h
 |_::_,[],h=>nomatch h
 |x::ns,y::ms,h=>by rw[X5,X5,Qw,Xe]at h;rw[Iz h.2,show x=y from by simpa [j78]using h.1]
section
open PySem.SeqAt
open PySem.AutoSeq1 (wpAny_loadPart')
open PySem.MeetsSeq PySem.MeetsSeq2 PySem.MeetsSeq3
def El(l b x y:aj)(a c:Int)(t u:gR)(n n2:Nat)(dd dd2:Option aj)(sl sl2:Array (Option ai))(e r:Bool) :
  jK (cO.«tuple.__lt__» ⟨[.ref l,.ref b],[]⟩)
   (λA R s=>s.heap.get? l=a8 { cls:=.type "tuple",dict:=dd,data:=.seq #[.int a t,.ref x] n,slots:=sl }/\s.heap.get? b=a8 { cls:=.type "tuple",dict:=dd2,data:=.seq #[.int c u,.ref y] n2,slots:=sl2 } /\
    EqAt A.in1 s (.ref x) (.ref y) e/\(∀(prog:ay)(w:aD)(E:k97)(Q:k97),Q (.bool r) s->aw (aB prog w) A.in1 (ic .Lt (.ref x) (.ref y)) Q E s) /\
    R (.ok (.ret (.bool (if a=c then(if e=ah then a9 else r)else decide (a<c))))) s) :=
 .of_wp λprog w A R s h=>by
  obtain⟨hp,g,d,tk,os⟩:=s;obtain⟨hl,hb,hx,hr,h⟩:=h;have f2:=gB
  wp_walk using dD hl,dD hb,hU _ (λrest b s'=>b.1=ae/\s'=⟨hp,g,d,tk,os⟩ /\
   (rest=[(br a t,br c u),(aI x,aI y)]\/(rest=[(aI x,aI y)]/\a=c)\/(rest=[]/\a=c/\e=ah))) _
  case turn =>
   rintro⟨y',x'⟩ rest b s' ⟨hb',rfl,hz⟩;rcases hz with hz|⟨hz,ac⟩|⟨hz,_⟩
   .injection hz with hyx hrest;injection hyx with hy hx';subst hy hx';obtain⟨e',he,hiff⟩:=HT.eqAt_int A.in1 ⟨hp,g,d,tk,os⟩ a t c u;refine aa (he prog w _ _ ?_);cases e' with
    |true =>
     wp_walk
     exact⟨rfl,rfl,.inr (.inl ⟨hrest,hiff.mp rfl⟩)⟩
    |false =>
     rw[if_neg (λq=>absurd (hiff.mpr q) xj)]at h;have hri:=HT.rcLt_int A.in1 ⟨hp,g,d,tk,os⟩ a t c u prog w
     wp_walk using hri
     exact⟨_,rfl,by simpa using h⟩
   .injection hz with hyx hrest;injection hyx with hy hx';subst hy hx';refine aa (hx prog w _ _ ?_);rw[if_pos ac]at h;cases e with
    |true =>
     wp_walk
     exact⟨rfl,rfl,.inr (.inr ⟨hrest,ac,rfl⟩)⟩
    |false =>
     have hri:=hr prog w
     wp_walk using hri
     exact⟨_,rfl,by simpa using h⟩
   .cases hz
  case fin =>
   rintro⟨b1,b2⟩ s' ⟨hb',rfl,hz⟩;simp only at hb';subst hb';rcases hz with hz|⟨hz,ac⟩|⟨hz,ac,e1⟩
   .cases hz
   .cases hz
   .rw[if_pos ac,if_pos e1]at h
    wp_walk
    exact⟨_,rfl,by simpa [eT]using h⟩
  case h =>exact⟨rfl,rfl,.inl rfl⟩
end
section
variable{X:Cx}{ρ:Rho}{a:au}{l:List (Int×zo)}{k:Int×zo}{p pos:aO}
def DT.minP (hu:X.A.units+100<aQ) (hcalm:X.calm=ah) (hm:X.mg "min" = ae) (hg:Gl X "min") (ha:DT X ρ a (.lst (l.map pairD))) (hk:l[aU (Lw l) (l.length-1)]?=a8 k) (hs:af [a] X.env=[(a9,aC a X.env)]) :
  DT X ρ (.Call (.Name "min" p) [a] [] pos) (pairD k):=λσ H Q R q pins s I=>by
 refine aK (Jg I hg hm iM ?_ (by decide) (by decide));refine callWith_builtin1 (thn ((jc (es:=[]) peS jt hs).to (σ:=σ) (H:=H) (Q:=λvs H1=>∃v,vs=[v]/\j0 H H1/\Enc X.K H1 (.lst (l.map pairD)) v) (ha σ H _ R λv H1 g1 e1=>⟨v,rfl,g1,e1⟩) pos pins s I) λus s1 ⟨vs,H1,I1,r1,v,ev,g1,e1⟩=>?_) hs rfl;subst ev;obtain⟨b,xs,eb,sq,en⟩:=e1;subst eb;obtain⟨u,eu,ru⟩:=r1.one;subst eu;cases(show u=aI b from ru);have hlen:xs.length=l.length:=by rw[en.length,xf]
 have hin:=(X6.mp hk).1;have item:∀{i:Nat}{x:V},xs[i]?=a8 x->Enc X.K H1 (pairD (l.getD i (0,[]))) x:=λ{i x} hx=>by
  obtain⟨d,hd,ed⟩:=en.get' hx;rw[X4]at hd;obtain⟨k',hk',ek⟩:=Xl.mp hd;subst ek;have eg:l.getD i (0,[])=k':=by rw[kj,hk'];rfl
  rw[eg];exact ed
 have part:∀{q:Int×zo}{x:V},Enc X.K H1 (pairD q) x->∃t y,x=.ref t/\SqT X.K H1 t [.int q.1,.ref y]/\SqT X.K H1 y (q.2.map V.int)/\Enc X.K H1 (.tup (q.2.map D.int)) (.ref y):=λ{q x} ed=>by obtain⟨t,ys,e1,sq',l'⟩:=ed;obtain⟨v1,ys1,rfl,e2,v2,ys2,rfl,e3,rfl⟩:=l';cases(show v1=.int q.1 from e2);obtain⟨y,zs,e4,sq2,l4⟩:=id e3;subst e4;rw[qw l4]at sq2;exact⟨t,y,e1,sq',sq2,e3⟩
 refine j1b (Lw l) (I.ok.hd hcalm) I1 sq nofun (λi j x y u v s2 Q2 E2 hx hy rx ry I2 hq=>?_) λx hx=>?_
 .obtain⟨t,x1,e1,s1',s1'',en1⟩:=part (item hx);obtain⟨t',y1,e2,s2',s2'',en2⟩:=part (item hy);subst e1 e2;cases rx;cases ry;obtain⟨its,r1,p1,_⟩:=I2.tuple s1';obtain⟨its2,r2,p2,_⟩:=I2.tuple s2';obtain⟨itx,rx1,px,_⟩:=I2.tuple s1'';obtain⟨ity,ry1,py,_⟩:=I2.tuple s2'';obtain⟨_,_,rfl,⟨k1,rfl⟩,eu⟩:=r1.two;obtain⟨_,_,rfl,⟨k2,rfl⟩,ev⟩:=r2.two;cases eu;cases ev;have hE:=(Vi I2 1 X.A.in1.in1 (d:=.tup ((l.getD i (0,[])).2.map D.int)) (d':=.tup ((l.getD j (0,[])).2.map D.int)) (by rw[D.dep,Nu];decide) (by show X.A.units+1+1+1<aQ;omega) (by rw[D.dep,Nu];decide) en1 rfl en2 rfl).2;obtain⟨⟨cls,dd,data,sl⟩,ho,hc,n,hd⟩:=id p1;obtain⟨⟨cls2,dd2,data2,sl2⟩,ho2,hc2,n2,hd2⟩:=id p2;simp only at hc hd hc2 hd2;subst hc hd hc2 hd2;have hb:Lw l i j=if (l.getD i (0,[])).1=(l.getD j (0,[])).1 then(if deq (.tup ((l.getD i (0,[])).2.map D.int)) (.tup ((l.getD j (0,[])).2.map D.int))=ah then a9 else HT.lexLt (l.getD i (0,[])).2 (l.getD j (0,[])).2)else decide ((l.getD i (0,[])).1<(l.getD j (0,[])).1):=by
   show(if _ then _ else _)=_;split
   .split
    .rename_i h;rw[j1p]at h;rw[Iz h,Di]
    .rfl
   .rfl
  rw[hb]at hq;exact jV (op:=.Lt) ⟨_,ho,rfl⟩ ⟨_,ho2,rfl⟩ i9 gZ (gQ _ _) (El t t' x1 y1 _ _ _ _ n n2 dd dd2 sl sl2 _ _)
   ⟨ho,ho2,hE,λprog w E Q h=>HT.lt_tupInts (A:=X.A.in1.in1) px py (intsAre_of rx1) (intsAre_of ry1) (by show X.A.units+1+1<aQ;omega) h,(λx=>nomatch x),hq⟩ (by show X.A.units+1<aQ;omega)
 .rw[hlen]at hx;have ed:=item hx;have eg:l.getD (aU (Lw l) (l.length-1)) (0,[])=k:=by rw[kj,hk];rfl
  rw[eg]at ed;exact q x H1 g1 ed
end
noncomputable def dval(kvs:List (aq×Int))(k:aq):Option Int:=(kvs.find? λp=>decide (p.1=k)).map λp=>p.2
section
variable{X:Cx}{ρ:Rho}{a b e k:au}{rest:List aS}{P:Po}{kvs:List (aq×Int)}{z:aq}{n:Int}{i j:Nat}{nx ny:aq}{pos pos' p p1 p2 p3 p4 p5 p6 p7 p8:aO}{td ty tv:TE}{o value:au}
def j6i (hu:X.A.units+100<aQ):MtR X "list.index" (λx vs H Q=>∃t xs ds d y k,x=.ref t/\vs=[y]/\SqL X.K H t xs/\j4 X.K H ds xs/\Enc X.K H d y/\D.depL ds<=97/\d.dep<10000/\ixD d ds=a8 k/\Q (.int (k:Nat)) H):=by
 rintro pins s σ H x vs v us Q I rx rv ⟨t,xs,ds,d,y,k,e,e',sq,l,en,hd,nd,hk,q⟩;subst e e';cases rx;obtain⟨u,eu,ru⟩:=rv.one;subst eu;obtain⟨its,ri,⟨⟨cl,dd,da,sl⟩,n,h1,h2,h4,h3⟩,hz0⟩:=I.list sq;have h2:cl=.type "list":=h2;have h3:da=.seq its.toArray n:=h3;subst h2 h3;obtain⟨z,hz,ez,fz⟩:=j1g hk;have ll:=l.length;have rl:=ri.length;have hks:k<its.toArray.size:=by have:=(X6.mp hz).1;simp;omega
 have at_:∀(j:Nat)(h:j<its.toArray.size)(z:D),ds[j]?=a8 z->eqW X H d its.toArray[j]=deq z d:=λj h z hz=>by
  obtain⟨x,hx,ex⟩:=l.get hz;obtain⟨w,hw,rw⟩:=ri.get hx;have g1:its.toArray[j]=w:=by simp at h ⊢;rw[kh (by simpa using h)]at hw;exact az hw
  have:=D.depL_le hz;rw[g1];exact Mu I nofun ex rw
 have hn:=Wm;have hks':k<its.length:=by simpa using hks
 refine bI iT ⟨_,h1,rfl⟩ F.entry_list_index (F.args_list_index_2 _ _) (SeqAt.list_indexAt t its.toArray n dd sl u (eqW X H d) k hks nofun (by rw[at_ k hks z hz];exact ez) (λj h hj=>?_))
  ⟨h1,λy hy=>Vj (n:=97) I en ru nd (by show X.A.units+1+97<aQ;omega) hd l ri y (by simpa using hy),⟨.int _,H,I.tok _,⟨_,rfl⟩,q⟩⟩
 have hlt:j<ds.length:=by simp at h;omega
 rw[at_ j h ds[j] (kh hlt)];exact fz j _ hj (kh hlt)
def DE.indexL {ds:List D} {d:D} {k':Nat} (hu:X.A.units+100<aQ) (ha:DT X ρ a (.lst ds)) (hb:DT X ρ b d) (hd:D.depL ds<=97) (nd:d.dep<10000) (hk:ixD d ds=a8 k') (hbase:aW a "index" X.env (aC a X.env)=aC a X.env)
  (hfew:((aP p2 (af [b] X.env)).all (λx=>!x.1)&&(bM p2 (ba [] X.env)).all (λx=>x.1.isSome)
   && decide (([b]:List au).length+([]:List b7).length+(if ([]:List b7).isEmpty then 0 else 1)<30))=ah) (hline:(p1.endLine==p2.line)=ah)
  (hs:af [b] X.env=(a9,aC b X.env)::af [] X.env):DE X ρ (.Call (.Attribute a "index" p1) [b] [] p2) (.int (k':Nat)):=λσ H Q R q =>
 (Wz cz iT PySem.F.type_list_index (j6i hu) peS (jc peS jt hs) hbase hfew hline hs rfl).to (ha σ H _ R λv H1 g1 ⟨t,xs,e,sq,l⟩=>⟨by rw[e];exact .inl ⟨rfl,xs,sq⟩,hb σ H1 _ (R.grow g1) λu H2 g2 e2 =>
  ⟨t,xs,ds,d,u,k',e,rfl,g2.seq sq,l.mono g2,e2,hd,nd,hk,q _ H2 (g1.trans g2) rfl⟩⟩)
end
section
variable{X:Cx}{ρ:Rho}{a e:au}{es:List au}{x:aq}{d:D}{p p1 p2 pos:aO}{y:aq}{ds:List D}
def Fd{M:iK}{A:aF}{E:k97}{s:ao}{env:d9}{value:au}{pos:aO}{Q:k97}
  (h:aw M A (aC value env) (λv s₁=>aw M A (pyReprObj v) (λr s₂=>aw M A (formatField r fh) Q E s₂) E s₁) E s) :
  aw M A (aC (.FormattedValue value 114 ae pos) env) Q E s:=by
 rw[arm_eval_FormattedValue];refine aa (bB h (λv s₁ h₁=>?_) λ_ _ x=>x);refine aa (gc ?_);show aw _ _ (do let v' <-iy [v] (pyReprObj v);formatField v' fh) Q E s₁;exact aa (cL h₁)
def DE.fmtR(ha:DT X ρ e (.str y))(hy:(cY y).length<=av):DE X ρ (.FormattedValue e 114 ae pos) (.str (cY y)):=λσ H Q R q pins s I=>by
 refine Fd (thn (ha σ H (λv H1=>v=.str y/\j0 H H1) R (λv H1 g e=>⟨e,g⟩) pins s I) λu s1 ⟨v,H1,I1,r,ev,g⟩=>?_);subst ev;obtain⟨t,rfl⟩:=(show ∃t,u=bA y t from r)
 refine wpAny_pyReprObj_gives (gr s1 y t) F.slot_str_repr F.entry_str_repr (F.args_str_repr_1 _) (gives_str_repr y t) ?_ rfl hy;exact mO (λt' tk=>⟨.str (cY y),H1,I1.un (t':=tk) Un.refl I1.hok,⟨_,rfl⟩,q _ H1 g rfl⟩) hy
def W8.grow{σ:St}{H H':Hp}(k:W8 X σ H x)(g:j0 H H'):W8 X σ H' x:=λpins H2 s' e C I g2 hC Fe=>k pins H2 s' e C I (g.trans g2) hC Fe
def DXA.head(ha:DX X ρ a x)(hs:af (a::es) X.env=(a9,aC a X.env)::af es X.env):DXA X ρ (a::es) x:=λσ H Q R k =>(jc peS paS hs).to (ha σ H _ R k)
def DXA.tail(ha:DT X ρ a d)(h:DXA X ρ es x)(hs:af (a::es) X.env=(a9,aC a X.env)::af es X.env):DXA X ρ (a::es) x:=λσ H Q R k =>(jc peS paS hs).to (ha σ H _ R λv H1 g _=>h σ H1 _ (R.grow g) (k.grow g))
def DX.args {f:aq} (ha:DXA X ρ (e::es) x) (hg:Gl X f) (hdb:(f==k9a)=a9) {fa:aj} (hfa:X.mg f=a8 (.ref fa)) (hk:W.keepIn X.K (.ref fa)=ah)
  (he:af (e::es) X.env=(a9,aC e X.env)::af es X.env) (hpl:(aP pos (af es X.env)).any (·.1)=a9):DX X ρ (.Call (.Name f p) (e::es) [] pos) x:=λσ H Q R k pins s I=>by
 refine aK (Yz I hg hfa ?_ hdb);exact W.callWith_K (h₀:=X.base) I.ok.mod.kin hk (thn (ha σ H (λ_ _=>False) R k pos pins s I) λus s1 ⟨vs,H1,I1,r,z⟩=>z.elim) he hpl
end
noncomputable def qz:zo->Int
 |[]=>0
 |a::r=>r.foldl max a
theorem Ip:∀(r:zo)(a:Int),r.foldl max a∈a::r/\∀b∈a::r,b<=r.foldl max a
 |[],a=>⟨xm.mpr rfl,λb hb=>by rw[xm.mp hb];exact Tg _⟩
 |c::r,a=>by
  rw[T3];obtain⟨h1,h2⟩:=Ip r (max a c);refine⟨?_,λb hb=>?_⟩
  .rcases xr.mp h1 with z|z
   .rw[z];by_cases q:a<=c
    .rw[Int.max_eq_right q];exact xg _ xq
    .rw[Int.max_eq_left nofun];exact xq
   .exact xg _ (xg _ z)
  .have l:=h2 (max a c) xq;rcases xr.mp hb with z|z
   .rw[z];omega
   .rcases xr.mp z with z|z
    .rw[z];omega
    .exact h2 b (xg _ z)
def Rb{ns:zo}(h:ns≠[]):qz ns∈ns/\∀b∈ns,b<=qz ns:=by
 cases ns with
 |nil=>exact absurd rfl h
 |cons a r=>exact Ip r a
def jcv{ns:zo}{M:Int}(h1:M∈ns)(h2:∀a∈ns,a<=M):qz ns=M:=by
 have hn:ns≠[]:=λe=>by rw[e]at h1;exact nomatch h1
 obtain⟨a,b⟩:=Rb hn;have:=h2 _ a;have:=b _ h1;omega
noncomputable def J5(ns:zo):Int:=-qz (ns.map λn=>-n)
def Qt{ns:zo}(h:ns≠[]):J5 ns∈ns/\∀b∈ns,J5 ns<=b:=by
 obtain⟨h1,h2⟩:=Rb (ns:=ns.map λn=>-n) (by simpa using h);obtain⟨a,ha,e⟩:=X8.mp h1;unfold J5;refine⟨?_,λb hb=>?_⟩
 .rw[<-e,Int.neg_neg];exact ha
 .have:=h2 _ (X8.mpr ⟨b,hb,rfl⟩);omega
def Ln{ns:zo}{M:Int}(h1:M∈ns)(h2:∀a∈ns,M<=a):J5 ns=M:=by
 obtain⟨a,b⟩:=Qt (ns:=ns) λe=>by rw[e]at h1;exact nomatch h1
 have:=h2 _ a;have:=b _ h1;omega
section
variable{X:Cx}{ρ:Rho}{a b e:au}{es:List au}{x y:aq}{d:D}{i j:Int}{p p1 p2 p3 p4 pk pos:aO}{ds:List D}
def jak{pins:k98}{s:ao}{σ:St}{H:Hp}{l:aj}{ns:zo}(I:Inv X pins σ H s)(sq:SqL X.K H l (ns.map V.int))(hne:ns≠[]):∃zs,s.heap.IsList l (fM zs)/\0<zs.size/\zs.size=ns.length/\∀i,i<zs.size->ie zs i=ns.getD i 0:=by
 obtain⟨its,rv,pl,_⟩:=I.list sq;have hl:its.length=ns.length:=by rw[<-rv.length,xf]
 have val:∀(i:Nat)(v:ai),its[i]?=a8 v->∃t,v=br (ns.getD i 0) t:=by
  intro i v hv;have hi:i<its.length:=(X6.mp hv).1;have hi':i<ns.length:=by omega
  obtain⟨w1,hw,rw1⟩:=rv.get (x:=.int (ns.getD i 0)) (i:=i) (by rw[X4,kh hi',kj,kh hi'];rfl);rw[hw]at hv;cases hv;exact rw1
 have hall:AllInts its.toArray:=by intro v hv;obtain⟨i,hi,e⟩:=T6.mp (show v∈its by simpa using hv);obtain⟨t,e'⟩:=val i v (by rw[kh hi,e]);exact⟨_,t,e'⟩
 obtain⟨zs,hz⟩:=hall.items;have pl':=pl.isList;rw[hz]at pl';have hsz:0<zs.size:=by
  have:its.toArray.size=(fM zs).size:=by rw[hz]
  have h1:0<ns.length:=List.length_pos_iff.mpr hne;simp[fM]at this;omega
 have hns:∀i,i<zs.size->ie zs i=ns.getD i 0:=by
  intro i hi;obtain⟨v1,e1⟩:∃v,(fM zs)[i]?=a8 v:=⟨_,c9 (by simpa [fM]using hi)⟩
  obtain⟨t,ht⟩:=ky e1;rw[<-hz]at e1;obtain⟨t',ht'⟩:=val i _ (by simpa using e1);rw[ht]at ht';exact(Value.int.inj ht').1
 have len:zs.size=ns.length:=by
  have:its.toArray.size=(fM zs).size:=by rw[hz]
  simp[fM]at this;omega
 exact⟨zs,pl',hsz,len,hns⟩
def Ef (hc:X.calm=ah):Qg X (.builtin "max") (λxs H Q=>∃(l:aj)(ns:zo),xs=[.ref l]/\SqL X.K H l (ns.map V.int)/\ns≠[]/\Q (.int (qz ns)) H):=by
 rintro pins s σ H xs us Q I r ⟨l,ns,e,sq,hne,q⟩;subst e;obtain⟨u,eu,ru⟩:=vals1 r;subst eu;cases ru;obtain⟨zs,pl',hsz,len,hns⟩:=jak I sq hne;refine max_intList (I.ok.hd hc) pl' hsz λv h' tk hv hk=>?_;obtain⟨t,rfl⟩:=ky hv;obtain⟨h1,h2⟩:=argBest_gt (ie zs) (zs.size-1);have hM:qz ns=ie zs (aU (λi j=>decide (ie zs i>ie zs j)) (zs.size-1)):=by
  refine jcv ?_ λc hc=>?_
  .rw[hns _ nofun];rw[kj,kh nofun];exact Xr _
  .obtain⟨k,hk,rfl⟩:=T6.mp hc;have:=h2 k nofun
   rw[hns k nofun,kj,kh hk]at this;exact this
 rw[hM]at q;exact⟨.int _,H,I.kept hk,⟨t,rfl⟩,q⟩
def j7l (hc:X.calm=ah):Qg X (.builtin "min") (λxs H Q=>∃(l:aj)(ns:zo),xs=[.ref l]/\SqL X.K H l (ns.map V.int)/\ns≠[]/\Q (.int (J5 ns)) H):=by
 rintro pins s σ H xs us Q I r ⟨l,ns,e,sq,hne,q⟩;subst e;obtain⟨u,eu,ru⟩:=vals1 r;subst eu;cases ru;obtain⟨zs,pl',hsz,len,hns⟩:=jak I sq hne;refine min_intList (I.ok.hd hc) pl' hsz λv h' tk hv hk=>?_;obtain⟨t,rfl⟩:=ky hv;obtain⟨h1,h2⟩:=argBest_lt (ie zs) (zs.size-1);have hM:J5 ns=ie zs (aU (λi j=>decide (ie zs i<ie zs j)) (zs.size-1)):=by
  refine Ln ?_ λc hc=>?_
  .rw[hns _ nofun];rw[kj,kh nofun];exact Xr _
  .obtain⟨k,hk,rfl⟩:=T6.mp hc;have:=h2 k nofun
   rw[hns k nofun,kj,kh hk]at this;exact this
 rw[hM]at q;exact⟨.int _,H,I.kept hk,⟨t,rfl⟩,q⟩
def DE.max2 (ha:DT X ρ a (.int i)) (hb:DT X ρ b (.int j)) (hm:X.mg "max" = ae) (hc:X.calm=ah) (hg:Gl X "max") (hs:af [a,b] X.env=(a9,aC a X.env)::af [b] X.env) (hs2:af [b] X.env=(a9,aC b X.env)::af [] X.env)
  (hpl:(aP pos (af [b] X.env)).any (·.1)=a9):DE X ρ (.Call (.Name "max" p) [a,b] [] pos) (.int (if j>i then j else i)):=λσ H Q R q =>
 (J3 (j7n hc) hg hm ng (jc peS (jc peS jt hs2) hs) (by decide) (by decide) hs hpl).to (ha σ H _ R λv H1 g1 e1=>hb σ H1 _ (R.grow g1) λu H2 g2 e2=>⟨i,j,by rw[show v=.int i from e1,show u=.int j from e2],q _ H2 (g1.trans g2) rfl⟩)
def DE.maxL {ns:zo} (ha:DT X ρ a (.lst (ns.map D.int))) (hn:ns≠[]) (hm:X.mg "max" = ae) (hc:X.calm=ah) (hg:Gl X "max") (hs:af [a] X.env=[(a9,aC a X.env)]):DE X ρ (.Call (.Name "max" p) [a] [] pos) (.int (qz ns)):=λσ H Q R q =>(J3 (Ef hc) hg hm ng (jc peS jt hs) (by decide) (by decide) hs).to (ha σ H _ R λv H1 g1 ⟨l,xs,e,sq,en⟩=>⟨l,ns,by rw[e],by rw[qw en]at sq;exact sq,hn,q _ H1 g1 rfl⟩)
def DE.minL {ns:zo} (ha:DT X ρ a (.lst (ns.map D.int))) (hn:ns≠[]) (hm:X.mg "min" = ae) (hc:X.calm=ah) (hg:Gl X "min") (hs:af [a] X.env=[(a9,aC a X.env)]):DE X ρ (.Call (.Name "min" p) [a] [] pos) (.int (J5 ns)):=λσ H Q R q =>(J3 (j7l hc) hg hm iM (jc peS jt hs) (by decide) (by decide) hs).to (ha σ H _ R λv H1 g1 ⟨l,xs,e,sq,en⟩=>⟨l,ns,by rw[e],by rw[qw en]at sq;exact sq,hn,q _ H1 g1 rfl⟩)
def jjq {K:k96} {fd:aL} {ps:List aq} (hn:0<ps.length) (h:∀(s:ao)(us:List ai)(w:ai),K.In s.heap->us.length+1=ps.length->dJ s fd ⟨us,[("prices",w)]⟩ (ps.zip (us++[w]))):KBinds K fd ps ["prices"] kG kGV :=
 ⟨λs us ws hK hl=>by
  match ws,hl with
  |[w],hl=>exact h s us w hK (by simpa [kG]using hl)
  |[],hl=>exact absurd hl (Xa hn)
  |_::_::_,hl=>exact absurd hl (Xa hn),λ{vs us zs ws} r1 r2=>by
  cases r2 with
  |nil=>exact .nil
  |cons a b =>
   cases b with
   |nil=>exact r1.append (.cons a .nil)
   |cons _ _=>exact .nil⟩
def DE.callD {S:List D->D->Prop} (c:Cal X x (spP X.K S)) (hx:x∈j4t) (ha:DA X ρ (e::es) ds) (hS:S (ds++[.non]) d) (hg:Gl X x) (hdb:(x==k9a)=a9)
  (he:af (e::es) X.env=(a9,aC e X.env)::af es X.env) (hpl:(aP pos (af es X.env)).any (·.1)=a9):DE X ρ (.Call (.Name x p) (e::es) [] pos) d:=λσ H Q R q=>by
 obtain⟨k,f,fd,ps,F,hr,hm,hk,hb,hd⟩:=c.ex;refine(Yy (dvs:=[.non]) F (hr.mono (Pn _)) hg hm hk (hd hx).1 (.cons rfl .nil) Oe paS hdb he hpl).to (ha σ H _ R λvs H1 g1 e1=>?_);show spP X.K S (vs++[.non]) H1 Q E0;exact⟨owns ρ,ds++[.non],d,R.tb.mono g1,(R.grow g1).owned,e1.append (show j4 X.K _ [D.non] [V.non] from⟨.non,[],rfl,rfl,rfl⟩),hS,λv H2 g2 z=>q v H2 (g1.trans g2) z⟩
end
noncomputable def ch1(c:Nat):aq:=⟨#[c]⟩
noncomputable def chs(y:aq):List D:=y.cps.toList.map λc=>D.str (ch1 c)
noncomputable def ascii(y:aq):Bool:=y.cps.all (· < 128)
noncomputable def Its(y:aq):It:=⟨λi _=>i<y.cps.size,λi H x H'=>H'=H/\∃c,y.cps[i]?=a8 c/\x=.str (ch1 c),λi _=>y.cps.size<=i⟩
def j80 {P:ay} {w:aD} {K:k96} {tg:au} (it:aj) (y:aq) (t:gR):Turn P w K tg (Its y) [it] it (λi h=>h.IsStrIter it "str_ascii_iterator" y t i) where
 mem:=by simp
 obj:=λi h st b hb=>by
  have e:b=it:=by simpa using hb
  subst e;obtain⟨o,e,c,d⟩:=st;exact⟨o,e,λv z=>by rw[d]at z;cases z⟩
 keep:=λi h h' st k=>let ⟨o,e,r⟩:=st;⟨o,k it (by simp) o e,r⟩
 item:=by intro X hP hw hK hc i pins s σ H E I hf st hg;subst hP hw hK;obtain⟨f0,f1,f2,f3,f4,f5⟩:=hf it (by simp);have W:=Walks.strAscii (prog:=X.prog) (w:=X.w) (I.ok.hd hc) it y t;refine W.item i s _ _ hg st λv h' tk hv st' kk=>?_;obtain⟨c,u,hcu,rfl⟩:=hv;have I1:Inv X pins σ H { s with heap:=h',toks:=tk }:=I.turned (λb o hb e=>kk b o (by simpa using hb) e) f0 f1 f3 f4 f5;obtain⟨o,e,oc,d⟩:=id st';exact⟨_,rfl,j06 (s:={ s with heap:=h',toks:=tk }) e oc d (by decide) ⟨.str (ch1 c),H,I1,⟨u,rfl⟩,⟨rfl,c,hcu,rfl⟩,st',λb hb=>(hf b hb).1⟩⟩
 done:=by intro X hP hw hK hc i pins s σ H E I hf st hg;subst hP hw hK;obtain⟨f0,f1,f2,f3,f4,f5⟩:=hf it (by simp);exact wpAny_pyNext_ascii_end (I.ok.hd hc) st (by have:y.cps.size<=i:=hg;simp;omega) λh' eb=>⟨rfl,I.turned (t':=s.toks) (λb o hb e=>eb b o hb e) f0 f1 f3 f4 f5⟩
 self:=λ_ _ _ _ _ st h=>wpAny_pyIter_striter_ascii st h
section
variable{X:Cx}{ρ:Rho}{a b c e tg it:au}{y z:aq}{i j k:Int}{p p2 pos:aO}
def j96{K:k96}{F:Hp}(y:aq):Vc K F (Its y) (chs y):=λi H A g hA=>by
 have hl:(chs y).length=y.cps.size:=by unfold chs;rw[xf,d7]
 rw[hl];refine⟨λh=>h,λh=>h,λx H' ⟨e,c,hc,ex⟩=>?_⟩;subst e ex;refine⟨j0.refl _,λd hd=>?_⟩;unfold chs at hd;rw[X4,iA,hc]at hd;cases hd;rfl
def DI.str(h:DT X ρ it (.str y))(ha:ascii y=ah):DI X ρ tg it (chs y):=λσ H R r q pins s I=>by
 refine thn (h σ H (λv H1=>v=.str y/\j0 H H1) r (λv H1 g e=>⟨e,g⟩) pins s I) λv s1 ⟨x,H1,I1,r1,ex,g1⟩=>?_;subst ex;obtain⟨t,rfl⟩:=(show ∃t,v=bA y t from r1)
 refine wpAny_pyIter_ascii ha ?_;refine⟨s1.heap.objs.size,[s1.heap.objs.size],_,_,H1,rfl,I1.kept (t':=s1.toks) λb o e=>km _ e,j80 _ y t,⟨_,xu _ rfl,rfl,rfl⟩,λb hb=>?_,q _ H1 g1 (j96 y)⟩;have e:b=s1.heap.objs.size:=by simpa using hb
 subst e;exact I1.fpOk (X3 _) (I1.hok.fresh (X3 _))
noncomputable def inS(y z:aq):Bool:=!(gb z y 0 z.length 1).isEmpty
def Ij:OpR X (aX .Gt) (λx y H Q=>∃i j,x=.str i/\y=.str j/\Q (.bl (decide (j.cps.toList<i.cps.toList))) H):=by intro pins s σ H x y v u Q I rx ry h;obtain⟨i,j,rfl,rfl,q⟩:=h;obtain⟨t,rfl⟩:=rx;obtain⟨t',rfl⟩:=ry;exact P.gt_str (jw I q rfl)
def DE.ltS(ha:DT X ρ a (.str y))(hb:DT X ρ b (.str z)):DE X ρ (.Compare a [.Lt] [b] pos) (.bl (decide (y.cps.toList<z.cps.toList))):=λσ H Q R q =>(J9 Ih peS peS (zc _)).to (ha σ H _ R λv H1 g1 e1=>hb σ H1 _ (R.grow g1) λu H2 g2 e2=>⟨y,z,e1,e2,q _ H2 (g1.trans g2) rfl⟩)
def DB.ltS(ha:DT X ρ a (.str y))(hb:DT X ρ b (.str z)):DB X ρ (.Compare a [.Lt] [b] pos) (decide (y.cps.toList<z.cps.toList)):=λσ H Q R q =>(Jp Ih peS peS (zc _)).to (ha σ H _ R λv H1 g1 e1=>hb σ H1 _ (R.grow g1) λu H2 g2 e2=>⟨y,z,e1,e2,_,rfl,q H2 (g1.trans g2)⟩)
def DE.gtS(ha:DT X ρ a (.str y))(hb:DT X ρ b (.str z)):DE X ρ (.Compare a [.Gt] [b] pos) (.bl (decide (z.cps.toList<y.cps.toList))):=λσ H Q R q =>(J9 Ij peS peS (zc _)).to (ha σ H _ R λv H1 g1 e1=>hb σ H1 _ (R.grow g1) λu H2 g2 e2=>⟨y,z,e1,e2,q _ H2 (g1.trans g2) rfl⟩)
def DB.gtS(ha:DT X ρ a (.str y))(hb:DT X ρ b (.str z)):DB X ρ (.Compare a [.Gt] [b] pos) (decide (z.cps.toList<y.cps.toList)):=λσ H Q R q =>(Jp Ij peS peS (zc _)).to (ha σ H _ R λv H1 g1 e1=>hb σ H1 _ (R.grow g1) λu H2 g2 e2=>⟨y,z,e1,e2,_,rfl,q H2 (g1.trans g2)⟩)
def DE.inS(ha:DT X ρ a (.str y))(hb:DT X ρ b (.str z))(hm:aH .In b=a9):DE X ρ (.Compare a [.In] [b] pos) (.bl (inS y z)):=λσ H Q R q =>(J9 Ii peS peS hm).to (ha σ H _ R λv H1 g1 e1=>hb σ H1 _ (R.grow g1) λu H2 g2 e2=>⟨y,z,e1,e2,q _ H2 (g1.trans g2) rfl⟩)
def DB.inS(ha:DT X ρ a (.str y))(hb:DT X ρ b (.str z))(hm:aH .In b=a9):DB X ρ (.Compare a [.In] [b] pos) (inS y z):=λσ H Q R q =>(Jp Ii peS peS hm).to (ha σ H _ R λv H1 g1 e1=>hb σ H1 _ (R.grow g1) λu H2 g2 e2=>⟨y,z,e1,e2,_,rfl,q H2 (g1.trans g2)⟩)
def mulOk_of(h1:1<=k/\k<=1000)(h2:y.length<=1000):MulOk y k:=by
 refine⟨?_,λ_ _=>?_,λ_ _=>?_⟩
 .simp;omega
 .have:(1000:Int)<=(2^63-1)/k:=Int.le_ediv_of_mul_le nofun nofun
  omega
 .have hk:k.toNat<=1000:=by omega
  have:y.length*k.toNat<=1000000:=Nat.mul_le_mul h2 hk;unfold cT;rw[cD];simp;omega
def j4b:OpR X (bg .Mult) (λx y H Q=>∃i k,x=.str i/\y=.int k/\MulOk i k/\Q (.str (jR i k)) H):=by intro pins s σ H x y v u Q I rx ry h;obtain⟨i,k,rfl,rfl,hm,q⟩:=h;obtain⟨t,rfl⟩:=rx;obtain⟨t',rfl⟩:=ry;exact SB.mul hm λt' tk=>⟨.str _,H,I.un (t':=tk) Un.refl I.hok,⟨_,rfl⟩,q⟩
def DE.mulS(ha:DT X ρ a (.str y))(hb:DT X ρ b (.int k))(h1:1<=k/\k<=1000)(h2:y.length<=1000):DE X ρ (.BinOp a .Mult b pos) (.str (jR y k)):=λσ H Q R q =>(Uq j4b peS peS).to (ha σ H _ R λv H1 g1 e1=>hb σ H1 _ (R.grow g1) λu H2 g2 e2=>⟨y,k,e1,e2,mulOk_of h1 h2,q _ H2 (g1.trans g2) rfl⟩)
end
section
variable{X:Cx}{ρ ρ1 ρ':Rho}{e c:au}{ss sa sb:List aS}{is is2:List Nat}{d:D}{i:Nat}{x:aq}{p pos:aO}
def DMs(X:Cx)(ρ ρ':Rho)(is:List Nat)(ss:List aS):Prop:=∀(σ:St)(H:Hp)(E:Ends),Rep X.K ρ σ H->(∀σ' H',j0 H H'->Rep X.K ρ' σ' H'->(∀j,j∉is->σ'[j]?=σ[j]?)->E.nx σ' H')->Vx X ss E σ H
def DMt(X:Cx)(ρ ρ':Rho)(is:List Nat)(full tl:List aS):Prop:=∀(σ:St)(H:Hp)(E:Ends),Rep X.K ρ σ H->(∀σ' H',j0 H H'->Rep X.K ρ' σ' H'->(∀j,j∉is->σ'[j]?=σ[j]?)->Vx X tl E σ' H')->Vx X full E σ H
variable{tl:List aS}
end
def Kp(ρ ρ':Rho)(is:List Nat):Prop:=(∀b∈owns ρ',b∈owns ρ)/\∀j,j∉is->ρ'[j]?=ρ[j]?
noncomputable def pcF(b:aj)(k:Int):List (aq×V):=[("standing",.ref b),("spot",.int k)]
structure Ob where
 a:aj
 dx:aj
 b:aj
structure PcAt(C:aj)(H:Hp)(o:Ob)(ls:List aq)(k:Nat):Prop where
 ob:H o.a=a8 (.ins C o.dx (pcF o.b (k:Int)))
 li:H o.b=a8 (.lst (ls.map V.str))
def But(a:aj)(H H':Hp):Prop:=∀b o,b≠a->H b=a8 o->H' b=a8 o
structure PcT(K:k96)(mg:k99)(C fA fT fL fI:aj):Prop where
 cl:Cls K C
 nS:O8 K C "standing"
 nP:O8 K C "spot"
 mA:Meth K C "ahead" fA
 mT:Meth K C "taken" fT
 mL:Meth K C "all_taken" fL
 mkI:Mk K C fI
 mgC:mg "Pieces" = a8 (.ref C)
 len:mg "len" = ae
def jbt(C:aj):Sp:=λvs H Q _=>∃(o:Ob)(ls:List aq)(k:Nat),vs=[.ref o.a]/\PcAt C H o ls k/\Q (.str (ls.getD k "")) H
def jbr(C:aj):Sp:=λvs H Q _=>∃(o:Ob)(ls:List aq)(k:Nat),vs=[.ref o.a]/\PcAt C H o ls k/\∀H',PcAt C H' o ls (k+1)->But o.a H H'->Q (.str (ls.getD k "")) H'
def jj1(C:aj):Sp:=λvs H Q _=>∃(o:Ob)(ls:List aq)(k:Nat),vs=[.ref o.a]/\PcAt C H o ls k/\Q (.bl (decide (ls.length<=k))) H
section
variable{P:ay}{w:aD}{K:k96}{mg:k99}{base:aE}{C fA fT fL fI f:aj}{fd:aL}{st:aS}
def jbs(C:aj):Sp:=λvs H Q _=>∃(a dx:aj)(t:aq),vs=[.ref a,.str t]/\H a=a8 (.ins C dx [])/\t.length<=100000/\(nh t " ").length<=av/\∀b H',H b=ae->PcAt C H' ⟨a,dx,b⟩ (nh t " ") 0->But a H H'->Q .non H'
end
structure Pm where
 nx:Rho->Nat->Prop
 rt:D->Nat->Prop
 ex:aq->Rho->Prop
def FrM(a:aj)(ρ ρ':Rho)(H H':Hp):Prop:=j0 (del H (a::owns ρ)) (del H' (a::owns ρ'))
structure EndsM(X:Cx)(C:aj)(o:Ob)(ls:List aq)(ρ:Rho)(H:Hp)(P:Pm)(E:Ends):Prop where
 nx:∀ρ' k' σ' H',P.nx ρ' k'->Rep X.K ρ' σ' H'->PcAt C (del H' (owns ρ')) o ls k'->FrM o.a ρ ρ' H H'->E.nx σ' H'
 rt:∀d k' v H',P.rt d k'->PcAt C H' o ls k'->j0 (del H (o.a::owns ρ)) (del H' [o.a])->Enc X.K H' d v->E.rt v H'
 ex:∀x ρ' σ' H',P.ex x ρ'->Rep X.K ρ' σ' H'->FrM o.a ρ ρ' H H'->W8 X σ' H' x
structure PcX(X:Cx)(C:aj):Prop where
 ex:∃(fA fT fL fI:aj)(dA dT dL dI:aL),PcT X.K X.mg C fA fT fL fI/\(FnOk X.prog X.w X.K X.mg X.base CX0 1 fA dA ["self"] (jbt C)/\Binds X.K dA ["self"] []) /\
  (FnOk X.prog X.w X.K X.mg X.base CX0 2 fT dT ["self"] (jbr C)/\Binds X.K dT ["self"] [])/\(FnOk X.prog X.w X.K X.mg X.base CX0 1 fL dL ["self"] (jj1 C)/\Binds X.K dL ["self"] []) /\
  (FnOk X.prog X.w X.K X.mg X.base CX0 1 fI dI ["self","text"] (jbs C)/\Binds X.K dI ["self","text"] [])/\Room 3 X.A
def MSs(X:Cx)(C:aj)(o:Ob)(ls:List aq)(ρ:Rho)(k:Nat)(sts:List aS)(P:Pm):Prop :=
 ∀σ H E,Rep X.K ρ σ H->PcAt C (del H (owns ρ)) o ls k->EndsM X C o ls ρ H P E->Vx X sts E σ H
section
variable{X:Cx}{C:aj}{o:Ob}{ls:List aq}{ρ ρ1:Rho}{H H1 H':Hp}{P:Pm}{E:Ends}{k k':Nat}{st:aS}{sa rest:List aS}{σ:St}{pi i:Nat}{ob:d8}{x y f:aq}{p py pf p1 p2 p3 p4 pos:aO}{es:List au}{ds:List D}{d:D}
def Rep.set_rf{K:k96}{a:aj}{o:d8}(R:Rep K ρ σ H):Rep K (ρ.set i (.raw a o rfN)) (σ.set i (a8 (.ref a))) H:=by
 have sub:(owns (ρ.set i (.raw a o rfN))).Sublist (owns ρ):=jf rfl;have g:j0 (del H (owns ρ)) (del H (owns (ρ.set i (.raw a o rfN)))):=J0 λb hb=>sub.subset hb;refine⟨by simp[R.len],λj d' h=>?_,λj a ds h=>?_,sub.nodup R.nd,λj a' o' x' h=>?_,R.tb⟩
 .rcases getElem?_set_of h with ⟨rfl,z,hl⟩|⟨n,h⟩
  .cases z
  .obtain⟨u,q,h⟩:=R.val j d' h;exact⟨u,by rw[jz n];exact q,h.mono g⟩
 .rcases getElem?_set_of h with ⟨rfl,z,_⟩|⟨n,h⟩
  .cases z
  .obtain⟨q,xs,h,l⟩:=R.own j a ds h;exact⟨by rw[jz n];exact q,xs,h,l.mono g⟩
 .rcases getElem?_set_of h with ⟨rfl,z,hl⟩|⟨n,h⟩
  .cases z;exact⟨Jb (by rw[R.len];exact hl),.inl rfl⟩
  .obtain⟨q,h⟩:=R.raw j a' o' x' h;exact⟨by rw[jz n];exact q,h.mono g⟩
noncomputable def dOb:d8:={ cls:=.none }
end
noncomputable def startM(N:List aq)(a:aj)(ds:List D):Rho:=(qi N (.int 0::ds)).set 0 (.raw a dOb rfN)
def j46{K:k96}{H:Hp}{N:List aq}{ds:List D}{ws:List V}{a:aj}(tb:TabOk K H)(h:j4 K H ds ws):Rep K (startM N a ds) (start N (.ref a::ws)) H :=
 (Y5 (N:=N) tb (show j4 K H (.int 0::ds) (.int 0::ws) from⟨.int 0,ws,rfl,rfl,h⟩)).set_rf (i:=0) (a:=a) (o:=dOb)
def j2c(N:List aq)(a:aj)(ds:List D):owns (startM N a ds)=[]:=by have h:(owns (startM N a ds)).Sublist (owns (qi N (.int 0::ds))):=jf rfl;rw[Za]at h;exact List.sublist_nil.mp h
section
variable{X:Cx}{ρ:Rho}{a:au}{p p1 p2 pos:aO}
theorem ints_of:∀(ns:zo)(its:List ai),Vals (ns.map V.int) its->d4 its ns
 |[],_,.nil=>.nil
 |_::ns,_,.cons ⟨_,e⟩ t=>by subst e;exact .cons _ _ (ints_of ns _ t)
noncomputable def ddI(ns:zo):zo:=firstMet (λi=>ns.getD i 0) ns.length
def DE.lenSetI {ns:zo} (ha:DT X ρ a (.lst (ns.map D.int))) (hc:X.calm=ah) (room:ns.length+1<4096) (hm:X.mg "len" = ae) (hm2:X.mg "set" = ae) (hg:Gl X "len") (hg2:Gl X "set") (hs:af [a] X.env=[(a9,aC a X.env)])
  (hs2:af [.Call (.Name "set" p1) [a] [] p2] X.env=[(a9,aC (.Call (.Name "set" p1) [a] [] p2) X.env)]):DE X ρ (.Call (.Name "len" p) [.Call (.Name "set" p1) [a] [] p2] [] pos) (.int (ddI ns).length):=λσ H Q R q pins s I=>by
 have inner:aw (aB X.prog X.w) X.A (aC (.Call (.Name "set" p1) [a] [] p2) X.env) (λu s2=>∃(S:aj)(H1:Hp),u=.ref S/\Inv X pins σ H1 s2/\j0 H H1/\s2.heap.SetOf (fe X.prog X.w) S (λk'=>(ddI ns).any (· == k')) (ddI ns).length) X.xe s:=by
  refine aK (Jg I hg2 hm2 boot_set ?_);refine callWith_type1 (thn ((jc (es:=[]) peS jt hs).to (σ:=σ) (H:=H) (Q:=λvs H1=>∃(l:aj)(xs:List V),vs=[.ref l]/\j0 H H1/\SqL X.K H1 l xs/\j4 X.K H1 (ns.map D.int) xs) (ha σ H _ R λv H1 g ⟨l,xs,e,sq,en⟩=>⟨l,xs,by rw[e],g,sq,en⟩) p2 pins s I) λus s1 ⟨vs,H1,I1,r,l,xs,ev,g,sq,en⟩=>?_) hs rfl;subst ev;obtain⟨u,eu,r1⟩:=vals1 r;subst eu;cases(show u=aI l from r1);obtain⟨its,rv,pl,_⟩:=I1.list sq;rw[qw en]at rv;have hlen:its.toArray.size=ns.length:=by rw[X7,<-rv.length,xf]
  refine call_set_list (ns:=ns) (I1.ok.hd hc) pl.isList ?_ (by rw[hlen];show ns.length+1<4096;exact room) λh' tk full old=>?_
  .exact ints_of ns its rv
  .rw[hlen]at full;exact⟨_,H1,rfl,I1.kept (t':=tk) λb o e=>old b o (xn e) e,g,full⟩
 refine aK (Jg I hg hm dj ?_);refine cJ (by rw[hs2];rfl) (cW ?_);show aw _ _ (iw ((a9,aC _ X.env)::aP pos [])) _ _ s;refine df (thn inner λu s2 h2=>dF ?_);obtain⟨S,H1,rfl,I2,g,⟨o,es,ep,t,ho,hex,hd,hel,hmem,hb,hf,hn⟩⟩:=h2;refine call_len_set ho hex hd hf ?_ ?_
 .have:es.size<4096:=hb;omega
 .rw[hn];exact⟨.int _,H1,I2.tok _,⟨_,rfl⟩,q _ H1 g rfl⟩
def DO.callT {S:List D->List D->Prop} {x:aq} {e:au} {es:List au} {ds l:List D} (c:Cal X x (spF X.K S)) (ha:DTA X ρ (e::es) ds) (hS:S ds l) (hn:za l=ah) (hg:Gl X x) (hdb:(x==k9a)=a9)
  (he:af (e::es) X.env=(a9,aC e X.env)::af es X.env) (hpl:(aP pos (af es X.env)).any (·.1)=a9):DO X ρ (.Call (.Name x p) (e::es) [] pos) l:=λσ H Q R q=>by
 obtain⟨k,f,fd,ps,F,hr,hm,hk,hb,_⟩:=c.ex;refine(Yy F (hr.mono (Pn _)) hg hm hk hb .nil Oe paS hdb he hpl).to (ha σ H _ R λvs H1 g1 e1=>?_);show spF X.K S (vs++[]) H1 Q E0;rw[Xn];exact⟨[],ds,l,R.tb.mono g1,(λa h=>nomatch h),by rw[qp];exact e1,hS,λa xs H2 g2 n m z=>q a xs H2 (g1.trans g2) (g1.free n) m ((z.mono jk).hide (λc hc=>by
  rcases xr.mp hc with z|z
  .rw[z];exact .inl ⟨xs,m⟩
  .exact .inl ((R.grow (g1.trans g2)).owned c z)) hn)⟩
end
section
variable{X:Cx}{ρ:Rho}{a:au}{p p1 p2 p3 pos:aO}{y:aq}{i n:Int}
def j01:Qg X (.type "int") (λxs H Q=>∃y n,xs=[.str y]/\gK y=a8 n/\y.length<=640/\Q (.int n) H):=by intro pins s σ H xs us Q I r h;obtain⟨y,n,rfl,hn,hl,q⟩:=h;obtain⟨u,rfl,t,rfl⟩:=vals1 r;exact PySem.W.KIN.call_text hn hl ⟨.int n,H,I.tok _,⟨_,rfl⟩,q⟩
def DE.intS (ha:DT X ρ a (.str y)) (hn:gK y=a8 n) (hl:y.length<=640) (hm:X.mg "int" = ae) (hg:Gl X "int") (hs:af [a] X.env=[(a9,aC a X.env)]):DE X ρ (.Call (.Name "int" p) [a] [] pos) (.int n):=λσ H Q R q =>(Us j01 hg hm boot_int (jc peS jt hs) (by decide) (by decide) hs).to (ha σ H _ R λv H1 g1 e1=>⟨y,n,by rw[show v=.str y from e1],hn,hl,q _ H1 g1 rfl⟩)
end
section
variable{X:Cx}{ρ:Rho}{e:au}{pos:aO}
noncomputable def tupS(is:zo):aq:=(PyData.tuple (is.map eA)).shown
theorem Df{K:k96}{H:Hp}{h:aE}:∀{is:zo}{xs:List V}{us:List ai},j4 K H (is.map D.int) xs->Vals xs us->ReadsAll h us (is.map eA) []
 |[],xs,us,en,rv=>by have:xs=[]:=en;subst this;cases rv;exact .nil
 |i::is,xs,us,⟨x,r,e,ex,en⟩,rv=>by
  subst e;have ex:x=.int i:=ex;subst ex;cases rv with
  |cons ru rr =>obtain⟨t,rfl⟩:=ru;exact .cons (as:=[]) (.int i t) (Df en rr)
theorem M6:∀{is:zo},(∀i∈is,i.natAbs.log2<1920)->fi (is.map eA)=ah
 |[],_=>by simp[fi]
 |i::is,h=>by simp[fi,jS,h i (xq ..),M6 λj hj=>h j (xg _ hj)]
theorem Ms:∀{is:zo},g9 (is.map eA)=0/\fE (is.map eA)=a9
 |[]=>by simp[g9,fE]
 |i::is=>by have:=Ms (is:=is);simp[g9,fE,kK,kc,this.1,this.2]
def DE.fmtT{is:zo}(hg:X.A.guards=a8 [])(hu:X.A.units+100<aQ)(ha:DT X ρ e (.tup (is.map D.int)))(hi:∀i∈is,i.natAbs.log2<1920)(hz:(tupS is).length<=av):DE X ρ (.FormattedValue e (-1) ae pos) (.str (tupS is)):=λσ H Q R q pins s I=>by
 refine fV (thn (ha σ H (λv H1=>Enc X.K H1 (.tup (is.map D.int)) v/\j0 H H1) R (λv H1 g e=>⟨e,g⟩) pins s I) λu s1 ⟨v,H1,I1,r,ev,g⟩=>?_);obtain⟨a,xs,rfl,sq,en⟩:=ev;cases(show u=aI a from r);obtain⟨its,rv,⟨o,ho,hoc,m,hod⟩,_⟩:=I1.tuple sq;have rd:Reads s1.heap (.ref a) (.tuple (is.map eA)) []:=.tuple ho hoc hod (by simpa using Df (h:=s1.heap) en rv);exact formatField_of_reads rd (by rw[jS];exact M6 hi) (λz=>by rw[kc,Ms.2]at z;cases z) hg (by rw[kK,Ms.1];omega) (λ_ _ z=>z)
  (λh' w tk hk=>⟨.str (tupS is),H1,I1.kept hk,⟨_,rfl⟩,q _ H1 g rfl⟩) hz
end
def qe(K:k96)(a:aj)(ks:List zo)(ns:zo)(F H:Hp):Prop:=∃(xs:List (zo×aj×ai)) (ep:Nat),H=upd F a (.dI xs ep)/\F a=ae/\ks=(xs.map λz=>z.1)/\(∀z∈xs,SqT K F z.2.1 (z.1.map V.int))/\Vals (ns.map V.int) (xs.map λz=>z.2.2)
def spD(K:k96)(S:List zo->zo->List D->D->List zo->zo->Prop):Sp:=λvs H Q _=>∃(a:aj)(F:Hp)(ks:List zo) (ns:zo) (ds:List D) (d:D) (ks':List zo) (ns':zo) (ws:List V),
 vs=.ref a::ws/\TabOk K F/\qe K a ks ns F H/\j4 K F ds ws/\S ks ns ds d ks' ns'/\∀v F' H',j0 F F'->qe K a ks' ns' F' H'->Enc K F' d v->Q v H'
structure CalD(X:Cx)(x:aq)(S:List zo->zo->List D->D->List zo->zo->Prop):Prop where
 ex:∃(k:Nat)(f:aj)(fd:aL)(ps:List aq),FnOk X.prog X.w X.K X.mg X.base CX0 k f fd ps (spD X.K S)/\Room (k+1) X.A/\X.mg x=a8 (.ref f)/\W.keepIn X.K (.ref f)=ah/\Binds X.K fd ps []
def DFx(X:Cx)(ρ:Rho)(x:Nat)(e:au)(ks:List zo)(ns:zo)(d:D)(ks':List zo)(ns':zo):Prop:=∀σ F H a Q,Rep X.K ρ σ F->σ[x]?=a8 (a8 (.ref a))->qe X.K a ks ns F H ->
 (∀v F' H',j0 F F'->qe X.K a ks' ns' F' H'->Enc X.K F' d v->Q v H')->J8 X e σ H Q
section
variable{X:Cx}{ρ:Rho}{e c:au}{es:List au}{d:D}{ds:List D}{σ:St}{F H:Hp}{a:aj}{ks ks':List zo}{ns ns':zo}{x:Nat}{nx g:aq}{p p1 pos:aO}
def j44{A:List aj}{Q Q':List V->Hp->Prop}(hA:∀a∈A,Hd (H a))(h:U6 X es σ (del H A) Q')(hq:∀v F,Q' v F->(∀a∈A,F a=ae)->Q v (mrg A H F)):U6 X es σ H Q :=
 λpos pins s I=>thn (h pos _ s (I.hide hA)) λv s' ⟨x,F,I',r,q⟩=>let ⟨n,I2⟩:=I.unhide hA I';⟨x,_,I2,r,hq x F q n⟩
def qe.hd(h:qe X.K a ks ns F H):∀b∈[a],Hd (H b):=λb hb=>by obtain⟨xs,ep,e,_⟩:=h;exact .inr ⟨xs,ep,by rw[xm.mp hb,e];exact j8⟩
def qe.del(h:qe X.K a ks ns F H):L2.del H [a]=F:=by obtain⟨xs,ep,e,n,_⟩:=h;rw[e];exact Nv n
def qe.mrg{F':Hp}(h:qe X.K a ks ns F H)(g:j0 F F')(n:F' a=ae):qe X.K a ks ns F' (L2.mrg [a] H F'):=by obtain⟨xs,ep,e,_,ek,kt,rv⟩:=h;exact⟨xs,ep,by rw[e];exact Lj j8,n,ek,λz hz=>g.seqT (kt z hz),rv⟩
def qe.same(h:qe X.K a ks ns F H):j0 F H:=by obtain⟨xs,ep,e,n,_⟩:=h;rw[e];exact j6 n
def K3{Q:VK}(R:Rep X.K ρ σ F)(h:qe X.K a ks ns F H)(he:DE X ρ e d)(q:∀v F' H',j0 F F'->qe X.K a ks ns F' H'->Enc X.K (L2.del F' (owns ρ)) d v->Q v H'):J8 X e σ H Q :=
 Fy (A:=[a]) (Q':=λv F'=>j0 F F'/\Enc X.K (L2.del F' (owns ρ)) d v) h.hd (by rw[h.del];exact he σ F _ R λv F' g e=>⟨g,e⟩) λv F' ⟨g,e⟩ n=>q v F' _ g (h.mrg g (n a (by simp))) e
def jda{b:Bool}{Q:Bool->Hp->Prop}(R:Rep X.K ρ σ F)(h:qe X.K a ks ns F H)(hc:DB X ρ c b)(q:∀F' H',j0 F F'->qe X.K a ks ns F' H'->Q b H'):Cy X c σ H Q :=
 j42 (A:=[a]) (Q':=λv F'=>j0 F F'/\v=b) h.hd (by rw[h.del];exact hc σ F _ R λF' g=>⟨g,rfl⟩) λv F' ⟨g,e⟩ n=>by subst e;exact q F' _ g (h.mrg g (n a (by simp)))
def jdb{Q:List V->Hp->Prop}(R:Rep X.K ρ σ F)(h:qe X.K a ks ns F H)(he:DA X ρ es ds)(q:∀vs F' H',j0 F F'->qe X.K a ks ns F' H'->j4 X.K (L2.del F' (owns ρ)) ds vs->Q vs H'):U6 X es σ H Q :=
 j44 (A:=[a]) (Q':=λv F'=>j0 F F'/\j4 X.K (L2.del F' (owns ρ)) ds v) h.hd (by rw[h.del];exact he σ F _ R λv F' g e=>⟨g,e⟩) λv F' ⟨g,e⟩ n=>q v F' _ g (h.mrg g (n a (by simp))) e
def DFx.call{S:List zo->zo->List D->D->List zo->zo->Prop}(cl:CalD X g S)(ha:DA X ρ es ds)(hS:S ks ns ds d ks' ns')(ho:owns ρ=[])
  (hN:X.N[x]?=a8 nx) (hv:Vis X.env.scope nx) (hd:(nx==k9a)=a9) (hcd:(nx==k9b)=a9) (hg:Gl X g) (hdb:(g==k9a)=a9)
  (hs:af (.Name nx p1::es) X.env=(a9,aC (.Name nx p1) X.env)::af es X.env) (hpl:(aP pos (af es X.env)).any (·.1)=a9):DFx X ρ x (.Call (.Name g p) (.Name nx p1::es) [] pos) ks ns d ks' ns':=λσ F H a Q R hσ h q=>by
 obtain⟨n,fa,fd,ps,FN,hr,hm,hkp,hb⟩:=cl.ex;refine(Yy FN (hr.mono (Pn _)) hg hm hkp hb .nil Oe (jc (Jc hN hv hd hcd) paS hs) hdb hs hpl).to ?_;refine⟨_,hσ,jdb R h ha λvs F1 H1 g1 h1 e1=>?_⟩;rw[ho,qp]at e1;exact⟨a,F1,ks,ns,ds,d,ks',ns',vs,by rw[Xn],R.tb.mono g1,h1,e1,hS,λv F' H' g2 h2 ev=>q v F' H' (g1.trans g2) h2 ev⟩
end
section
variable{X:Cx}{pins:k98}{σ:St}{H2 F2:Hp}{s2:ao}{ρ:Rho}{elt iter:au}{scope:b8}{pos py:aO}{ds rs:List D}{x j:Nat}{y:aq}{a:aj}{ks:List zo}{ns:zo}
def jdt{J:It}{fp:List aj}{it:aj}{tn:Nat->aE->Prop}(I2:Inv X pins σ H2 s2)(R2:Rep X.K ρ σ F2)(ho:owns ρ=[])(hxs:σ[x]?=a8 (a8 (.ref a)))(hxj:x≠j)(h2:qe X.K a ks ns F2 H2)(T:Turn X.prog X.w X.K (.Name y py) J fp it tn)(st2:tn 0 s2.heap)(f2:∀b∈fp,Jk X pins H2 b)
  (ok:Vc X.K F2 J ds) (hc:X.calm=ah) (hkind:scope.kind=.function) (hok:v6 scope X.env X.N [j]=ah) (hj:ρ[j]?=a8 .un) (hsz:ds.length<=av)
  (hG:∀C s H fp pn,PG (cCx X scope C s H fp pn) (.Name y py) (j07 j))
  (W:Nat->List zo->zo->Prop) (h0:W 0 ks ns)
  (hb:∀C s H fp pn i d ks ns,ds[i]?=a8 d->W i ks ns->∃r ks' ns',DFx (cCx X scope C s H fp pn) (ρ.set j (.val d)) x elt ks ns r ks' ns'/\rs[i]?=a8 r/\W (i+1) ks' ns')
  {E:k97} {RR:ai->aj->eL->ao->Prop}
  (hRR:∀D C xs F' H' ks' ns' s' m,Inv X pins σ H' s'->j0 F2 F'->F2 D=ae->F' D=a8 (.lst xs)->j4 X.K (del F' [D]) (rs.take ds.length) xs->qe X.K a ks' ns' F' H'->W ds.length ks' ns'->s'.heap.Ns C m->Loose X pins H' C->RR (.ref D) C (.ok .next) s') :
  aw (aB X.prog X.w) X.A (jX []) (λacc s₃=>aw (aB X.prog X.w) X.A (dX scope X.env.globals (zb X.env scope.names []) [] X.env.qual ae .none (a8 X.env)) (λcenv s₄ =>
   bL (aB X.prog X.w) X.A (.compStart (.ListComp elt [⟨.Name y py,iter,[],0⟩] scope pos) 0 (.ref it) acc { cenv with scope:=jW scope X.env }) (RR acc cenv.locals) s₄) E s₃) E s2:=by
 refine thn (j1t (RR:=RR) I2 T st2 f2 hkind hok λC Dd h₁ okc I0 hDd hDlt hD0 old=>?_) λacc s₃ h=>thn h λcenv s₄ h=>h.2;have hDlt:@LT.lt Nat _ Dd C:=hDlt;have pinlt:∀p∈X.pn++pins,p.1<Dd:=λp hp=>by rw[<-hDd];exact xn (I2.pin p hp).1
 have celllt:∀y c,X.env.cells.lookup y=a8 c->c<Dd:=λy c h=>by obtain⟨v,o,e,_⟩:=I2.cell y c h;rw[<-hDd];exact xn e
 have loclt:X.env.locals<Dd:=by rw[<-hDd];exact I2.lt
 have fplt:∀b∈fp,b<Dd:=λb hb=>by obtain⟨o,e,_⟩:=T.obj _ _ st2 b hb;rw[<-hDd];exact xn e
 have fpok:∀{H':Hp},(∀b∈fp,H' b=ae)->∀b∈fp,Jk (cCx X scope C s2 H2 fp (X.pn++pins)) [] H' b:=λ{H'} hn b hb =>⟨hn b hb,(okc.exf b hb).1,okc.exfs b hb,.inl hb,(okc.exf b hb).2,λp hp=>by rw[Xn]at hp;exact(f2 b hb).2.2.2.2.2 p hp⟩
 have hxc:x∉[j]:=λz=>hxj (xm.mp z);have R0:Rep X.K ρ (mask [j] σ) F2:=R2.weaken (W0 _ _) λj' hj'=>Ni λz=>hj' (by rw[xm.mp z];exact hj);have e0:del (upd H2 Dd (.lst [])) [Dd]=H2:=by
  rw[Vq (xm.mpr rfl)]
  funext b
  by_cases z:b∈[Dd]
  .rw[qj z,xm.mp z,hD0]
  .exact j7 z
 have haD:a≠Dd:=λz=>by obtain⟨xs,ep,e,_⟩:=id h2;rw[<-z,e,j8]at hD0;cases hD0
 have F2D:F2 Dd=ae:=by obtain⟨xs,ep,e,_⟩:=id h2;rw[e,jd (bq haD)]at hD0;exact hD0
 have loop:∀s₃:ao,s₃={ s2 with heap:=h₁ } ->
   bL (aB X.prog X.w) X.A (.compLoop (.ListComp elt [⟨.Name y py,iter,[],0⟩] scope pos) 0 (.ref it) (.ref Dd) (kz scope (aT (C+1) scope.names (zb X.env scope.names [])) C X.env)) (RR (.ref Dd) C) s₃:=by
  rintro s₃ rfl;refine O1 (λn s=>∃i σ' H' F' ys ks' ns',Inv (cCx X scope C s2 H2 fp (X.pn++pins)) [] σ' H' s/\tn i s.heap/\(∀b∈fp,H' b=ae)/\i<=ds.length/\n=ds.length-i/\Rep X.K ρ σ' F'/\σ'[x]?=a8 (a8 (.ref a))/\qe X.K a ks' ns' F' (del H' [Dd])/\j0 F2 F'/\H' Dd=a8 (.lst ys) /\
   j4 X.K F' (rs.take i) ys/\ys.length=i/\W i ks' ns') ?_ ds.length
   ⟨0,mask [j] σ,upd H2 Dd (.lst []),F2,[],ks,ns,I0,T.keep _ _ _ st2 (λb _ o e=>old b o e),λb hb=>by rw[jd (Xa (fplt b hb))];exact(f2 b hb).1,Pq _,rfl,R0,by rw[Ni hxc];exact hxs,by rw[e0];exact h2,j0.refl _,j8,rfl,rfl,h0⟩
  rintro n s3 ⟨i,σ3,H3,F3,ys,ks3,ns3,I3,st3,fr3,hle,rfl,R3,hx3,h3,g3,m3,en3,hyl,w3⟩;have e3:del H3 [Dd,a]=F3:=by rw[show del H3 [Dd,a]=del (del H3 [Dd]) [a]from by rw[Ju];rfl];exact h3.del
  have a3:∃xs ep,H3 a=a8 (.dI xs ep)/\ks3=(xs.map λz=>z.1)/\(∀z∈xs,SqT X.K F3 z.2.1 (z.1.map V.int))/\Vals (ns3.map V.int) (xs.map λz=>z.2.2):=by
   obtain⟨xs,ep,e,_,q1,q2,q3⟩:=id h3;refine⟨xs,ep,?_,q1,q2,q3⟩;have:del H3 [Dd] a=a8 (.dI xs ep):=by rw[e];exact j8
   exact(of_del this).2
  obtain⟨xs3,ep3,ea3,q1,q2,q3⟩:=a3;obtain⟨go,stop,yld⟩:=ok i H3 [Dd,a] (by rw[e3];exact g3) λb hb=>by
   rcases xr.mp hb with e|hb
   .rw[e,m3];simp
   .rw[xm.mp hb,ea3];simp
  by_cases hlt:i<ds.length
  .refine thn (T.item (cCx X scope C s2 H2 fp (X.pn++pins)) rfl rfl rfl hc i [] s3 σ3 H3 (λ_ _=>False) I3 (fpok fr3) st3 (go hlt)) λr s4 ⟨u,hr,h4⟩=>?_;subst hr;refine thn h4 λ_ s5 ⟨v0,H5,I5,r5,y5,st5,fr5⟩=>?_;obtain⟨g5,en5⟩:=yld v0 H5 y5;have hd:ds[i]?=a8 ds[i]:=kh hlt;obtain⟨r0,ks8,ns8,hE,hr0,w8⟩:=hb C s2 H2 fp (X.pn++pins) i ds[i] ks3 ns3 hd w3;have m5:H5 Dd=a8 (.lst ys):=g5 _ _ m3;have hA:∀b∈[Dd],Hd (H5 b):=λb hb=>.inl ⟨ys,by rw[xm.mp hb];exact m5⟩;have I5p:=I5.pinned (fpok fr5) (T.obj _ _ st5);have I5h:=I5p.hide hA;have s35:j0 F3 (del H5 [Dd,a]):=by rw[<-e3];exact je g5
   have na5:del H5 [Dd,a] a=ae:=qj (by simp);have h5:qe X.K a ks3 ns3 (del H5 [Dd,a]) (del H5 [Dd]):=by
    refine⟨xs3,ep3,?_,na5,q1,λz hz=>s35.seqT (q2 z hz),q3⟩;have:del H5 [Dd] a=a8 (.dI xs3 ep3):=by rw[j7 (by simpa using haD)];exact g5 _ _ ea3
    rw[show del H5 [Dd,a]=del (del H5 [Dd]) [a]from by rw[Ju];rfl];exact O9 this
   have R5:Rep X.K ρ σ3 (del H5 [Dd,a]):=R3.grow s35;have en5':Enc X.K (del (del H5 [Dd,a]) (owns ρ)) ds[i] v0:=by rw[ho,qp];exact en5 _ hd
   refine thn (hG C s2 H2 fp (X.pn++pins) _ s5 σ3 (del H5 [Dd]) v0 u (λσ6 F6=>σ6=σ3.set j (a8 v0)/\F6=del H5 [Dd]) I5h r5 ⟨rfl,rfl⟩) λ_ s6 ⟨σ6,F6,I6,e6,e6'⟩=>?_;subst e6 e6';have R6:Rep X.K (ρ.set j (.val ds[i])) (σ3.set j (a8 v0)) (del H5 [Dd,a]):=R5.set_val en5';have hx6:(σ3.set j (a8 v0))[x]?=a8 (a8 (.ref a)):=by rw[jz (bq hxj)];exact hx3
   rw[gW];refine ar ?_;rw[if_pos rfl];have ig:∀{F:Hp}{s':ao},Inv (cCx X scope C s2 H2 fp (X.pn++pins)) ([]++Y8 fp s5.heap) (σ3.set j (a8 v0)) F s'->Inv (cCx X scope C s2 H2 fp (X.pn++pins)) [] (σ3.set j (a8 v0)) F s'/\tn (i+1) s'.heap/\∀b∈fp,F b=ae:=λ{F s'} I=>by refine⟨I.unpinned,T.keep _ _ _ st5 λb hb o e=>(I.pin (b,o) (Xc _ (Xc _ (Je hb e)))).1,λb hb=>?_⟩;obtain⟨o,e,d⟩:=T.obj _ _ st5 b hb;exact(I.pin (b,o) (Xc _ (Xc _ (Je hb e)))).2.1
   refine thn (hE (σ3.set j (a8 v0)) (del H5 [Dd,a]) (del H5 [Dd]) a (λv H8=>∃F8,j0 (del H5 [Dd,a]) F8/\qe X.K a ks8 ns8 F8 H8/\Enc X.K F8 r0 v) R6 hx6 h5 (λv F8 H8 g8 h8 e8=>⟨F8,g8,h8,e8⟩) _ s6 I6) λy8 s8 ⟨v,H8,I8,r8,F8,g8,h8,e8⟩=>?_;obtain⟨hF,I8'⟩:=I5p.unhide hA I8;have hlen:ys.length<av:=by omega
   refine thn (Ml _ s8 (σ3.set j (a8 v0)) (mrg [Dd] H5 H8) (.ref Dd) [v] (.ref Dd) [y8] (λ_ H9=>H9=upd (mrg [Dd] H5 H8) Dd (.lst (ys++[v]))) I8' rfl (.cons r8 .nil)
    ⟨Dd,ys,v,rfl,rfl,by rw[J4 (xm.mpr rfl)];exact m5,hlen,rfl⟩) λ_ s9 ⟨_,H9,I9,_,e9⟩=>?_
   subst e9;obtain⟨I10,st10,fr10⟩:=ig I9;have ed:del (upd (mrg [Dd] H5 H8) Dd (.lst (ys++[v]))) [Dd]=H8:=by rw[Vq (xm.mpr rfl),Vr hF]
   have R8:Rep X.K ρ (σ3.set j (a8 v0)) F8:=Wk.set (d:=ds[i]) hj _ _ _ (R6.grow g8);refine⟨ds.length-(i+1),by omega,i+1,σ3.set j (a8 v0),_,F8,ys++[v],ks8,ns8,I10,st10,fr10,hlt,rfl,R8,hx6,by rw[ed];exact h8,g3.trans (s35.trans g8),j8,?_,by simp[hyl],w8⟩;rw[show rs.take (i+1)=rs.take i++[r0]from by rw[su,hr0];rfl];exact(en3.mono (s35.trans g8)).append (.one e8)
  .have hi:i=ds.length:=by omega
   subst hi;refine thn (T.done (cCx X scope C s2 H2 fp (X.pn++pins)) rfl rfl rfl hc ds.length [] s3 σ3 H3 (λ_ _=>False) I3 (fpok fr3) st3 (stop (X3 _))) λr s4 ⟨hr,I4⟩=>?_;subst hr;obtain⟨m,hm,_⟩:=I4.loc;have e4:del (del H3 [a]) [Dd]=F3:=by
    rw[<-e3,Ju]
    funext b
    unfold del;by_cases z1:b=Dd<;>by_cases z2:b=a<;>simp[z1,z2]
   have s4':j0 F3 (del H3 [a]):=by rw[<-e4];exact jk
   refine hRR Dd C ys (del H3 [a]) H3 ks3 ns3 s4 m ?_ (g3.trans s4') F2D (by rw[j7 (by simpa using bq haD)];exact m3) (by rw[e4];exact en3) ⟨xs3,ep3,O9 ea3,qj (by simp),q1,λz hz=>s4'.seqT (q2 z hz),q3⟩ w3 hm ⟨I4.free,Pb (pq loclt hDlt),?_,λx c h=>Xa (pq (celllt x c h) hDlt),λp hp=>Xa (pq (pinlt p hp) hDlt)⟩
   .exact I2.call' (ch:=fp) I4.os I4.base I4.hok I4.bare λb hb=>⟨(f2 b hb).2.2.2.1,(f2 b hb).2.1,(f2 b hb).2.2.2.2.1,(f2 b hb).2.2.2.2.2⟩
   .have:=I2.sz;omega
 exact loop _ rfl
end
def DFl(X:Cx)(ρ:Rho)(x:Nat)(e:au)(ks:List zo)(ns:zo)(rs:List D)(ks':List zo)(ns':zo):Prop:=∀σ F H a Q,Rep X.K ρ σ F->σ[x]?=a8 (a8 (.ref a))->qe X.K a ks ns F H ->
 (∀D xs F' H',j0 F F'->F' D=a8 (.lst xs)->j4 X.K F' rs xs->qe X.K a ks' ns' F' H'->Q (.ref D) H')->J8 X e σ H Q
section
variable{X:Cx}{ρ:Rho}{e e1 e2 c elt iter:au}{es:List au}{d d1 d2:D}{ds rs:List D}{σ:St}{F H:Hp}{a:aj}{ks ks':List zo}{ns ns':zo}{x j:Nat}{nx g y:aq}{p p1 pos py:aO}{scope:b8}
def qe.put{K:k96}{b:aj}{o:HO}(h:qe K a ks ns F H)(n:H b=ae):qe K a ks ns (upd F b o) (upd H b o):=by
 obtain⟨xs,ep,e,na,ek,kt,rv⟩:=h;subst e;have nb:b≠a:=λz=>by rw[z,j8]at n;cases n
 have fb:F b=ae:=by rw[jd nb]at n;exact n
 refine⟨xs,ep,?_,by rw[jd (bq nb)];exact na,ek,λz hz=>(j6 fb).seqT (kt z hz),rv⟩
 funext z
 by_cases z1:z=b
 .subst z1;rw[j8,jd nb,j8]
 .rw[jd z1];by_cases z2:z=a
  .subst z2;rw[j8,j8]
  .rw[jd z2,jd z2,jd z1]
def qe.free{K:k96}{b:aj}(h:qe K a ks ns F H)(n:H b=ae):F b=ae:=by
 obtain⟨xs,ep,e,na,_⟩:=h;subst e;have nb:b≠a:=λz=>by rw[z,j8]at n;cases n
 rw[jd nb]at n;exact n
def DFx.tup2{n:Nat}(h1:DFx X ρ x e1 ks ns d1 ks' ns')(h2:DE X ρ e2 d2)(ho:owns ρ=[])(hs1:af [e1,e2] X.env=(a9,aC e1 X.env)::af [e2] X.env)(hs2:af [e2] X.env=(a9,aC e2 X.env)::af [] X.env):DFx X ρ x (.Tuple [e1,e2] n pos) ks ns (.tup [d1,d2]) ks' ns':=λσ F H a Q R hx h q=>by
 refine(j65 (jc peS (jc peS jt hs2) hs1)).to ?_;refine h1 σ F H a _ R hx h λv1 F1 H1 g1 k1 q1=>K3 (R.grow g1) k1 h2 λv2 F2 H2 g2 k2 q2=>⟨by show 2<=av;decide,λb hb=>?_⟩
 rw[ho,qp]at q2;have fb:=k2.free hb;have up:j0 F2 (upd F2 b (.tup [v1,v2])):=j6 fb;exact q _ _ _ (g1.trans (g2.trans up)) (k2.put hb) ⟨b,[v1,v2],rfl,.inl (.inl j8),_,_,rfl,(q1.mono g2).mono up,_,_,rfl,q2.mono up,rfl⟩
def DFx.ite{b:Bool}(hc:DB X ρ c b)(h1:b=ah->DE X ρ e1 d/\ks'=ks/\ns'=ns)(h2:b=a9->DFx X ρ x e2 ks ns d ks' ns')(ho:owns ρ=[]):DFx X ρ x (.IfExp c e1 e2 pos) ks ns d ks' ns':=λσ F H a Q R hx h q=>by
 refine(j0y ptS peS peS).to (jda R h hc λF1 H1 g1 k1=>?_);cases b with
 |true =>obtain⟨z,e1,e2⟩:=h1 rfl;subst e1 e2;rw[if_pos rfl];exact K3 (R.grow g1) k1 z λv F2 H2 g2 k2 q2=>q v F2 H2 (g1.trans g2) k2 (by rw[ho,qp]at q2;exact q2)
 |false =>rw[if_neg xj];exact h2 rfl σ F1 H1 a Q (R.grow g1) hx k1 λv F2 H2 g2=>q v F2 H2 (g1.trans g2)
def DFx.addC{i k:Int}{n:Nat}(h2:DFx X ρ x e2 ks ns (.int k) ks' ns'):DFx X ρ x (.BinOp (.Constant (.int i) n p) .Add e2 pos) ks ns (.int (i+k)) ks' ns':=λσ F H a Q R hx h q=>by refine(jfm j0x peS).to ?_;exact h2 σ F H a _ R hx h λv F2 H2 g2 k2 q2=>⟨i,k,rfl,q2,q _ F2 H2 g2 k2 rfl⟩
def DFx.ixC{i:Int}{n:Nat}(h1:DFx X ρ x e1 ks ns (.tup ds) ks' ns')(h:L2.atI ds i=a8 d)(hs:Jv (.Constant (.int i) n p)):DFx X ρ x (.Subscript e1 (.Constant (.int i) n p) pos) ks ns d ks' ns':=λσ F H a Q R hx h0 q =>
 (Ur Mq peS j0x hs).to (h1 σ F H a _ R hx h0 λv F1 H1 g1 k1 ⟨l,xs,e,sq,en⟩=>by
  obtain⟨y,hy,ey⟩:=en.atI h
  exact⟨l,xs,i,y,e,rfl,k1.same.seqT sq,hy,q y F1 H1 g1 k1 ey⟩)
def DFl.comp(hi:DI X ρ (.Name y py) iter ds)(ho:owns ρ=[])(hxj:x≠j)(hj:ρ[j]?=a8 .un)(hsz:ds.length<=av)(hl:rs.length=ds.length)
  (hG:∀C s H fp pn,PG (cCx X scope C s H fp pn) (.Name y py) (j07 j)) (W:Nat->List zo->zo->Prop) (h0:W 0 ks ns) (hW:∀ks2 ns2,W ds.length ks2 ns2->ks2=ks'/\ns2=ns')
  (hb:∀C s H fp pn i d ks ns,ds[i]?=a8 d->W i ks ns->∃r ks' ns',DFx (cCx X scope C s H fp pn) (ρ.set j (.val d)) x elt ks ns r ks' ns'/\rs[i]?=a8 r/\W (i+1) ks' ns')
  (hc:X.calm=ah) (hkind:scope.kind=.function) (hok:v6 scope X.env X.N [j]=ah) (hs:∀x,aG iter X.env x=pure x):DFl X ρ x (.ListComp elt [⟨.Name y py,iter,[],0⟩] scope pos) ks ns rs ks' ns':=λσ F H a Q R hx h q pins s I=>by
 rw[nq];have hi':La X (.Name y py) iter σ H λJ H'=>∃F',j0 F F'/\Vc X.K F' J ds/\qe X.K a ks ns F' H':=Fx (A:=[a]) (R':=λJ F'=>j0 F F'/\Vc X.K F' J ds) h.hd (by rw[h.del];exact hi σ F _ R λJ F' g ok=>⟨g,by rw[ho,qp]at ok;exact ok⟩) λJ F' ⟨g,ok⟩ n=>⟨F',g,ok,h.mrg g (n a (by simp))⟩
 refine eK (use:=ae) rfl hs (Ru (W6 hok)) hkind (Ug hok) (thn (hi' pins s I) λv s1 h1=>thn h1 λitv s2 h2=>?_);obtain⟨it,fp,tn,J,H2,e,I2,T,st2,f2,F2,g2,ok,k2⟩:=h2;subst e;refine jdt (RR:=λacc C=>mY (aB X.prog X.w) X.A X.xe ae (EP X pins σ Q) acc C) (rs:=rs) I2 (R.grow g2) ho hx hxj k2 T st2 f2 ok hc hkind hok hj hsz hG W h0 hb ?_;intro D C xs F' H' ks2 ns2 s' m I' gg n m' en k' w hm L;obtain⟨e1,e2⟩:=hW _ _ w;subst e1 e2;rw[<-hl,bZ]at en;exact⟨m,hm,λh' sb=>⟨.ref D,H',I'.loose L sb,rfl,q D xs F' H' (g2.trans gg) m' (en.mono jk) k'⟩⟩
def DFx.maxL {ms:zo} (ha:DFl X ρ x e ks ns (ms.map D.int) ks' ns') (hn:ms≠[]) (hm:X.mg "max" = ae) (hc:X.calm=ah) (hg:Gl X "max") (hs:af [e] X.env=[(a9,aC e X.env)]):DFx X ρ x (.Call (.Name "max" p) [e] [] pos) ks ns (.int (qz ms)) ks' ns':=λσ F H a Q R hx h q =>(J3 (Ef hc) hg hm ng (jc peS jt hs) (by decide) (by decide) hs).to (ha σ F H a _ R hx h λD xs F1 H1 g1 m en k1=>⟨D,ms,rfl,by rw[qw en]at m;exact .inl (.inl (k1.same _ _ m)),hn,q _ F1 H1 g1 k1 rfl⟩)
def DFx.minT {l:List zo} {k:zo} (hu:X.A.units+100<aQ) (hcalm:X.calm=ah) (hm:X.mg "min" = ae) (hg:Gl X "min") (ha:DFl X ρ x e ks ns (l.map λk=>D.tup (k.map D.int)) ks' ns') (hk:l[aU (zy l) (l.length-1)]?=a8 k) (hs:af [e] X.env=[(a9,aC e X.env)]) :
  DFx X ρ x (.Call (.Name "min" p) [e] [] pos) ks ns (.tup (k.map D.int)) ks' ns':=λσ F H a Q R hx h q pins s I=>by
 refine aK (Jg I hg hm iM ?_ (by decide) (by decide));refine callWith_builtin1 (thn ((jc (es:=[]) peS jt hs).to (σ:=σ) (H:=H) (Q:=λvs H1=>∃b0 xs F1,vs=[.ref b0]/\j0 F F1/\F1 b0=a8 (.lst xs)/\j4 X.K F1 (l.map λk=>D.tup (k.map D.int)) xs/\qe X.K a ks' ns' F1 H1) (ha σ F H a _ R hx h λD xs F1 H1 g1 m en k1=>⟨D,xs,F1,rfl,g1,m,en,k1⟩) pos pins s I) λus s1 ⟨vs,H1,I1,r1,b,xs,F1,ev,g1,m,en,k1⟩=>?_) hs rfl;subst ev;obtain⟨u,eu,ru⟩:=r1.one;subst eu;cases(show u=aI b from ru);have sq:SqL X.K H1 b xs:=.inl (.inl (k1.same _ _ m));have hlen:xs.length=l.length:=by rw[en.length,xf]
 have hin:=(X6.mp hk).1;have item:∀{i:Nat}{x:V},xs[i]?=a8 x->∃t,x=.ref t/\SqT X.K H1 t ((l.getD i []).map V.int)/\Enc X.K F1 (.tup ((l.getD i []).map D.int)) x:=λ{i x} hx=>by
  obtain⟨d,hd,ed⟩:=en.get' hx;rw[X4]at hd;obtain⟨k',hk',ek⟩:=Xl.mp hd;subst ek;have eg:l.getD i []=k':=by rw[kj,hk'];rfl
  rw[eg];obtain⟨t,ys,e1,sq',l'⟩:=id ed;rw[qw l']at sq';exact⟨t,e1,k1.same.seqT sq',ed⟩
 refine j1b (zy l) (I.ok.hd hcalm) I1 sq nofun (λi j x y u v s2 Q2 E2 hx hy rx ry I2 hq=>?_) λx hx=>?_
 .obtain⟨t,e1,s1',_⟩:=item hx;obtain⟨t',e2,s2',_⟩:=item hy;subst e1 e2;cases rx;cases ry;obtain⟨its,r1,p1,_⟩:=I2.tuple s1';obtain⟨its2,r2,p2,_⟩:=I2.tuple s2';exact HT.lt_tupInts (A:=X.A.in1) p1 p2 (intsAre_of r1) (intsAre_of r2) (by show X.A.units+1<aQ;omega) hq
 .rw[hlen]at hx;obtain⟨t,e1,_,ed⟩:=item hx;have eg:l.getD (aU (zy l) (l.length-1)) []=k:=by rw[kj,hk];rfl
  rw[eg]at ed;exact q x F1 H1 g1 k1 ed
end
section
variable{X:Cx}{ρ:Rho}{a b:au}{k:zo}{ks:List zo}{ds:List D}{pos:aO}
def Ie(hu:X.A.units+100<aQ):OpR X (aX .NotIn) (λx y H Q=>∃(t:aj)(k:zo)(d:aj)(xs:List (zo×aj×ai)) (ep:Nat),x=.ref t/\SqT X.K H t (k.map V.int)/\y=.ref d/\H d=a8 (.dI xs ep) /\
  (∀x∈xs,SqT X.K H x.2.1 (x.1.map V.int))/\Q (.bl (!(xs.map λx=>x.1).contains k)) H):=by
 intro pins s σ H x y v u Q I rx ry ⟨t,k,d,xs,ep,ex,sq,ey,hx,kt,q⟩;subst ex ey;cases rx;cases ry;obtain⟨lo,_,dd⟩:=K7 I hx kt;refine wpAny_notIn_heap (gv nofun) (Om I sq) lo dd ?_;rw[Ek];exact⟨.bl _,H,I.tok _,rfl,q⟩
def DE.notinT(hu:X.A.units+100<aQ)(ha:DT X ρ a (.tup (k.map D.int)))(hb:DT X ρ b (.dct ks ds))(hm:aH .NotIn b=a9):DE X ρ (.Compare a [.NotIn] [b] pos) (.bl (!ks.contains k)):=λσ H Q R q =>
 (J9 (Ie hu) peS peS hm).to (ha σ H _ R λv H1 g1 ⟨t,ys,e,sq,l⟩=>hb σ H1 _ (R.grow g1) λu H2 g2 ⟨d,xs,ep,vs,e',hx,ek,kt,rv,l'⟩ =>
  ⟨t,k,d,xs,ep,e,by rw[qw l]at sq;exact g2.seqT sq,e',hx,kt,q _ H2 (g1.trans g2) (by rw[ek];rfl)⟩)
def DB.notinT(hu:X.A.units+100<aQ)(ha:DT X ρ a (.tup (k.map D.int)))(hb:DT X ρ b (.dct ks ds))(hm:aH .NotIn b=a9):DB X ρ (.Compare a [.NotIn] [b] pos) (!ks.contains k):=λσ H Q R q =>
 (Jp (Ie hu) peS peS hm).to (ha σ H _ R λv H1 g1 ⟨t,ys,e,sq,l⟩=>hb σ H1 _ (R.grow g1) λu H2 g2 ⟨d,xs,ep,vs,e',hx,ek,kt,rv,l'⟩ =>
  ⟨t,k,d,xs,ep,e,by rw[qw l]at sq;exact g2.seqT sq,e',hx,kt,_,rfl,by rw[<-ek];exact q H2 (g1.trans g2)⟩)
end
def DDb(X:Cx)(ρ:Rho)(sts:List aS)(a:aj)(ks:List zo)(ns:zo)(d:D)(ks':List zo)(ns':zo):Prop:=∀σ F H E,Rep X.K ρ σ F->qe X.K a ks ns F H ->
 (∀v F' H',j0 F F'->qe X.K a ks' ns' F' H'->Enc X.K F' d v->E.rt v H')->Vx X sts E σ H
section
variable{X:Cx}{ρ ρ1:Rho}{e c call:au}{st:aS}{rest:List aS}{d:D}{σ:St}{F H:Hp}{a:aj}{ks ks' ks1:List zo}{ns ns' ns1:zo}{i t s:Nat}{nx nt nw:aq}
def j43{A:List aj}{D D':Ends}(hA:∀a∈A,Hd (H a))(h:Cz X st D' σ (del H A))(hn:∀σ' F,D'.nx σ' F->(∀a∈A,F a=ae)->D.nx σ' (mrg A H F))(hr:∀v F,¬D'.rt v F)(hb:∀v F,¬D'.bk v F)(hc:∀v F,¬D'.ct v F):Cz X st D σ H :=
 λpins s I=>thn (h _ s (I.hide hA)) λf s' q=>by
  cases f with
  |next=>obtain⟨σ',F,I',q⟩:=q;obtain⟨n,I2⟩:=I.unhide hA I';exact⟨σ',_,I2,hn σ' F q n⟩
  |brk=>obtain⟨σ',F,_,q⟩:=q;exact absurd q (hb _ _)
  |cont=>obtain⟨σ',F,_,q⟩:=q;exact absurd q (hc _ _)
  |ret u=>obtain⟨v,σ',F,F2,_,_,_,q⟩:=q;exact absurd q (hr _ _)
def DDb.then{N:Rho->Prop}(ho:owns ρ=[])(h1:DS X ρ st { nx:=N,rt:=λ_=>False })(h2:∀ρ1,N ρ1->DDb X ρ1 rest a ks ns d ks' ns'):DDb X ρ (st::rest) a ks ns d ks' ns':=λσ F H E R h q=>by
 refine(Jj psS Yi).to (j43 (A:=[a]) (D':={ nx:=λσ' F'=>∃ρ',N ρ'/\Rep X.K ρ' σ' F'/\j0 F F',rt:=λ_ _=>False }) h.hd (by
  rw[h.del]
  exact h1 σ F _ R ⟨λρ' σ' F' n R' f=>⟨ρ',n,R',λb o e=>(of_del (f b o (by rw[ho,qp];exact e))).2⟩,λ_ _ _ n=>n.elim,λ_ _ _ n=>n.elim,λ_ _ _ n=>n.elim,λ_ _ _ _ n=>n.elim⟩)
  (λσ' F' ⟨ρ',n,R',g⟩ na=>?_) (λ_ _ z=>z) (λ_ _ z=>z) (λ_ _ z=>z))
 exact h2 ρ' n σ' F' _ E R' (h.mrg g (na a (by simp))) λv F2 H2 g2=>q v F2 H2 (g.trans g2)
def DDb.freeze{b:aj}{l:List D}(h:ρ[i]?=a8 (.own b l))(h2:DDb X (ρ.set i (.val (.lst l))) rest a ks ns d ks' ns'):DDb X ρ rest a ks ns d ks' ns':=λσ F H E R=>h2 σ F H E (R.freeze h)
def DDb.ret{pos:aO}(h0:∃ob,ρ[0]?=a8 (.raw a ob rfN))(he:DFx X ρ 0 e ks ns d ks' ns'):DDb X ρ (.Return (a8 e) pos::rest) a ks ns d ks' ns':=λσ F H E R h q=>by obtain⟨ob,h0⟩:=h0;exact(Jj (Y7 peS) Yi).to (he σ F H a _ R (R.raw 0 a ob rfN h0).1 h q)
def j0u(R:Rep X.K ρ σ F)(h0:∃ob,ρ[0]?=a8 (.raw a ob rfN))(ho:owns ρ=[])(h:qe X.K a ks ns F H):Rep X.K (ρ.set 0 (.val (.dct ks (ns.map D.int)))) σ H:=by
 obtain⟨ob,h0⟩:=h0;have hσ:=(R.raw 0 a ob rfN h0).1;have:=(R.grow h.same).set_val (i:=0) (v:=.ref a) (d:=.dct ks (ns.map D.int)) (by
  rw[ho,qp]
  obtain⟨xs,ep,e,n,ek,kt,rv⟩:=id h
  exact⟨a,xs,ep,ns.map V.int,rfl,by rw[e];exact j8,ek,λz hz=>h.same.seqT (kt z hz),rv,j4.ints ns⟩)
 rw[Bx hσ]at this;exact this
def qe.grown(h:qe X.K a ks ns F H){H':Hp}(g:j0 H H'):qe X.K a ks ns (L2.del H' [a]) H'/\j0 F (L2.del H' [a]):=by
 obtain⟨xs,ep,e,n,ek,kt,rv⟩:=id h;have ha:H' a=a8 (.dI xs ep):=g _ _ (by rw[e];exact j8);have s:j0 F (L2.del H' [a]):=by rw[<-h.del];exact je g
 exact⟨⟨xs,ep,O9 ha,qj (by simp),ek,λz hz=>s.seqT (kt z hz),rv⟩,s⟩
theorem Iw{k:zo}:∀{ks:List zo} {ns:zo} {d:D},zp ks (ns.map D.int) k=a8 d->∃m,d=.int m
 |[],_,_,h=>by cases h
 |_::_,[],_,h=>by cases h
 |k'::ks,n::ns,d,h=>by
  rw[X5,zp]at h;split at h
  .cases h;exact⟨_,rfl⟩
  .exact Iw h
theorem Dt{k:zo}{n:Int}:∀{ks:List zo} {ns:zo},ks.length=ns.length->ks.contains k=a9->zp (ks++[k]) ((ns++[n]).map D.int) k=a8 (.int n)
 |[],[],_,_=>by show(if k=k then _ else _)=_;rw[if_pos rfl]
 |[],_::_,h,_=>by cases h
 |_::_,[],h,_=>by cases h
 |k'::ks,m::ns,h,hc=>by
  rw[jP,Bool.or_eq_false_iff]at hc;have hk:¬k'=k:=λz=>by subst z;simp at hc
  show(if k'=k then _ else _)=_;rw[if_neg hk];exact Dt (by simpa using h) hc.2
def qe.len(h:qe X.K a ks ns F H):ks.length=ns.length:=by obtain⟨xs,ep,_,_,ek,_,rv⟩:=h;have:=rv.length;rw[xf,xf]at this;rw[ek,xf,this]
def Le{v:Sl}(h:∃ob,ρ[0]?=a8 (.raw a ob rfN))(hi:i≠0):∃ob,(ρ.set i v)[0]?=a8 (.raw a ob rfN):=let ⟨ob,h⟩:=h;⟨ob,by rw[jz hi];exact h⟩
noncomputable abbrev fText(nx nw nt:aq)(c call:au)(n0 n1 n2:Nat)(p1 p2 p3 p4 p5 p6 p7 p8 p9 p10 p11 p12 p13 p14 p15 p16 p17 p18 p19 p20 p21:aO):List aS :=
 [.If (.Compare (.Name nw p1) [.NotIn] [.Name nx p2] p3) [.Assign [.Name nt p4] c p5,.Assign [.Subscript (.Name nx p6) (.Name nw p7) p8] (.IfExp (.Name nt p9) (.Constant (.int 0) n0 p10) (.BinOp (.Constant (.int 1) n1 p11) .Add (.Subscript call (.Constant (.int 0) n2 p12) p13) p14) p15) p16] [] p17,
  .Return (a8 (.Subscript (.Name nx p18) (.Name nw p19) p20)) p21]
def DDb.fill{k:zo}{n0 n1 n2:Nat}{p1 p2 p3 p4 p5 p6 p7 p8 p9 p10 p11 p12 p13 p14 p15 p16 p17 p18 p19 p20 p21:aO}{b:Bool}{n:Int}{tl:List D}(h0:∃ob,ρ[0]?=a8 (.raw a ob rfN))(ho:owns ρ=[])(hw:ρ[s]?=a8 (.val (.tup (k.map D.int))))(ht:t≠0)(hst:s≠t)(htl:t<ρ.length)
  (hin:ks.contains k=ah->ks'=ks/\ns'=ns/\zp ks (ns.map D.int) k=a8 d)
  (hout:ks.contains k=a9->DE X ρ c (.bl b)/\(b=ah->ks1=ks/\ns1=ns/\n=0)/\(b=a9->∃m,DFx X (ρ.set t (.val (.bl b))) 0 call ks ns (.tup (.int m::tl)) ks1 ns1/\n=1+m)/\ks1.contains k=a9/\ks1.length<av/\ks'=ks1++[k]/\ns'=ns1++[n]/\d=.int n)
  (hu:X.A.units+100<aQ) (hN:X.N.Nodup) (hX:X.N[0]?=a8 nx) (hW:X.N[s]?=a8 nw) (hT:X.N[t]?=a8 nt) (vx:Vis X.env.scope nx) (vw:Vis X.env.scope nw) (lt:Loc X.env.scope nt) (ft:X.fn nt=ah\/X.env.scope.names.lookup nt=a8 .local)
  (dx:(nx==k9a)=a9) (cx:(nx==k9b)=a9) (dw:(nw==k9a)=a9) (cw:(nw==k9b)=a9) (dt:(nt==k9a)=a9) (ct:(nt==k9b)=a9)
  (hm:aH .NotIn (.Name nx p2)=a9) (s1:aN c (a8 (.Name nt p4)) p5.line X.env=pure a9)
  (s2:aN (.IfExp (.Name nt p9) (.Constant (.int 0) n0 p10) (.BinOp (.Constant (.int 1) n1 p11) .Add (.Subscript call (.Constant (.int 0) n2 p12) p13) p14) p15) (a8 (.Subscript (.Name nx p6) (.Name nw p7) p8)) p16.line X.env=pure a9)
  (hx0:Jv (.Constant (.int 0) n2 p12)) (hxw:Jv (.Name nw p19)) (hB:∀b:Bool,ρ[t]?=ρ[t]?->DB X (ρ.set t (.val (.bl b))) (.Name nt p9) b) :
  DDb X ρ (fText nx nw nt c call n0 n1 n2 p1 p2 p3 p4 p5 p6 p7 p8 p9 p10 p11 p12 p13 p14 p15 p16 p17 p18 p19 p20 p21) a ks ns d ks' ns':=λσ F H E R h q=>by
 have vt:Vis X.env.scope nt:=lt.elim .inl λz=>.inr (.inl z);have s0:s≠0:=λz=>by obtain⟨ob,h0⟩:=h0;rw[z,h0]at hw;cases hw
 have last:∀σ' F' H' ρ',Rep X.K ρ' σ' F'->(∃ob,ρ'[0]?=a8 (.raw a ob rfN))->owns ρ'=[]->ρ'[s]?=a8 (.val (.tup (k.map D.int)))->j0 F F'->qe X.K a ks' ns' F' H'->zp ks' (ns'.map D.int) k=a8 d ->
   Cz X (.Return (a8 (.Subscript (.Name nx p18) (.Name nw p19) p20)) p21) E σ' H':=λσ' F' H' ρ' R' r0 ro rs g h' hd=>by
  have V:=j0u R' r0 ro h';obtain⟨ob,r0'⟩:=id r0;have l0:0<ρ'.length:=(X6.mp r0').1;have e1:DE X (ρ'.set 0 (.val (.dct ks' (ns'.map D.int)))) (.Subscript (.Name nx p18) (.Name nw p19) p20) d:=DE.dget hu (DE.var 0 (Jb l0) hX vx dx cx) (DE.var s (by rw[jz (bq s0)];exact rs) hW vw dw cw).toT hd hxw;refine(Y7 peS).to (e1 σ' H' _ V λv H2 g2 en=>?_);obtain⟨z1,z2⟩:=h'.grown g2;refine q v _ H2 (g.trans z2) z1 ?_;have:owns (ρ'.set 0 (.val (.dct ks' (ns'.map D.int))))=[]:=by have:=(jf (ρ:=ρ') (i:=0) (s:=.val (.dct ks' (ns'.map D.int))) rfl).subset;rw[ro]at this;exact Ti.mpr λb hb=>absurd (this hb) (by simp)
  rw[this,qp]at en;obtain⟨m,em⟩:=Iw hd;subst em;exact en
 have V:=j0u R h0 ho h;obtain⟨ob,h0'⟩:=id h0;have l0:0<ρ.length:=(X6.mp h0').1;have hc:DB X (ρ.set 0 (.val (.dct ks (ns.map D.int)))) (.Compare (.Name nw p1) [.NotIn] [.Name nx p2] p3) (!ks.contains k):=DB.notinT hu (DE.var s (by rw[jz (bq s0)];exact hw) hW vw dw cw).toT (DE.var 0 (Jb l0) hX vx dx cx).toT hm;refine(Jj (jan ptS Yi Yi) (Wi psS)).to (hc σ H _ V λH1 g1=>?_);obtain⟨h1,gF⟩:=h.grown g1;have R1:=R.grow gF;cases hk:ks.contains k with
 |true =>obtain⟨e1,e2,e3⟩:=hin hk;subst e1 e2;refine K1 ?_;exact j31.to (last σ _ H1 ρ R1 h0 ho hw gF h1 e3)
 |false =>
  obtain⟨hE,hT1,hF1,nk,hl,e1,e2,e3⟩:=hout hk;refine Lz ?_;refine(Jj (Y6 hN hT lt peS s1 ft) (Wi (j32 hu (Jc hX vx dx cx) (Jc hW vw dw cw) peS s2))).to ?_;refine K3 R1 h1 hE λv F2 H2 g2 h2 en=>?_;have R2:Rep X.K (ρ.set t (.val (.bl b))) (σ.set t (a8 v)) F2:=(R1.grow g2).set_val en;have ho2:owns (ρ.set t (.val (.bl b)))=[]:=by have:=(jf (ρ:=ρ) (i:=t) (s:=.val (.bl b)) rfl).subset;rw[ho]at this;exact Ti.mpr λb hb=>absurd (this hb) (by simp)
  have r2:=Le (v:=.val (.bl b)) h0 ht;have w2:(ρ.set t (.val (.bl b)))[s]?=a8 (.val (.tup (k.map D.int))):=by rw[jz (bq hst)];exact hw
  obtain⟨ob2,r2'⟩:=id r2;have hσ:=(R2.raw 0 a ob2 rfN r2').1;have hV:DFx X (ρ.set t (.val (.bl b))) 0 (.IfExp (.Name nt p9) (.Constant (.int 0) n0 p10) (.BinOp (.Constant (.int 1) n1 p11) .Add (.Subscript call (.Constant (.int 0) n2 p12) p13) p14) p15) ks ns (.int n) ks1 ns1:=by
   refine DFx.ite (hB b rfl) (λz=>?_) (λz=>?_) ho2
   .obtain⟨y1,y2,y3⟩:=hT1 z;subst y3;exact⟨DE.int,y1,y2⟩
   .obtain⟨m,y1,y2⟩:=hF1 z;subst y2;exact DFx.addC (DFx.ixC y1 (show L2.atI (D.int m::tl) 0=a8 (.int m)from by simp[L2.atI,ixN];try omega) hx0)
  refine hV _ F2 H2 a _ R2 hσ h2 λv3 F3 H3 g3 h3 e3'=>?_;have e3':v3=.int n:=e3';have R3:=R2.grow g3;obtain⟨vs,hσs,ens⟩:=R3.val s _ w2;rw[ho2,qp]at ens;obtain⟨tb,ys,ev,sq,li⟩:=ens;rw[qw li]at sq;subst ev;refine⟨_,hσ,_,hσs,?_⟩;obtain⟨xs,ep,eH,na,ek,kt,rv⟩:=id h3;refine⟨a,tb,xs,ep,k,rfl,by rw[eH];exact j8,λz hz=>h3.same.seqT (kt z hz),rfl,h3.same.seqT sq,by rw[<-ek];exact nk,by rw[ek,xf]at hl;exact hl,λu ep' ru=>?_⟩;subst e3';have h4:qe X.K a ks' ns' F3 (upd H3 a (.dI (xs++[(k,tb,u)]) ep')):=by
   refine⟨xs++[(k,tb,u)],ep',by rw[eH,jbj],na,by rw[e1,ek,Xo];rfl,λz hz=>?_,?_⟩
   .rcases Xw.mp hz with z1|z1
    .exact kt z z1
    .rw[xm.mp z1];exact sq
   .rw[e2,Xo,Xo];exact rv.append (.cons ru .nil)
  refine last _ F3 _ _ R3 r2 ho2 w2 (gF.trans (g2.trans g3)) h4 ?_;rw[e1,e2,e3];exact Dt h3.len nk
end
section
variable{P:ay}{w:aD}{K:k96}{mg:k99}{base:aE}{x qual:aq}{st:aS}{f:aj}{fd:aL}{N ps:List aq}{n:Nat}
def jlz{S:List zo->zo->List D->D->List zo->zo->Prop}(F:Fun K x qual st f fd)(Sc:FnScope N ps (jb st))(hl:∀ks ns ds d ks' ns',S ks ns ds d ks' ns'->ds.length+1=ps.length)
  (hbody:∀(cdv:ai)(A:aF)(outer:List d9)(s:ao)(H:Hp)(E:XK),M4 K f cdv->Room n (A.deeper (bD qual (jb st) s.heap.objs.size f cdv))->∀a ks ns ds d ks' ns',S ks ns ds d ks' ns' ->
   DDb (zq CX0 P w K mg base N qual (jb st) f cdv A outer s H E).nox (startM N a ds) (jm st) a ks ns d ks' ns'):FnOk P w K mg base CX0 (n+1) f fd ps (spD K S):=by
 refine F.okC Sc (λvs H Q E ⟨a,F0,ks,ns,ds,d,ks',ns',ws,e,tb,dc,en,hS,_⟩=>by rw[e,xx,en.length];exact hl _ _ _ _ _ _ hS) λcdv A outer s H vs Q E hcv hr ⟨a,F0,ks,ns,ds,d,ks',ns',ws,e,tb,dc,en,hS,q⟩=>⟨_,Yi,?_⟩
 subst e;exact hbody cdv A outer s H E hcv hr a ks ns ds d ks' ns' hS _ F0 H _ (j46 tb en) dc λv F' H' g dc' en'=>q v F' H' g dc' en'
end
section
variable{X:Cx}{ρ:Rho}{es:List au}{ds:List D}{d:D}{P:Po}{x:Nat}{nx g:aq}{ks':List zo}{ns':zo}{p1 p2 p3 p4 p5 p6 p7 p8 p9:aO}
def DSs.lmk{S:List zo->zo->List D->D->List zo->zo->Prop}(cl:CalD X g S)(hx:x<ρ.length)(ho:owns ρ=[])(ha:DA X (ρ.set x .un) es ds)(hS:S [] [] ds d ks' ns')(hP:P.rt (.val (.dct ks' (ns'.map D.int))))
  (hN:X.N.Nodup) (hX:X.N[x]?=a8 nx) (lx:Loc X.env.scope nx) (fx:X.fn nx=ah\/X.env.scope.names.lookup nx=a8 .local) (dx:(nx==k9a)=a9) (cx:(nx==k9b)=a9) (hg:Gl X g) (hdb:(g==k9a)=a9)
  (s1:aN (.Dict [] [] p2) (a8 (.Name nx p1)) p3.line X.env=pure a9) (s2:aN (.Call (.Name g p4) (.Name nx p5::es) [] p6) ae p7.line X.env=pure a9)
  (hs:af (.Name nx p5::es) X.env=(a9,aC (.Name nx p5) X.env)::af es X.env) (hpl:(aP p6 (af es X.env)).any (·.1)=a9) :
  DSs X ρ [.Assign [.Name nx p1] (.Dict [] [] p2) p3,.Expr (.Call (.Name g p4) (.Name nx p5::es) [] p6) p7,.Return (a8 (.Name nx p8)) p9] P:=λσ H E R q=>by
 have vis:Vis X.env.scope nx:=lx.elim .inl λz=>.inr (.inl z);refine(Jj (Y6 hN hX lx j35 s1 fx) (Jj (Wj peS s2) (Wi (Y7 (Jc hX vis dx cx))))).to ?_;intro a na;have R0:Rep X.K (ρ.set x .un) (σ.set x (a8 (.ref a))) H:=R.set_un;have hσ:(σ.set x (a8 (V.ref a)))[x]?=a8 (a8 (.ref a)):=Jb (by rw[R.len];exact hx);have ho':owns (ρ.set x .un)=[]:=by have:=(jf (ρ:=ρ) (i:=x) (s:=.un) rfl).subset;rw[ho]at this;exact Ti.mpr λb hb=>absurd (this hb) (by simp)
 have dc:qe X.K a [] [] H (upd H a (.dI [] 0)):=⟨[],0,rfl,na,rfl,(λz hz=>nomatch hz),.nil⟩
 refine DFx.call cl ha hS ho' hX vis dx cx hg hdb hs hpl _ H _ a _ R0 hσ dc λv F' H' g' dc' en=>?_;refine⟨_,hσ,q.rt (.val (.dct ks' (ns'.map D.int))) _ H' hP ?_⟩;obtain⟨xs,ep,e,n,ek,kt,rv⟩:=id dc';refine⟨?_,a,xs,ep,ns'.map V.int,rfl,by rw[e];exact j8,ek,λz hz=>dc'.same.seqT (kt z hz),rv,j4.ints ns'⟩;rw[ho,qp];exact g'.trans dc'.same
end
end L2
end
section
namespace L2
noncomputable def Vl(t:Int):zo:=if t=2 then[0,1] else[t]
noncomputable def step(acc:List zo)(f:zo):List zo:=acc.flatMap λa=>f.map λx=>a++[x]
noncomputable def qy(fs:List zo):List zo:=fs.foldl step [[]]
noncomputable def J6:List zo->List zo
 |[]=>[[]]
 |f::fs=>f.flatMap λx=>(J6 fs).map (x :: ·)
theorem Dr:∀(fs:List zo) (acc:List zo),fs.foldl step acc=acc.flatMap λa=>(J6 fs).map (a ++ ·)
 |[],acc=>by simp[J6]
 |f::fs,acc=>by
  rw[T3,Dr fs,step,List.flatMap_assoc];congr 1
  funext a
  rw[J6,List.map_flatMap,List.flatMap_map];congr 1
  funext x
  rw[Xf];congr 1
  funext r
  simp
def V7(fs:List zo):qy fs=J6 fs:=by rw[qy,Dr];simp
noncomputable def zj:Nat->List zo
 |0=>[[]]
 |m+1=>(zj m).map (0 :: ·)++(zj m).map (1 :: ·)
theorem j1n{b:Int}(hb:0<b)(n c:Int):∀{i m:Nat},i<=m->ju b i (n+b^m*c)=ju b i n
 |0,m,_=>rfl
 |i+1,m,h=>by
  rw[ju,ju,j1n hb n c nofun];congr 1;obtain⟨k,rfl⟩:∃k,m=i+(k+1):=⟨m-i-1,by omega⟩
  have hp:b^i≠0:=md (d6 hb);rw[Int.pow_add,lH,j3 _ _ hp,iP,mh (b^k) b,lH,Int.add_mul_emod_self_left]
theorem N8:∀m:Nat,(aA (2^m)).map (λn=>ju 2 m ((n:Nat):Int))=zj m
 |0=>rfl
 |m+1=>by
  have e:2^(m+1)=2^m+2^m:=by rw[cS];omega
  rw[e,List.range_add,Xo,zj,<-N8 m,Xf,Xf,Xf];have pc:((2^m:Nat):Int)=(2:Int)^m:=by simp
  congr 1
  .apply t7;intro n hn;have hn':n<2^m:=Xb.mp hn;show ju 2 (m+1) (n:Int)=0::ju 2 m (n:Int);rw[ju];congr 1;have h0:(n:Int)/2^m=0:=eQ nofun (by rw[<-pc];omega)
   rw[h0];rfl
  .apply t7;intro n hn;have hn':n<2^m:=Xb.mp hn;show ju 2 (m+1) ((2^m+n:Nat):Int)=1::ju 2 m (n:Int);have e1:((2^m+n:Nat):Int)=(n:Int)+2^m*1:=by rw[Int.natCast_add,pc,jE,Int.add_comm]
   rw[e1,ju,j1n (by decide) _ _ (X3 m)];congr 1;have hp:(2:Int)^m≠0:=md (d6 (by decide));have h0:(n:Int)/2^m=0:=eQ nofun (by rw[<-pc];omega)
   rw[j3 _ _ hp,h0];rfl
noncomputable def fits:zo->zo->Bool
 |t::ts,x::xs=>(t==2 || t==x)&&fits ts xs
 |_,_=>ah
theorem Mt:∀{p:zo},(∀t∈p,0<=t/\t<3)->(zj p.length).filter (fits p)=J6 (p.map Vl)
 |[],_=>rfl
 |t::ts,h=>by
  have ih:=Mt (p:=ts) λu hu=>h u (xg _ hu);rw[xx,zj,fF,X5,J6,<-ih];have key:∀x:Int,((zj ts.length).map (x :: ·)).filter (fits (t::ts))=if (t==2 || t==x)=ah then((zj ts.length).filter (fits ts)).map (x :: ·) else[]:=λx=>by
   rw[kI];by_cases c:(t==2 || t==x)=ah
   .rw[if_pos c];congr 1;apply List.filter_congr;intro r _;show((t==2 || t==x)&&fits ts r)=fits ts r;rw[c,l7]
   .rw[if_neg c];have:(fits (t::ts) ∘ λr=>x::r)=λ_=>a9:=by
     funext r
     show((t==2 || t==x)&&fits ts r)=a9;rw[Bool.eq_false_iff.mpr c,kS]
    rw[this];simp
  rw[key 0,key 1];have ht:=h t (xq ..);have:t=0\/t=1\/t=2:=by omega
  rcases this with e|e|e<;>subst e<;>simp[Vl]
theorem U7:∀p:zo,(J6 (p.map Vl)).length=2^(p.countP λt=>t==2)
 |[]=>rfl
 |t::ts=>by
  have ih:=U7 ts;rw[X5,J6,Tn];by_cases c:t=2
  .subst c;simp[Vl,ih,cS];omega
  .have e1:Vl t=[t]:=if_neg c;have e2:(t==2)=a9:=by simpa using c
   rw[e1,e2];simp[ih]
end L2
end
section
namespace L2
open PySem
inductive Sv where
 |un
 |val (d:D)
 |own (l:List D)
 |exc (x:aq)
noncomputable abbrev En:=List Sv
set_option genInjectivity true in
inductive Rk where
 |e (d:D)
 |o (l:List D)
 |w (l:List D)
 |t (d:D)
noncomputable def Rk.d:Rk->D
 |.e d=>d
 |.o l=>.lst l
 |.w l=>.lst l
 |.t d=>d
noncomputable def Rk.st:Rk->Option D
 |.e d=>a8 d
 |.o l=>a8 (.lst l)
 |.w l=>ae
 |.t d=>if Zd d=ah then a8 d else ae
noncomputable def Rk.sq:Rk->Option (Bool×List D)
 |.e (.lst l)=>a8 (ah,l)
 |.e (.tup l)=>a8 (a9,l)
 |.o l=>a8 (ah,l)
 |.w l=>a8 (ah,l)
 |_=>ae
noncomputable def Rk.lw:Rk->Option (List D)
 |.o l=>a8 l
 |.w l=>a8 l
 |_=>ae
inductive Rc where
 |val (d:D)
 |fresh (l:List D)
 |err (x:aq)
 |lval (d:D)
 |mval (d:D) (k:Nat)
 |merr (x:aq)
 |dval (d:D) (ks:List zo) (ns:zo)
 |no
noncomputable def Rc.rk:Rc->Option Rk
 |.val d=>a8 (.e d)
 |.fresh l=>a8 (.o l)
 |_=>ae
inductive Bop where
 |add|sub|mul|fdiv|mod|pow|shl|shr|band|bxor
inductive Cop where
 |lt|le|gt|ge|eq|ne|isin|notin
inductive Bf where
 |len|min|max|all|tuple|list|sum|int|any|sorted
inductive Mf where
 |count
inductive Ex where
 |lit (d:D)
 |var (i:Nat)
 |glob (x:aq)
 |bin (op:Bop) (a b:Ex)
 |neg (a:Ex)
 |cmp (op:Cop) (a b:Ex)
 |isN (a:Ex)
 |and (a b:Ex)
 |or (a b:Ex)
 |not (a:Ex)
 |ite (c a b:Ex)
 |nil
 |cons (a b:Ex)
 |tup (es:Ex)
 |lst (es:Ex)
 |ix (a b:Ex)
 |sl (a lo hi:Ex)
 |call (f:aq) (es:Ex)
 |blt (f:Bf) (es:Ex)
 |meth (m:Mf) (a es:Ex)
 |isi (a:Ex) (ts:List String)
 |comp (is:List Nat) (elt it cond:Ex)
 |seq (a:Ex)
 |range (es:Ex)
 |zip (a b:Ex)
 |fst (es:Ex)
 |join (sep:aq) (a:Ex)
 |enum (a:Ex)
 |lset (a:Ex)
 |tix (a b:Ex)
 |callD (f:aq) (es:Ex)
 |rpr (a:Ex)
 |exc (a:Ex)
 |callV (i:Nat) (es:Ex)
 |dget (a b:Ex)
 |dvals (a:Ex)
 |minT (a:Ex)
set_option genInjectivity true in
inductive W where
 |v (r:Rk)
 |a (rs:List Rk)
 |i (ds:List D)
noncomputable def jr(n:Nat):Bool:=decide (n<=av)
noncomputable def binI:Bop->Int->Int->Option Int
 |.add,i,j=>a8 (i+j)
 |.sub,i,j=>a8 (i-j)
 |.mul,i,j=>if (-(2^64)<i/\i<2^64)\/(-(2^64)<j/\j<2^64)then a8 (i*j)else ae
 |.fdiv,i,j=>if 0<j/\j<18446744073709551616 then a8 (i/j)else ae
 |.mod,i,j=>if 0<j then a8 (i%j)else ae
 |.pow,i,j=>if 0<=j/\j<=1000000/\i.natAbs<2^64 then a8 (i^j.toNat)else ae
 |.shl,i,j=>if 0<=j/\j<=1000000/\i.natAbs<2^64 then a8 (i*2^j.toNat)else ae
 |.shr,i,j=>if 0<=j then a8 (i/2^j.toNat)else ae
 |.band,i,j=>a8 (Builtin.bitAnd i j)
 |.bxor,i,j=>a8 (Builtin.bitXor i j)
noncomputable def Rx(op:Bop)(a b:Rk):Option Rk :=
 match a.d,b.d with
 |.int i,.int j=>(binI op i j).map λk=>.e (.int k)
 |.str y,.str z=>match op with
  |.add=>if jr (y.length+z.length)=ah then a8 (.e (.str (y++z)))else ae
  |_=>ae
 |.str y,.int k=>match op with
  |.mul=>if (1<=k/\k<=1000)/\y.length<=1000 then a8 (.e (.str (jR y k)))else ae
  |_=>ae
 |_,_=>match op,a.sq,b.sq,b.d with
  |.add,a8 (ah,l),a8 (ah,m),_=>if jr (l.length+m.length)=ah then a8 (.o (l++m))else ae
  |.add,a8 (a9,l),a8 (a9,m),_=>if jr (l.length+m.length)=ah then a8 (.e (.tup (l++m)))else ae
  |.mul,a8 (a9,l),_,.int k=>if 1<=k/\k<2^63/\l.isEmpty=a9/\jr (l.length*k.toNat)=ah then a8 (.e (.tup (ak k.toNat l).flatten))else ae
  |.mul,_,_,.int k=>match a.lw with
   |some l=>if -(2^63)<=k/\k<2^63/\jr (l.length*k.toNat)=ah then a8 (.o (ak k.toNat l).flatten)else ae
   |none=>ae
  |_,_,_,_=>ae
noncomputable def cmpI:Cop->Int->Int->Option Bool
 |.lt,i,j=>a8 (decide (i<j))
 |.le,i,j=>a8 (decide (i<=j))
 |.gt,i,j=>a8 (decide (j<i))
 |.ge,i,j=>a8 (decide (j<=i))
 |.eq,i,j=>a8 (decide (i=j))
 |.ne,i,j=>a8 (!decide (i=j))
 |_,_,_=>ae
noncomputable def D.sqv:D->Option (Bool×List D)
 |.lst l=>a8 (ah,l)
 |.tup l=>a8 (a9,l)
 |_=>ae
noncomputable def Ny(op:Cop)(a b:D):Option Bool :=
 match op,a,b with
 |op,.int i,.int j=>cmpI op i j
 |.eq,a,b=>if a.dep<=90/\b.dep<=90 then a8 (deq a b)else ae
 |.ne,.bl a,.bl b=>a8 (a != b)
 |.ne,.str a,.str b=>a8 (!decide (a=b))
 |.ne,.non,.non=>a8 a9
 |.ne,.lst l,.lst m=>if D.depL l<=90/\D.depL m<=90 then a8 (!vg l m)else ae
 |.ne,.tup l,.tup m=>if D.depL l<=90/\D.depL m<=90 then a8 (!vg l m)else ae
 |.isin,.str a,.str b=>a8 (inS a b)
 |.lt,.str a,.str b=>a8 (decide (a.cps.toList<b.cps.toList))
 |.gt,.str a,.str b=>a8 (decide (b.cps.toList<a.cps.toList))
 |.isin,a,b=>match b.sqv with
  |some (_,l)=>if D.depL l<=90/\a.dep<=90 then a8 (l.any λe=>deq e a)else ae
  |none=>ae
 |.notin,a,b=>match b.sqv with
  |some (_,l)=>if D.depL l<=90/\a.dep<=90 then a8 (!l.any λe=>deq e a)else ae
  |none=>ae
 |_,_,_=>ae
noncomputable def boolsOf:List D->Option (List Bool)
 |[]=>a8 []
 |.bl b::r=>(boolsOf r).map (b :: ·)
 |_::_=>ae
noncomputable def intsOf:List D->Option zo
 |[]=>a8 []
 |.int b::r=>(intsOf r).map (b :: ·)
 |_::_=>ae
noncomputable def strsOf:List D->Option (List aq)
 |[]=>a8 []
 |.str b::r=>(strsOf r).map (b :: ·)
 |_::_=>ae
noncomputable def Zr:Bf->List Rk->Option Rk
 |.len,[a]=>match a.d with
  |.lst l=>a8 (.e (.int l.length))
  |.tup l=>a8 (.e (.int l.length))
  |.str y=>if jr y.length=ah then a8 (.e (.int y.length))else ae
  |_=>ae
 |.min,[a,b]=>match a.d,b.d with
  |.int i,.int j=>a8 (.e (.int (if j<i then j else i)))
  |_,_=>ae
 |.max,[a,b]=>match a.d,b.d with
  |.int i,.int j=>a8 (.e (.int (if j>i then j else i)))
  |_,_=>ae
 |.max,[a]=>match a.d with
  |.lst l=>match intsOf l with
   |some ns=>if ns.isEmpty=a9 then a8 (.e (.int (qz ns)))else ae
   |none=>ae
  |_=>ae
 |.min,[a]=>match a.d with
  |.lst l=>match intsOf l with
   |some ns=>if ns.isEmpty=a9 then a8 (.e (.int (J5 ns)))else ae
   |none=>ae
  |_=>ae
 |.all,[a]=>match a.d with
  |.lst l=>(boolsOf l).map λbs=>.e (.bl (bs.all id))
  |_=>ae
 |.any,[a]=>match a.d with
  |.lst l=>(boolsOf l).map λbs=>.e (.bl (bs.any id))
  |_=>ae
 |.tuple,[a]=>match a.sq with
  |some (_,l)=>a8 (.e (.tup l))
  |none=>ae
 |.list,[a]=>match a.sq with
  |some (_,l)=>a8 (.o l)
  |none=>ae
 |.sum,[a]=>match a.d with
  |.lst l=>(intsOf l).map λns=>.e (.int ns.sum)
  |.tup l=>(intsOf l).map λns=>.e (.int ns.sum)
  |_=>ae
 |.int,[a]=>match a.d with
  |.bl k=>a8 (.e (.int (if k then 1 else 0)))
  |.str y=>if y.length<=640 then(gK y).map λn=>.e (.int n)else ae
  |_=>ae
 |_,_=>ae
noncomputable def j4g:Mf->Rk->List Rk->Option Rk
 |.count,a,[b]=>match a.d with
  |.tup l=>if D.depL l<=90/\b.d.dep<=90 then a8 (.e (.int (l.countP λe=>deq e b.d)))else ae
  |.lst l=>if D.depL l<=90/\b.d.dep<=90 then a8 (.e (.int (l.countP λe=>deq e b.d)))else ae
  |_=>ae
 |_,_,_=>ae
noncomputable def jgm(t c:String):Option Bool :=
 if t = "function" then ae else
 if c = "int" then a8 (t == "int" || t == "bool") else
 if c = "bool" then a8 (t == "bool") else
 if c = "str" then a8 (t == "str") else
 if c = "list" then a8 (t == "list") else
 if c = "tuple" then a8 (t == "tuple")else ae
noncomputable def jgn(d:D):List String->Option Bool
 |[]=>a8 a9
 |c::cs=>match jgm d.ty c,jgn d cs with
  |some a,a8 b=>a8 (a || b)
  |_,_=>ae
noncomputable def z9:List Nat->D->En->Option En
 |[i],d,ρ=>a8 (ρ.set i (.val d))
 |[i,j],d,ρ=>match d with
  |.tup [a,b]=>a8 ((ρ.set i (.val a)).set j (.val b))
  |_=>ae
 |[i,j,k],d,ρ=>match d with
  |.tup [a,.tup [b,c]]=>a8 (((ρ.set i (.val a)).set j (.val b)).set k (.val c))
  |_=>ae
 |[i,j,k,_],d,ρ=>match d with
  |.tup [a,b,c]=>a8 (((ρ.set i (.val a)).set j (.val b)).set k (.val c))
  |_=>ae
 |_,_,_=>ae
noncomputable def Dq(is:List Nat)(ρ:En):Bool:=is.all λi=>match ρ[i]? with
 |some .un=>ah
 |_=>a9
noncomputable def Qc(f:D->Option (Option D)):List D->Option (List D)
 |[]=>a8 []
 |d::ds=>match f d,Qc f ds with
  |some (a8 x),a8 xs=>a8 (x::xs)
  |some ae,a8 xs=>a8 xs
  |_,_=>ae
noncomputable def zg:List Rk->Option (List D)
 |[]=>a8 []
 |r::rs=>match r.st,zg rs with
  |some d,a8 ds=>a8 (d::ds)
  |_,_=>ae
noncomputable def W.one:W->Option Rk
 |.v r=>a8 r
 |_=>ae
noncomputable def W.args:W->Option (List Rk)
 |.a rs=>a8 rs
 |_=>ae
noncomputable def W.it:W->Option (List D)
 |.i ds=>a8 ds
 |_=>ae
noncomputable def Qx:Option W->Option (Option Int)
 |some (.a [])=>a8 ae
 |some (.a [r])=>match r.d with
  |.int i=>a8 (a8 i)
  |_=>ae
 |_=>ae
noncomputable def truth:Option W->Option Bool
 |some (.v r)=>match r.d with
  |.bl k=>a8 k
  |_=>ae
 |_=>ae
noncomputable def j9f:Ex->Option Nat
 |.seq (.var i)=>a8 i
 |.enum (.var i)=>a8 i
 |_=>ae
noncomputable def frz(t:Ex)(ρ:En):En:=match j9f t with
 |some i=>match ρ[i]? with
  |some (.own l)=>ρ.set i (.val (.lst l))
  |_=>ρ
 |none=>ρ
noncomputable def Jh(t:Ex)(ρ:En):Bool:=match j9f t with
 |some i=>match ρ[i]? with
  |some (.own _)=>ah
  |_=>a9
 |none=>a9
noncomputable def Zc:D->Option aq
 |.int i=>if -18446744073709551616<i/\i<18446744073709551616 then a8 (cb (toString i))else ae
 |.str y=>if y.length<=10000 then a8 y else ae
 |.tup l=>match intsOf l with
  |some is=>if (∀i∈is,-18446744073709551616<i/\i<18446744073709551616)/\(tupS is).length<=10000 then a8 (tupS is)else ae
  |none=>ae
 |_=>ae
noncomputable def Qz:List Rk->Option (List aq)
 |[]=>a8 []
 |r::rs=>match Zc r.d,Qz rs with
  |some y,a8 ys=>a8 (y::ys)
  |_,_=>ae
noncomputable def bang(x:aq):aq:=("!":aq)++x
noncomputable def qm(f:aq):aq:=("??":aq)++f
noncomputable def dq(f:aq):aq:=("#":aq)++f
noncomputable def tupI:D->Option zo
 |.tup l=>intsOf l
 |_=>ae
noncomputable def Wt:List D->Option (List zo)
 |[]=>a8 []
 |d::ds=>match tupI d,Wt ds with
  |some k,a8 ks=>a8 (k::ks)
  |_,_=>ae
noncomputable def prI:D->Option (Int×zo)
 |.tup [.int a,d]=>(tupI d).map λk=>(a,k)
 |_=>ae
noncomputable def j48:List D->Option (List (Int×zo))
 |[]=>a8 []
 |d::ds=>match prI d,j48 ds with
  |some k,a8 ks=>a8 (k::ks)
  |_,_=>ae
noncomputable def Rc.lv:Rc->Option W
 |.lval d=>a8 (.v (.e d))
 |_=>ae
noncomputable def j9e(w:Option W):Option W:=match w with
 |some (.a rs)=>if rs.length<=1000 then(Qz rs).map λys=>.v (.e (.str (j05 fh ys)))else ae
 |_=>ae
noncomputable def Cg(s:Option Sv):Option W:=match s with
 |some (.val d)=>a8 (.v (.e d))
 |some (.own l)=>a8 (.v (.w l))
 |_=>ae
noncomputable def blW(i:Option Bool):Option W:=i.map λk=>.v (.e (.bl k))
noncomputable def rkW(r:Option Rk):Option W:=r.map .v
noncomputable def V8(op:Bop)(a b:Option W):Option W:=match a,b with
 |some (.v x),a8 (.v y)=>rkW (Rx op x y)
 |_,_=>ae
noncomputable def j19(a:Option W):Option W:=match a with
 |some (.v x)=>match x.d with
  |.int i=>a8 (.v (.e (.int (-i))))
  |_=>ae
 |_=>ae
noncomputable def Ka(op:Cop)(a b:Option W):Option W:=match a,b with
 |some (.v x),a8 (.v y)=>blW (Ny op x.d y.d)
 |_,_=>ae
noncomputable def consW(a b:Option W):Option W:=match a,b with
 |some (.v x),a8 (.a xs)=>a8 (.a (x::xs))
 |_,_=>ae
noncomputable def Uz(a:Option W):Option W:=match a with
 |some (.a rs)=>match zg rs with
  |some ds=>if jr ds.length=ah then a8 (.v (.e (.tup ds)))else ae
  |none=>ae
 |_=>ae
noncomputable def Vk(a:Option W):Option W:=match a with
 |some (.a rs)=>match zg rs with
  |some ds=>if jr ds.length=ah then a8 (.v (.o ds))else ae
  |none=>ae
 |_=>ae
noncomputable def ixW(a b:Option W):Option W:=match a,b with
 |some (.v x),a8 (.v y)=>match x.sq,y.d with
  |some (_,l),.int i=>(atI l i).map λd=>.v (.e d)
  |none,.int i=>match x.d with
   |.str z=>if jr z.length=ah then(atI z.cps.toList i).map λc=>.v (.e (.str ⟨#[c]⟩))else ae
   |_=>ae
  |_,_=>ae
 |_,_=>ae
noncomputable def Ol(sep:aq)(a:Option W):Option W:=match a with
 |some (.v x)=>match x.d with
  |.lst l=>match strsOf l with
   |some ts=>if fP sep ts=ah then a8 (.v (.e (.str (f7 sep ts))))else ae
   |none=>ae
  |_=>ae
 |_=>ae
noncomputable def j85(a b:Option W):Option W:=match a,b with
 |some (.v x),a8 (.v y)=>match x.d with
  |.tup l=>if D.depL l<=90/\y.d.dep<=90 then(ixD y.d l).map λk=>.v (.e (.int (k:Nat)))else ae
  |.lst l=>if D.depL l<=90/\y.d.dep<=90 then(ixD y.d l).map λk=>.v (.e (.int (k:Nat)))else ae
  |_=>ae
 |_,_=>ae
noncomputable def Oj(a:Option W):Option W:=match a with
 |some (.v x)=>match x.d with
  |.lst l=>match strsOf l with
   |some ts=>if ts.length<4000 then a8 (.v (.e (.int (dd ts).length)))else ae
   |none=>match intsOf l with
    |some ns=>if ns.length<4000 then a8 (.v (.e (.int (ddI ns).length)))else ae
    |none=>ae
  |_=>ae
 |_=>ae
noncomputable def Ot(a:Option W):Option W:=match a with
 |some (.v x)=>match x.st with
  |some (.lst l)=>a8 (.i (Jl l))
  |some (.tup l)=>a8 (.i (Jl l))
  |_=>ae
 |_=>ae
noncomputable def Qm(Γ:aq->List D->Rc)(f:aq)(a:Option W):Option W:=match a with
 |some (.a rs)=>match zg rs with
  |some ds=>rkW (Γ f ds).rk
  |none=>match Γ f (rs.map Rk.d) with
   |.val d=>a8 (.v (.t d))
   |.fresh l=>if za l=ah then a8 (.v (.o l))else ae
   |_=>ae
 |_=>ae
noncomputable def vh(f:Bf)(a:Option W):Option W:=match a with
 |some (.a rs)=>rkW (Zr f rs)
 |_=>ae
noncomputable def Oh(m:Mf)(a b:Option W):Option W:=match a,b with
 |some (.v x),a8 (.a rs)=>rkW (j4g m x rs)
 |_,_=>ae
noncomputable def jlu(a:Option W)(ts:List String):Option W:=match a with
 |some (.v x)=>blW (jgn x.d ts)
 |_=>ae
noncomputable def N5(a:Option W):Option W:=match a with
 |some (.v (.e (.lst l)))=>a8 (.i l)
 |some (.v (.e (.tup l)))=>a8 (.i l)
 |some (.v (.o l))=>a8 (.i l)
 |some (.v (.e (.str y)))=>if ascii y=ah then a8 (.i (chs y))else ae
 |_=>ae
noncomputable def Wh(a:Option W):Option W:=match a with
 |some (.a [x])=>match x.d with
  |.int n=>if -(2^62)<=n/\n<2^62 then a8 (.i (upto 0 n.toNat))else ae
  |_=>ae
 |some (.a [x,y])=>match x.d,y.d with
  |.int m,.int n=>if -(2^62)<=m/\m<2^62/\-(2^62)<=n/\n<2^62 then a8 (.i (upto m (n-m).toNat))else ae
  |_,_=>ae
 |_=>ae
noncomputable def Cd(a b:Option W):Option W:=match a,b with
 |some (.v x),a8 (.v y)=>match x.st,y.st with
  |some (.lst l),a8 (.lst m)=>a8 (.i (Vg l m))
  |some (.lst l),a8 (.tup m)=>a8 (.i (Vg l m))
  |some (.tup l),a8 (.lst m)=>a8 (.i (Vg l m))
  |some (.tup l),a8 (.tup m)=>a8 (.i (Vg l m))
  |_,_=>ae
 |_,_=>ae
noncomputable def Wq(Γ:aq->List D->Rc)(s:Option Sv)(a:Option W):Option W:=match s,a with
 |some (.val (.fn x cs)),a8 (.a rs)=>match zg rs with
  |some ds=>if Jd ds=ah then(Γ (jx x) (cs++ds)).lv else ae
  |none=>ae
 |_,_=>ae
noncomputable def Ou(a b:Option W):Option W:=match a,b with
 |some (.v (.e (.dct ks ds))),a8 (.v y)=>match tupI y.d with
  |some k=>(zp ks ds k).map λd=>.v (.e d)
  |none=>ae
 |_,_=>ae
noncomputable def Mw(a:Option W):Option W:=match a with
 |some (.v (.e (.dct _ ds)))=>a8 (.v (.e (.tup ds)))
 |_=>ae
noncomputable def Og(a:Option W):Option W:=match a with
 |some (.v x)=>match x.d with
  |.lst l=>match Wt l with
   |some ks=>(ks[aU (zy ks) (ks.length-1)]?).map λk=>.v (.t (.tup (k.map D.int)))
   |none=>match j48 l with
    |some ps=>(ps[aU (Lw ps) (ps.length-1)]?).map λk=>.v (.t (pairD k))
    |none=>ae
  |_=>ae
 |_=>ae
noncomputable def ev(Γ:aq->List D->Rc)(G:aq->Option D):Ex->En->Option W
 |.lit d,_=>a8 (.v (.e d))
 |.var i,ρ=>Cg ρ[i]?
 |.glob x,_=>(G x).map λd=>.v (.e d)
 |.bin op a b,ρ=>V8 op (ev Γ G a ρ) (ev Γ G b ρ)
 |.neg a,ρ=>j19 (ev Γ G a ρ)
 |.cmp op a b,ρ=>Ka op (ev Γ G a ρ) (ev Γ G b ρ)
 |.isN a,ρ=>match ev Γ G a ρ with
  |some (.v x)=>a8 (.v (.e (.bl x.d.isNon)))
  |_=>ae
 |.and a b,ρ=>match truth (ev Γ G a ρ) with
  |some a9=>a8 (.v (.e (.bl a9)))
  |some ah=>(truth (ev Γ G b ρ)).map λk=>.v (.e (.bl k))
  |none=>ae
 |.or a b,ρ=>match truth (ev Γ G a ρ) with
  |some ah=>a8 (.v (.e (.bl ah)))
  |some a9=>(truth (ev Γ G b ρ)).map λk=>.v (.e (.bl k))
  |none=>ae
 |.not a,ρ=>(truth (ev Γ G a ρ)).map λk=>.v (.e (.bl (!k)))
 |.ite c a b,ρ=>match truth (ev Γ G c ρ) with
  |some ah=>match ev Γ G a ρ with
   |some (.v x)=>x.st.map λd=>.v (.e d)
   |_=>ae
  |some a9=>match ev Γ G b ρ with
   |some (.v x)=>x.st.map λd=>.v (.e d)
   |_=>ae
  |none=>ae
 |.nil,_=>a8 (.a [])
 |.cons a b,ρ=>consW (ev Γ G a ρ) (ev Γ G b ρ)
 |.tup es,ρ=>Uz (ev Γ G es ρ)
 |.lst es,ρ=>Vk (ev Γ G es ρ)
 |.ix a b,ρ=>ixW (ev Γ G a ρ) (ev Γ G b ρ)
 |.sl a lo hi,ρ=>match ev Γ G a ρ,Qx (ev Γ G lo ρ),Qx (ev Γ G hi ρ) with
  |some (.v x),a8 l,a8 h=>match x.sq with
   |some (ah,ds)=>a8 (.v (.o (cutD ds l h)))
   |some (a9,ds)=>if HT.sIx ds.length 0 l=0/\HT.sIx ds.length ds.length h=ds.length then ae else a8 (.v (.e (.tup (cutD ds l h))))
   |none=>match x.d with
    |.str z=>if jr z.length=ah then a8 (.v (.e (.str (bS z l h))))else ae
    |_=>ae
  |_,_,_=>ae
 |.call f es,ρ=>Qm Γ f (ev Γ G es ρ)
 |.blt f es,ρ=>vh f (ev Γ G es ρ)
 |.meth m a es,ρ=>Oh m (ev Γ G a ρ) (ev Γ G es ρ)
 |.isi a ts,ρ=>jlu (ev Γ G a ρ) ts
 |.comp is elt it cond,ρ=>match ev Γ G it (frz it ρ) with
  |some (.i ds)=>if Dq is (frz it ρ)=ah/\jr ds.length=ah then
    (Qc (λd=>match z9 is d (frz it ρ) with
     |none=>ae
     |some ρ2=>match ev Γ G cond ρ2 with
      |some (.a [])=>match ev Γ G elt ρ2 with
       |some (.v x)=>x.st.map a8
       |_=>ae
      |some (.a [y])=>match y.d with
       |.bl ah=>match ev Γ G elt ρ2 with
        |some (.v x)=>x.st.map a8
        |_=>ae
       |.bl a9=>a8 ae
       |_=>ae
      |_=>ae) ds).bind λl=>if (Jh it ρ && !za l)=ah then ae else a8 (.v (.o l))
   else ae
  |_=>ae
 |.seq a,ρ=>N5 (ev Γ G a ρ)
 |.range es,ρ=>Wh (ev Γ G es ρ)
 |.zip a b,ρ=>Cd (ev Γ G a ρ) (ev Γ G b ρ)
 |.fst es,ρ=>j9e (ev Γ G es ρ)
 |.join sep a,ρ=>Ol sep (ev Γ G a ρ)
 |.enum a,ρ=>Ot (ev Γ G a ρ)
 |.tix a b,ρ=>j85 (ev Γ G a ρ) (ev Γ G b ρ)
 |.callD f es,ρ=>match ev Γ G es ρ with
  |some (.a rs)=>match zg rs with
   |some ds=>match Γ f (ds++[.non]) with
    |.val d=>a8 (.v (.e d))
    |_=>ae
   |none=>ae
  |_=>ae
 |.rpr a,ρ=>match ev Γ G a ρ with
  |some (.v x)=>match x.d with
   |.str y=>if (cY y).length<=2000 then a8 (.v (.e (.str (cY y))))else ae
   |_=>ae
  |_=>ae
 |.exc a,ρ=>ev Γ G a ρ
 |.lset a,ρ=>Oj (ev Γ G a ρ)
 |.callV i es,ρ=>Wq Γ ρ[i]? (ev Γ G es ρ)
 |.dget a b,ρ=>Ou (ev Γ G a ρ) (ev Γ G b ρ)
 |.dvals a,ρ=>Mw (ev Γ G a ρ)
 |.minT a,ρ=>Og (ev Γ G a ρ)
section
variable{Γ:aq->List D->Rc}{G:aq->Option D}{ρ:En}
def Ca{d}:ev Γ G (.lit d) ρ=(a8 (.v (.e d))):=(rfl)
def jkh{i}:ev Γ G (.var i) ρ=(Cg ρ[i]?):=(rfl)
def ji9{x}:ev Γ G (.glob x) ρ=((G x).map λd=>.v (.e d)):=(rfl)
def jkq{op a b}:ev Γ G (.bin op a b) ρ=(V8 op (ev Γ G a ρ) (ev Γ G b ρ)):=(rfl)
def jkm{a}:ev Γ G (.neg a) ρ=(j19 (ev Γ G a ρ)):=(rfl)
def jb8{op a b}:ev Γ G (.cmp op a b) ρ=(Ka op (ev Γ G a ρ) (ev Γ G b ρ)):=(rfl)
def jb7{a}:ev Γ G (.isN a) ρ=(match ev Γ G a ρ with
  |some (.v x)=>a8 (.v (.e (.bl x.d.isNon)))
  |_=>ae):=(rfl)
def jb9{a b}:ev Γ G (.and a b) ρ=(match truth (ev Γ G a ρ) with
  |some a9=>a8 (.v (.e (.bl a9)))
  |some ah=>(truth (ev Γ G b ρ)).map λk=>.v (.e (.bl k))
  |none=>ae):=(rfl)
def jm3{a b}:ev Γ G (.or a b) ρ=(match truth (ev Γ G a ρ) with
  |some ah=>a8 (.v (.e (.bl ah)))
  |some a9=>(truth (ev Γ G b ρ)).map λk=>.v (.e (.bl k))
  |none=>ae):=(rfl)
def jb6{a}:ev Γ G (.not a) ρ=((truth (ev Γ G a ρ)).map λk=>.v (.e (.bl (!k)))):=(rfl)
def jko{c a b}:ev Γ G (.ite c a b) ρ=(match truth (ev Γ G c ρ) with
  |some ah=>match ev Γ G a ρ with
   |some (.v x)=>x.st.map λd=>.v (.e d)
   |_=>ae
  |some a9=>match ev Γ G b ρ with
   |some (.v x)=>x.st.map λd=>.v (.e d)
   |_=>ae
  |none=>ae):=(rfl)
def M3:ev Γ G (.nil) ρ=(a8 (.a [])):=(rfl)
def Uk{a b}:ev Γ G (.cons a b) ρ=(consW (ev Γ G a ρ) (ev Γ G b ρ)):=(rfl)
def jki{es}:ev Γ G (.tup es) ρ=(Uz (ev Γ G es ρ)):=(rfl)
def jkn{es}:ev Γ G (.lst es) ρ=(Vk (ev Γ G es ρ)):=(rfl)
def jm4{a b}:ev Γ G (.ix a b) ρ=(ixW (ev Γ G a ρ) (ev Γ G b ρ)):=(rfl)
def jm2{a lo hi}:ev Γ G (.sl a lo hi) ρ=(match ev Γ G a ρ,Qx (ev Γ G lo ρ),Qx (ev Γ G hi ρ) with
  |some (.v x),a8 l,a8 h=>match x.sq with
   |some (ah,ds)=>a8 (.v (.o (cutD ds l h)))
   |some (a9,ds)=>if HT.sIx ds.length 0 l=0/\HT.sIx ds.length ds.length h=ds.length then ae else a8 (.v (.e (.tup (cutD ds l h))))
   |none=>match x.d with
    |.str z=>if jr z.length=ah then a8 (.v (.e (.str (bS z l h))))else ae
    |_=>ae
  |_,_,_=>ae):=(rfl)
def jid{f es}:ev Γ G (.call f es) ρ=(Qm Γ f (ev Γ G es ρ)):=(rfl)
def Uy{f es}:ev Γ G (.blt f es) ρ=(vh f (ev Γ G es ρ)):=(rfl)
def ji6{m a es}:ev Γ G (.meth m a es) ρ=(Oh m (ev Γ G a ρ) (ev Γ G es ρ)):=(rfl)
def jic{is elt it cond}:ev Γ G (.comp is elt it cond) ρ=(match ev Γ G it (frz it ρ) with
  |some (.i ds)=>if Dq is (frz it ρ)=ah/\jr ds.length=ah then
    (Qc (λd=>match z9 is d (frz it ρ) with
     |none=>ae
     |some ρ2=>match ev Γ G cond ρ2 with
      |some (.a [])=>match ev Γ G elt ρ2 with
       |some (.v x)=>x.st.map a8
       |_=>ae
      |some (.a [y])=>match y.d with
       |.bl ah=>match ev Γ G elt ρ2 with
        |some (.v x)=>x.st.map a8
        |_=>ae
       |.bl a9=>a8 ae
       |_=>ae
      |_=>ae) ds).bind λl=>if (Jh it ρ && !za l)=ah then ae else a8 (.v (.o l))
   else ae
  |_=>ae):=(rfl)
def jkk{a}:ev Γ G (.seq a) ρ=(N5 (ev Γ G a ρ)):=(rfl)
def je8{es}:ev Γ G (.range es) ρ=(Wh (ev Γ G es ρ)):=(rfl)
def jkg{a b}:ev Γ G (.zip a b) ρ=(Cd (ev Γ G a ρ) (ev Γ G b ρ)):=(rfl)
def jkp{es}:ev Γ G (.fst es) ρ=(j9e (ev Γ G es ρ)):=(rfl)
def ji8{sep a}:ev Γ G (.join sep a) ρ=(Ol sep (ev Γ G a ρ)):=(rfl)
def jia{a}:ev Γ G (.enum a) ρ=(Ot (ev Γ G a ρ)):=(rfl)
def jkj{a b}:ev Γ G (.tix a b) ρ=(j85 (ev Γ G a ρ) (ev Γ G b ρ)):=(rfl)
def jeb{f es}:ev Γ G (.callD f es) ρ=(match ev Γ G es ρ with
  |some (.a rs)=>match zg rs with
   |some ds=>match Γ f (ds++[.non]) with
    |.val d=>a8 (.v (.e d))
    |_=>ae
   |none=>ae
  |_=>ae):=(rfl)
def jkl{a}:ev Γ G (.rpr a) ρ=(match ev Γ G a ρ with
  |some (.v x)=>match x.d with
   |.str y=>if (cY y).length<=2000 then a8 (.v (.e (.str (cY y))))else ae
   |_=>ae
  |_=>ae):=(rfl)
def ji7{a}:ev Γ G (.lset a) ρ=(Oj (ev Γ G a ρ)):=(rfl)
def jea{i es}:ev Γ G (.callV i es) ρ=(Wq Γ ρ[i]? (ev Γ G es ρ)):=(rfl)
def jib{a b}:ev Γ G (.dget a b) ρ=(Ou (ev Γ G a ρ) (ev Γ G b ρ)):=(rfl)
def je9{a}:ev Γ G (.dvals a) ρ=(Mw (ev Γ G a ρ)):=(rfl)
def ji5{a}:ev Γ G (.minT a) ρ=(Og (ev Γ G a ρ)):=(rfl)
end
noncomputable def er(Γ:aq->List D->Rc)(G:aq->Option D):Ex->En->Option aq
 |.call f es,ρ=>match er Γ G es ρ with
  |some x=>if (G (qm f)).isSome=ah then a8 x else ae
  |none=>match ev Γ G es ρ with
   |some (.a rs)=>match Γ f (rs.map Rk.d) with
    |.err x=>if (G (bang x)).isSome=ah then a8 x else ae
    |_=>ae
   |_=>ae
 |.cons a b,ρ=>match er Γ G a ρ with
  |some x=>a8 x
  |none=>match ev Γ G a ρ with
   |some (.v _)=>er Γ G b ρ
   |_=>ae
 |.ix a _,ρ=>er Γ G a ρ
 |.dget a b,ρ=>match er Γ G a ρ with
  |some x=>a8 x
  |none=>match ev Γ G a ρ with
   |some (.v _)=>er Γ G b ρ
   |_=>ae
 |.exc (.comp [i] elt it .nil),ρ=>match ev Γ G it ρ with
  |some (.i (d::_))=>if Dq [i] ρ=ah then er Γ G elt (ρ.set i (.val d))else ae
  |_=>ae
 |_,_=>ae
end L2
end
section
namespace L2
open PySem PySem.Spec PyProof.Rows
def DM(X:Cx)(ρ:Rho)(e:au)(s:Bool)(ds:List D):Prop:=∀σ H Q,Rep X.K ρ σ H->(∀a xs H',j0 H H'->SqB X.K s H' a xs->j4 X.K (del H' (owns ρ)) ds xs->Q (.ref a) H')->J8 X e σ H Q
section
variable{X:Cx}{ρ:Rho}{e a b c:au}{es:List au}{d:D}{ds ds':List D}{i j:Int}{pos p p2:aO}{k:Nat}{x:aq}{s:Bool}
def jj0{K:k96}{H:Hp}{a:aj}{xs:List V}(h:SqL K H a xs):SqB K ah H a xs:=by unfold SqB;rw[if_pos rfl];exact h
def Wf{K:k96}{H:Hp}{a:aj}{xs:List V}(h:SqB K ah H a xs):SqL K H a xs:=by unfold SqB at h;rw[if_pos rfl]at h;exact h
def Qs{K:k96}{H:Hp}{a:aj}{xs:List V}(h:SqB K a9 H a xs):SqT K H a xs:=by unfold SqB at h;rw[if_neg xj]at h;exact h
def DE.toM(h:DE X ρ e (D.seq s ds)):DM X ρ e s ds:=λσ H Q R q=>h σ H Q R λv H1 g1 e1=>by obtain⟨t,xs,ev,sq,en⟩:=Z1 e1;subst ev;exact q t xs H1 g1 (jk.seqB sq) en
def DL.toM(h:DL X ρ e ds):DM X ρ e ah ds:=λσ H Q R q=>h σ H Q R λt xs H1 g1 m en=>q t xs H1 g1 (jj0 (.inl (.inl m))) en
def DO.toM(h:DO X ρ e ds):DM X ρ e ah ds:=h.toL.toM
def Has(X:Cx)(ρ:Rho)(e:au):Rk->Prop
 |.e d=>DE X ρ e d
 |.o l=>DO X ρ e l
 |.w l=>DL X ρ e l
 |.t d=>DT X ρ e d
def Has.toT:∀{r:Rk},Has X ρ e r->DT X ρ e r.d
 |.e _,h=>DE.toT h
 |.o _,h=>DL.toT (DO.toL h)
 |.w _,h=>DL.toT h
 |.t _,h=>h
def Has.toE:∀{r:Rk}{d:D},Has X ρ e r->r.st=a8 d->DE X ρ e d
 |.e _,_,h,q=>by cases q;exact h
 |.o _,_,h,q=>by cases q;exact DO.toE h
 |.w _,_,h,q=>by cases q
 |.t d',d,h,q=>by
  have q:(if Zd d'=ah then a8 d' else ae)=a8 d:=q;by_cases z:Zd d'=ah
  .rw[if_pos z]at q;cases q;exact DT.toE h z
  .rw[if_neg z]at q;cases q
def Has.toM:∀{r:Rk}{s:Bool}{l:List D},Has X ρ e r->r.sq=a8 (s,l)->DM X ρ e s l
 |.e (.lst l),_,_,h,q=>by cases q;exact DE.toM (s:=ah) h
 |.e (.tup l),_,_,h,q=>by cases q;exact DE.toM (s:=a9) h
 |.e .non,_,_,_,q=>by cases q
 |.e (.bl _),_,_,_,q=>by cases q
 |.e (.int _),_,_,_,q=>by cases q
 |.e (.str _),_,_,_,q=>by cases q
 |.o l,_,_,h,q=>by cases q;exact DO.toM h
 |.w l,_,_,h,q=>by cases q;exact DL.toM h
 |.t _,_,_,_,q=>by cases q
def jcq:OpR X (bg .Add) (λx y H Q=>∃l b xs zs,x=.ref l/\y=.ref b/\SqL X.K H l xs/\SqL X.K H b zs/\xs.length+zs.length<=av/\∀p,H p=ae->Q (.ref p) (upd H p (.lst (xs++zs)))):=by
 intro pins s σ H x y v u Q I rx ry h;obtain⟨l,b,xs,zs,e1,e2,hH,hB,hz,q⟩:=h;subst e1 e2;cases rx;cases ry;obtain⟨us,ru,⟨⟨c1,d1,f1,g1⟩,n1,h1,k1,w1,m1⟩,_⟩:=I.list hH;obtain⟨vs,rv,⟨⟨c2,d2,f2,g2⟩,n2,h2,k2,w2,m2⟩,_⟩:=I.list hB;have k1:c1=.type "list":=k1;have m1:f1=.seq us.toArray n1:=m1;have k2:c2=.type "list":=k2;have m2:f2=.seq vs.toArray n2:=m2;subst k1 m1 k2 m2;have l1:=ru.length;have l2:=rv.length;have ea:us.toArray++vs.toArray=(us++vs).toArray:=by simp
 refine gO ⟨_,h1,rfl⟩ ⟨_,h2,rfl⟩ noFill_list_add seq_list_add PySem.F.slot_list_add PySem.F.entry_list_add (PySem.F.args_list_add_2 _ _)
  (list_addW l b us.toArray vs.toArray n1 n2 d1 d2 g1 g2 (by rw[X7,X7,<-l1,<-l2];exact hz)) ⟨h1,h2,?_⟩
 rw[ea];exact⟨.ref _,_,I.lnew (t':=s.toks) (ru.append rv) (by rw[Xd];exact hz),rfl,q _ I.fresh⟩
def DO.catM(ha:DM X ρ a ah ds)(hb:DM X ρ b ah ds')(hl:ds.length+ds'.length<=av):DO X ρ (.BinOp a .Add b pos) (ds++ds'):=λσ H Q R q =>
 (Uq jcq peS peS).to (ha σ H _ R λl xs H1 g1 s1 e1=>hb σ H1 _ (R.grow g1) λl' ys H2 g2 s2 e2 =>
  ⟨l,l',xs,ys,rfl,rfl,g2.seq (Wf s1),Wf s2,by rw[e1.length,e2.length];exact hl,λp hp=>q p _ _ ((g1.trans g2).trans (j6 hp)) ((g1.trans g2).free hp) j8 (Ro hp ((e1.mono (je g2)).append e2))⟩)
def DE.catTM(ha:DM X ρ a a9 ds)(hb:DM X ρ b a9 ds')(hl:ds.length+ds'.length<=av):DE X ρ (.BinOp a .Add b pos) (.tup (ds++ds')):=λσ H Q R q =>
 (Uq j8r peS peS).to (ha σ H _ R λt xs H1 g1 sq l=>hb σ H1 _ (R.grow g1) λt' ys H2 g2 sq' l'=>by
  have l2:=l.mono (je g2)
  have enT:∀{t:aj}{xs:List V}{ds:List D},SqT X.K H2 t xs->j4 X.K (del H2 (owns ρ)) ds xs->Enc X.K (del H2 (owns ρ)) (.tup ds) (.ref t):=λ{t xs ds} sq l=>by
   refine⟨t,xs,rfl,?_,l⟩
   have ow:=(R.grow (g1.trans g2)).owned
   have out:∀{o:HO},H2 t=a8 o->(∀zs,o≠.lst zs)->del H2 (owns ρ) t=a8 o:=λ{o} h z=>by
    rw[j7];exact h
    intro y;obtain⟨zs,e'⟩:=ow t y;rw[h]at e';cases e';exact z zs rfl
   rcases sq with (h|⟨o,h⟩)|h
   .exact .inl (.inl (out h λ_ z=>by cases z))
   .exact .inl (.inr ⟨o,out h λ_ z=>by cases z⟩)
   .exact .inr h
  refine⟨t,t',xs,ys,rfl,rfl,g2.seqT (Qs sq),Qs sq',by rw[l.length,l'.length];exact hl,λh=>?_,λh h'=>?_,λh h' p hp=>?_⟩
  .subst h
   cases ds with
   |nil=>exact q _ H2 (g1.trans g2) (enT (Qs sq') l')
   |cons _ _=>have:=l.length;cases this
  .subst h'
   cases ds' with
   |nil=>exact q _ H2 (g1.trans g2) (by rw[Xn];exact enT (g2.seqT (Qs sq)) l2)
   |cons _ _=>have:=l'.length;cases this
  .have np:p∉owns ρ:=(R.grow (g1.trans g2)).fresh hp
   exact q _ _ ((g1.trans g2).trans (j6 hp)) ⟨p,xs++ys,rfl,.inl (.inl (by rw[j7 np];exact j8)),(l2.append l').mono (je (j6 hp))⟩)
def DE.ixM(ha:DM X ρ a s ds)(hb:DT X ρ b (.int i))(h:L2.atI ds i=a8 d)(hs:Jv b):DE X ρ (.Subscript a b pos) d:=by
 cases s with
 |true=>exact λσ H Q R q=>(Ur jd3 peS peS hs).to (ha σ H _ R λl xs H1 g1 sq en=>hb σ H1 _ (R.grow g1) λu H2 g2 e2=>by
   obtain⟨y,hy,ey⟩:=en.atI h
   exact⟨l,xs,i,y,rfl,e2,g2.seq (Wf sq),hy,q y H2 (g1.trans g2) (ey.mono (je g2))⟩)
 |false=>exact λσ H Q R q=>(Ur Mq peS peS hs).to (ha σ H _ R λl xs H1 g1 sq en=>hb σ H1 _ (R.grow g1) λu H2 g2 e2=>by
   obtain⟨y,hy,ey⟩:=en.atI h
   exact⟨l,xs,i,y,rfl,e2,g2.seqT (Qs sq),hy,q y H2 (g1.trans g2) (ey.mono (je g2))⟩)
variable{lo hi:Option au}{l u:Option Int}
def DO.sliceM(ha:DM X ρ a ah ds)(hl:DP X ρ lo l)(hu:DP X ρ hi u):DO X ρ (.Subscript a (.Slice lo hi ae p2) pos) (cutD ds l u):=λσ H Q R q =>
 (Ng jbu peS poS poS).to (ha σ H _ R λt xs H1 g1 sq en=>hl σ H1 _ (R.grow g1) λH2 g2=>hu σ H2 _ (R.grow (g1.trans g2)) λH3 g3=>⟨t,xs,rfl,(g2.trans g3).seq (Wf sq),λp hp =>
  q p _ _ ((g1.trans (g2.trans g3)).trans (j6 hp)) ((g1.trans (g2.trans g3)).free hp) j8 (Ro hp ((en.mono (je (g2.trans g3))).cut l u))⟩)
def DE.sliceM(ha:DM X ρ a a9 ds)(hl:DP X ρ lo l)(hu:DP X ρ hi u)(hw:¬(HT.sIx ds.length 0 l=0/\HT.sIx ds.length ds.length u=ds.length)):DE X ρ (.Subscript a (.Slice lo hi ae p2) pos) (.tup (cutD ds l u)):=λσ H Q R q =>
 (Ng jer peS poS poS).to (ha σ H _ R λt xs H1 g1 sq en=>hl σ H1 _ (R.grow g1) λH2 g2=>hu σ H2 _ (R.grow (g1.trans g2)) λH3 g3=>⟨t,xs,rfl,(g2.trans g3).seqT (Qs sq),by rw[en.length];exact hw,λp hp =>
  q _ _ ((g1.trans (g2.trans g3)).trans (j6 hp)) ⟨p,_,rfl,.inl (.inl (by rw[j7 ((R.grow (g1.trans (g2.trans g3))).fresh hp)];exact j8)),((en.mono (je (g2.trans g3))).cut l u).mono (je (j6 hp))⟩⟩)
def DE.tupM (ha:DM X ρ a s ds) (hm:X.mg "tuple" = ae) (hg:Gl X "tuple") (hs:af [a] X.env=[(a9,aC a X.env)]):DE X ρ (.Call (.Name "tuple" p) [a] [] pos) (.tup ds):=λσ H Q R q =>
 (Us j00 hg hm boot_tuple (jc peS jt hs) (by decide) (by decide) hs).to (ha σ H _ R λl xs H1 g1 sq en=>by
  cases s with
  |true =>
   refine⟨l,xs,rfl,.inl ⟨Wf sq,λt ht=>?_⟩⟩
   have nt:t∉owns ρ:=(R.grow g1).fresh ht
   exact q _ _ (g1.trans (j6 ht)) ⟨t,xs,rfl,.inl (.inl (by rw[j7 nt];exact j8)),en.mono (je (j6 ht))⟩
  |false =>
   refine⟨l,xs,rfl,.inr ⟨Qs sq,?_⟩⟩
   refine q _ _ g1 ⟨l,xs,rfl,?_,en⟩
   have ow:=(R.grow g1).owned
   have out:∀{o:HO},H1 l=a8 o->(∀zs,o≠.lst zs)->del H1 (owns ρ) l=a8 o:=λ{o} h z=>by
    rw[j7];exact h
    intro y;obtain⟨zs,e'⟩:=ow l y;rw[h]at e';cases e';exact z zs rfl
   rcases Qs sq with (h|⟨o,h⟩)|h
   .exact .inl (.inl (out h λ_ z=>by cases z))
   .exact .inl (.inr ⟨o,out h λ_ z=>by cases z⟩)
   .exact .inr h)
def DO.listM (ha:DM X ρ a s ds) (hm:X.mg "list" = ae) (hg:Gl X "list") (hs:af [a] X.env=[(a9,aC a X.env)]):DO X ρ (.Call (.Name "list" p) [a] [] pos) ds:=λσ H Q R q =>
 (Us j1x hg hm boot_list (jc peS jt hs) (by decide) (by decide) hs).to (ha σ H _ R λl xs H1 g1 sq en =>
  ⟨l,xs,rfl,(by cases s with|true=>exact .inl (Wf sq)|false=>exact .inr (Qs sq)),λp hp=>q p _ _ (g1.trans (j6 hp)) (g1.free hp) j8 (Ro hp en)⟩)
end
def Li:fillsNumberSlot (.type "tuple") "mul" = pure a9 :=
 PySem.fillsNumberSlot_seq (id:="tuple.__mul__") (r:=a8 (.builtin "tuple.__rmul__")) PySem.F.slot_tuple_mul.lookup (by decide +kernel) PySem.F.slot_tuple_rmul.lookup (by decide +kernel)
def jcd:seqRepeat? (.type "tuple")=pure (a8 (.builtin "tuple.__mul__")):=by
 unfold seqRepeat?;rw[jU (T:="tuple") (name:="__mul__") (id:="tuple.__mul__") PySem.F.slot_tuple_mul.lookup (by decide +kernel),
  jU (T:="tuple") (name:="__rmul__") (id:="tuple.__rmul__") PySem.F.slot_tuple_rmul.lookup (by decide +kernel)]
 rfl
section
variable(a:Int)(t:gR)(l:aj)(its:Array ai)(n:Nat)(d1:Option aj)(sl:Array (Option ai))
def j1i:jK (cO.«int.__rmul__» ⟨[.int a t,.ref l],[]⟩) (λ_ R s=>s.heap.get? l=a8 ⟨.type "tuple",d1,.seq its n,sl⟩/\R (.ok (.ret iB)) s) :=
 .of_wp λ_ _ _ _ s h=>by
  obtain⟨_,_,_,_,_⟩:=s;obtain⟨hl,h⟩:=h
  wp_walk
  exact⟨_,rfl,h⟩
def j83:jK (cO.«tuple.__mul__» ⟨[.ref l,.int 1 t],[]⟩) (λ_ R s=>s.heap.get? l=a8 ⟨.type "tuple",d1,.seq its n,sl⟩/\R (.ok (.ret (.ref l))) s) :=
 .of_wp λ_ _ _ _ s h=>by
  obtain⟨_,_,_,_,_⟩:=s;obtain⟨hl,h⟩:=h
  wp_walk
  exact⟨_,rfl,h⟩
def j82(h0:its.isEmpty=a9)(h1:1<a)(h2:a<2^63)(hz:its.size*a.toNat<=av) :
  jK (cO.«tuple.__mul__» ⟨[.ref l,.int a t],[]⟩) (λ_ R s=>s.heap.get? l=a8 ⟨.type "tuple",d1,.seq its n,sl⟩ /\
   R (.ok (.ret (.ref s.heap.objs.size))) { s with heap:=s.heap.push { cls:=.type "tuple",data:=.seq (du (λx y=>x++y) #[] (ak a.toNat its)) } }) :=
 .of_wp λ_ _ _ _ s h=>by
  obtain⟨_,_,_,_,_⟩:=s;obtain⟨hl,h⟩:=h;have c1:(decide (a < -2^63) || decide (a>=2^63))=a9:=by rw[decide_eq_false nofun,decide_eq_false nofun];rfl
  have c2:(its.isEmpty || a==1)=a9:=by rw[h0,beq_eq_false_iff_ne.mpr nofun];rfl
  have c3:(decide (a<=0) || its.isEmpty)=a9:=by rw[h0,decide_eq_false nofun];rfl
  have ea:((its.size*a.toNat:Nat):Int)=(its.size:Int)*a:=by rw[Int.natCast_mul,Int.toNat_of_nonneg nofun]
  have hz':(its.size:Int)*a<=(av:Int):=by rw[<-ea];exact Int.ofNat_le.mpr hz
  have c4:¬(its.size:Int)*a>(2^63-1)/8:=by
   have:(av:Int)<=(2^63-1)/8:=by decide
   omega
  have c5:fw ((its.size:Int)*a)=a9:=by unfold fw;exact decide_eq_false nofun
  have c6:(du (λx y=>x++y) #[] (ak a.toNat its)).size<=av:=by rw[AutoListH.size_joined,Array.size_empty,cg,g6];exact hz
  wp_walk
  rw[c1]
  wp_walk
  rw[c2]
  wp_walk
  rw[c3]
  wp_walk
  rw[if_neg c4]
  wp_walk
  exact⟨_,rfl,h⟩
end
def jcn{X:Cx}:OpR X (bg .Mult) (λx y H Q=>∃a k xs,x=.ref a/\y=.int k/\SqT X.K H a xs/\xs≠[]/\1<=k/\k<2^63/\xs.length*k.toNat<=av /\
  (k=1->Q (.ref a) H)/\(1<k->∀p,H p=ae->Q (.ref p) (upd H p (.tup (ak k.toNat xs).flatten)))):=by
 intro pins s σ H x y v u Q I rx ry h;obtain⟨a,k,xs,e1,e2,sq,hne,h1,h2,hz,q1,q2⟩:=h;subst e1 e2;cases rx;obtain⟨t,e⟩:=ry;subst e;obtain⟨us,ru,⟨⟨c1,d1,f1,g1⟩,p1,k1,n1,m1⟩,_⟩:=I.tuple sq;have k1:c1=.type "tuple":=k1;have m1:f1=.seq us.toArray n1:=m1;subst k1 m1;have lu:=ru.length;have hne':us.toArray.isEmpty=a9:=by
  cases us with
  |nil=>cases ru;exact absurd rfl hne
  |cons _ _=>simp
 refine iW (T:="tuple") (U:="int") (by decide) ⟨_,p1,rfl⟩ (λs'=>gu s' k t) Li lq eY jcd F.slot_int_index.lookup
  (bI eY (gu s k t) kW (kP _ _) (j1i k t a us.toArray n1 d1 g1) ⟨p1,rfl,⟨_,p1,rfl⟩,?_⟩)
 by_cases hk:k=1
 .subst hk;exact bI kT ⟨_,p1,rfl⟩ kN (kv _ _) (j83 t a us.toArray n1 d1 g1) ⟨p1,⟨.ref a,H,I,rfl,q1 rfl⟩⟩
 .have hz':us.toArray.size*k.toNat<=av:=by rw[X7,<-lu];exact hz
  refine bI kT ⟨_,p1,rfl⟩ kN (kv _ _) (j82 k t a us.toArray n1 d1 g1 hne' nofun h2 hz') ⟨p1,?_⟩;have hnew:du (λx1 x2=>x1++x2) #[] (ak k.toNat us.toArray)=(ak k.toNat us).flatten.toArray:=by have:=foldl_rep us k.toNat [];rw[cB]at this;exact this
  rw[hnew];refine⟨.ref _,_,I.laid (t':=s.toks) (λb o e=>km _ e) (X3 _) ?_,rfl,q2 nofun _ I.fresh⟩;exact⟨by rw[len_rep,g6];exact hz,_,ru.rep k.toNat,IsTup.new _ _,Zu.new _ _⟩
def DE.repT{X:Cx}{ρ:Rho}{a b:au}{ds:List D}{k:Int}{pos:aO}(ha:DM X ρ a a9 ds)(hb:DT X ρ b (.int k))(hne:ds≠[])(h1:1<=k)(h2:k<2^63)(hl:ds.length*k.toNat<=av) :
  DE X ρ (.BinOp a .Mult b pos) (.tup (ak k.toNat ds).flatten):=λσ H Q R q =>
 (Uq jcn peS peS).to (ha σ H _ R λt xs H1 g1 sq l=>hb σ H1 _ (R.grow g1) λu H2 g2 e2=>by
  have l2:=l.mono (je g2)
  refine⟨t,k,xs,rfl,e2,g2.seqT (Qs sq),?_,h1,h2,by rw[l.length];exact hl,λh=>?_,λh p hp=>?_⟩
  .intro z;subst z
   cases ds with
   |nil=>exact hne rfl
   |cons _ _=>have:=l.length;cases this
  .subst h
   have e:(ak (1:Int).toNat ds).flatten=ds:=by simp
   rw[e]at q
   refine q _ H2 (g1.trans g2) ⟨t,xs,rfl,?_,l2⟩
   have ow:=(R.grow (g1.trans g2)).owned
   have out:∀{o:HO},H2 t=a8 o->(∀zs,o≠.lst zs)->del H2 (owns ρ) t=a8 o:=λ{o} h z=>by
    rw[j7];exact h
    intro y;obtain⟨zs,e'⟩:=ow t y;rw[h]at e';cases e';exact z zs rfl
   rcases g2.seqT (Qs sq)with (h|⟨o,h⟩)|h
   .exact .inl (.inl (out h λ_ z=>by cases z))
   .exact .inl (.inr ⟨o,out h λ_ z=>by cases z⟩)
   .exact .inr h
  .have np:p∉owns ρ:=(R.grow (g1.trans g2)).fresh hp
   exact q _ _ ((g1.trans g2).trans (j6 hp)) ⟨p,_,rfl,.inl (.inl (by rw[j7 np];exact j8)),(l2.rep k.toNat).mono (je (j6 hp))⟩)
section
variable{X:Cx}{ρ:Rho}{a:au}{m k:Bool}{d:D}{n:Nat}{pos p2:aO}
def DE.isNotN(ha:DT X ρ a d):DE X ρ (.Compare a [.IsNot] [.Constant .none n p2] pos) (.bl (!d.isNon)):=λσ H Q R q =>(J9 jco peS j68 (zc _)).to (ha σ H _ R λx H1 g1 e1=>⟨rfl,q _ H1 g1 (by rw[Io e1];rfl)⟩)
end
end L2
end
section
namespace L2
open PySem PySem.Spec PyProof.Rows
noncomputable def Sl.abs:Sl->Sv
 |.un=>.un
 |.val d=>.val d
 |.own _ l=>.own l
 |.raw _ _ x=>.exc x
noncomputable def j5(ρ:Rho):En:=ρ.map Sl.abs
def Fb{ρ:Rho}{i:Nat}:(j5 ρ)[i]?=(ρ[i]?).map Sl.abs:=X4 ..
def Vu{ρ:Rho}{i:Nat}{d:D}(h:(j5 ρ)[i]?=a8 (.val d)):ρ[i]?=a8 (.val d):=by
 rw[Fb]at h;cases e:ρ[i]? with
 |none=>rw[e]at h;cases h
 |some s=>rw[e]at h;cases s<;>cases h;rfl
def Kr{ρ:Rho}{i:Nat}(h:(j5 ρ)[i]?=a8 .un):ρ[i]?=a8 .un:=by
 rw[Fb]at h;cases e:ρ[i]? with
 |none=>rw[e]at h;cases h
 |some s=>rw[e]at h;cases s<;>cases h;rfl
def Qy{ρ:Rho}{i:Nat}{l:List D}(h:(j5 ρ)[i]?=a8 (.own l)):∃a,ρ[i]?=a8 (.own a l):=by
 rw[Fb]at h;cases e:ρ[i]? with
 |none=>rw[e]at h;cases h
 |some s=>rw[e]at h;cases s<;>cases h;exact⟨_,rfl⟩
def jh{ρ:Rho}{i:Nat}{s:Sl}:j5 (ρ.set i s)=(j5 ρ).set i s.abs:=List.map_set ..
noncomputable def Bop.op:Bop->kB
 |.add=>.Add
 |.sub=>.Sub
 |.mul=>.Mult
 |.fdiv=>.FloorDiv
 |.mod=>.Mod
 |.pow=>.Pow
 |.shl=>.LShift
 |.shr=>.RShift
 |.band=>.BitAnd
 |.bxor=>.BitXor
noncomputable def Cop.op:Cop->iL
 |.lt=>.Lt
 |.le=>.LtE
 |.gt=>.Gt
 |.ge=>.GtE
 |.eq=>.Eq
 |.ne=>.NotEq
 |.isin=>.In
 |.notin=>.NotIn
noncomputable def Bf.name:Bf->aq
 |.len=>"len"
 |.min=>"min"
 |.max=>"max"
 |.all=>"all"
 |.tuple=>"tuple"
 |.list=>"list"
 |.sum=>"sum"
 |.int=>"int"
 |.any=>"any"
 |.sorted=>"sorted"
noncomputable def O5:List aq:=["len","min","max","all","tuple","list","sum","int","any","sorted","isinstance","bool","str","range","zip","enumerate","reversed","ValueError","set","dict"]
noncomputable def Ye(x:aq):Bool:=x.cps.toList.head?==a8 33 || x.cps.toList.head?==a8 63
inductive Nd where
 |e (x:au)
 |b (x:au)
 |w (x:au)
 |a (xs:List au)
 |i (tg it:au)
 |o (x:Option au)
 |c (xs:List au)
 |p (xs:List au)
structure Cok(X:Cx)(G:aq->Option D):Prop where
 un':X.A.units+100<aQ
 un:X.calm=ah->X.A.units+150<aQ
 dp:X.calm=ah->X.A.depth+4<fK
 bt:∀x∈O5,X.mg x=ae
 gl:∀x d,Ye x=a9->G x=a8 d->∃u v,X.mg x=a8 u/\RelV v u/\∀H,Enc X.K H d v
 nd:X.N.Nodup
 po:i5 (aB X.prog X.w) X.A X.env X.xe
 ea:Oq X.K=ah
 ec:∀x d,G (bang x)=a8 d->x∈vz/\∃o,W.nsIn X.K ax x=a8 (a8 o)
 el:G "?" = a8 (.bl ah)->∀c∈vz,∃v,W.nsIn X.K ax c=a8 (a8 v)
 kin:X.K.In X.base
 ns:X.base.Ns ax X.mg
 kd:∀x l,G (bang x)=a8 (.lst l)->Kinds X "_law_kinds" x l
 fn:∀f d,G (qm f)=a8 d->∃fa,X.mg f=a8 (.ref fa)/\W.keepIn X.K (.ref fa)=ah
 gd:X.calm=ah->X.A.guards=a8 []
 fr:∃(env0:d9)(out0:List d9)(L:aj),X.stack=env0::out0/\env0.frame=a8 L/\X.env.frame=a8 L
 lm:∀x∈Zz,X.env.qual=x ++ ".<locals>."->∃c P,X.env.code=.ref c/\W.codeHdIn X.K c P=ah/\W.tabIn X.K x=a8 (c,P)
def Gok(X:Cx)(Γ:aq->List D->Rc):Prop:=∀f ds,match Γ f ds with
 |.val d=>Cal X f (spP X.K λds' d'=>ds'=ds/\d'=d)
 |.fresh l=>Cal X f (spF X.K λds' l'=>ds'=ds/\l'=l)
 |.err x=>CalX X f (spX X.K X.mg λds' y=>ds'=ds/\y=x)
 |.lval d=>∀x,f=jx x->∃k,Room k X.A/\j09 X.prog X.w X.K X.mg X.base k x λds' d'=>ds'=ds/\d'=d
 |.mval _ _=>True
 |.merr _=>True
 |.dval d ks' ns'=>∀g ks ns ds',f=dq g->ds=.dct ks (ns.map D.int)::ds'->CalD X g λks2 ns2 ds2 d2 ks2' ns2'=>ks2=ks/\ns2=ns/\ds2=ds'/\d2=d/\ks2'=ks'/\ns2'=ns'
 |.no=>True
def Cok.comp{X:Cx}{G:aq->Option D}{scope:b8}{C:aj}{s:ao}{H:Hp}{fp:List aj}{pn:k98}(h:Cok X G):Cok (cCx X scope C s H fp pn) G:=⟨h.un',h.un,h.dp,h.bt,h.gl,h.nd,bH,h.ea,h.ec,h.el,h.kin,h.ns,h.kd,h.fn,h.gd,h.fr,h.lm⟩
def Gok.comp{X:Cx}{Γ:aq->List D->Rc}{scope:b8}{C:aj}{s:ao}{H:Hp}{fp:List aj}{pn:k98}(h:Gok X Γ):Gok (cCx X scope C s H fp pn) Γ:=λf ds=>by
 have q:=h f ds;cases e:Γ f ds with
 |val d=>rw[e]at q;exact Cal.comp q
 |fresh l=>rw[e]at q;exact Cal.comp q
 |err x=>rw[e]at q;exact⟨q.ex⟩
 |lval d=>rw[e]at q;exact q
 |mval d k=>trivial
 |merr x=>trivial
 |dval d ks ns=>rw[e]at q;exact λg ks ns ds' h1 h2=>⟨(q g ks ns ds' h1 h2).ex⟩
 |no=>trivial
inductive HasA(X:Cx)(ρ:Rho):List au->List Rk->Prop where
 |nil:HasA X ρ [] []
 |cons {a:au} {es:List au} {r:Rk} {rs:List Rk} (hs:af (a::es) X.env=(a9,aC a X.env)::af es X.env):Has X ρ a r->HasA X ρ es rs->HasA X ρ (a::es) (r::rs)
section
variable{X:Cx}{ρ:Rho}{es:List au}{rs:List Rk}
theorem HasA.toA:∀{es:List au}{rs:List Rk}{ds:List D},HasA X ρ es rs->zg rs=a8 ds->DA X ρ es ds
 |_,_,_,.nil,q=>by cases q;exact DA.nil
 |_,_,ds,.cons (r:=r) (rs:=rs) hs h t,q=>by
  unfold zg at q;cases e1:r.st with
  |none=>rw[e1]at q;cases q
  |some d =>
   cases e2:zg rs with
   |none=>rw[e1,e2]at q;cases q
   |some ds'=>rw[e1,e2]at q;cases q;exact DA.cons (h.toE e1) (t.toA e2) hs
theorem HasA.toT:∀{es:List au}{rs:List Rk},HasA X ρ es rs->DTA X ρ es (rs.map Rk.d)
 |_,_,.nil=>DTA.nil
 |_,_,.cons hs h t=>DTA.cons h.toT t.toT hs
def HasA.one{e:au}(h:HasA X ρ [e] rs):∃r,rs=[r]/\Has X ρ e r/\af [e] X.env=[(a9,aC e X.env)]:=by cases h with|cons hs h t=>cases t;exact⟨_,rfl,h,hs⟩
def DO.unfrz{e:au}{i:Nat}{a:aj}{l ds:List D}(hk:ρ[i]?=a8 (.own a l))(h:DO X (ρ.set i (.val (.lst l))) e ds)(hn:za ds=ah):DO X ρ e ds:=λσ H Q R q =>
 h σ H Q (R.freeze hk) λb xs H' g n m en=>q b xs H' g n m ((en.mono jk).hide (λc hc=>by
  rcases xr.mp hc with z|z
  .rw[z];exact .inl ⟨xs,m⟩
  .exact .inl ((R.grow g).owned c z)) hn)
end
theorem Dv{f:D->Option (Option D)}:∀{ds l:List D},Qc f ds=a8 l ->
  l=(ds.filter (λd=>(f d).join.isSome)).map (λd=>(f d).join.getD .non)/\∀d∈ds,∃o,f d=a8 o
 |[],l,h=>by cases h;exact⟨rfl,λd hd=>nomatch hd⟩
 |d::ds,l,h=>by
  unfold Qc at h;cases e1:f d with
  |none=>rw[e1]at h;cases h
  |some o =>
   cases e2:Qc f ds with
   |none=>rw[e1,e2]at h;cases o<;>cases h
   |some xs =>
    rw[e1,e2]at h;obtain⟨q1,q2⟩:=Dv e2;have mem:∀d'∈d::ds,∃o,f d'=a8 o:=λd' hd=>by
     rcases xr.mp hd with z|z
     .subst z;exact⟨o,e1⟩
     .exact q2 d' z
    cases o with
    |none=>cases h;exact⟨by rw[iu (by rw[e1];simp)];exact q1,mem⟩
    |some x=>cases h;exact⟨by rw[eD (by rw[e1];rfl),X5,<-q1,e1];rfl,mem⟩
section
variable{X:Cx}{ρ:Rho}{a b:au}{d da db:D}{ds ds':List D}{pos:aO}{k:Bool}
def DE.neD(s:Bool)(hu:X.A.units+100<aQ)(ha:DT X ρ a (D.seq s ds))(hb:DT X ρ b (D.seq s ds'))(hd:D.depL ds<=98)(nd:D.depL ds'<10000):DE X ρ (.Compare a [.NotEq] [b] pos) (.bl (!vg ds ds')):=λσ H Q R q =>(J9 (j6b hu) peS peS (zc _)).to (ha σ H _ R λv H1 g1 e1=>hb σ H1 _ (R.grow g1) λu H2 g2 e2=>⟨ds,ds',s,e1.mono g2,e2,hd,nd,q _ H2 (g1.trans g2) rfl⟩)
def DE.notIn(s:Bool)(hu:X.A.units+100<aQ)(ha:DT X ρ a d)(hb:DT X ρ b (D.seq s ds))(hd:D.depL ds<=98)(nd:d.dep<10000)(hm:aH .NotIn b=a9):DE X ρ (.Compare a [.NotIn] [b] pos) (.bl (!ds.any λe=>deq e d)):=λσ H Q R q =>(J9 (Ig hu) peS peS hm).to (ha σ H _ R λv H1 g1 e1=>hb σ H1 _ (R.grow g1) λu H2 g2 e2=>⟨d,ds,s,e1.mono g2,e2,hd,nd,q _ H2 (g1.trans g2) rfl⟩)
def DE.in(s:Bool)(hu:X.A.units+100<aQ)(ha:DT X ρ a d)(hb:DT X ρ b (D.seq s ds))(hd:D.depL ds<=98)(nd:d.dep<10000)(hm:aH .In b=a9):DE X ρ (.Compare a [.In] [b] pos) (.bl (ds.any λe=>deq e d)):=λσ H Q R q =>(J9 (j6c hu) peS peS hm).to (ha σ H _ R λv H1 g1 e1=>hb σ H1 _ (R.grow g1) λu H2 g2 e2=>⟨d,ds,s,e1.mono g2,e2,hd,nd,q _ H2 (g1.trans g2) rfl⟩)
def jbq:∀{b:D}{s:Bool}{l:List D},b.sqv=a8 (s,l)->b=D.seq s l
 |.lst _,_,_,h=>by cases h;rfl
 |.dct _ _,_,_,h=>by cases h
 |.sct _,_,_,h=>by cases h
 |.fn _ _,_,_,h=>by cases h
 |.tup _,_,_,h=>by cases h;rfl
 |.non,_,_,h=>by cases h
 |.bl _,_,_,h=>by cases h
 |.int _,_,_,h=>by cases h
 |.str _,_,_,h=>by cases h
def j4v{op:Cop}{i j:Int}(h:cmpI op i j=a8 k)(ha:DT X ρ a (.int i))(hb:DT X ρ b (.int j)):DE X ρ (.Compare a [op.op] [b] pos) (.bl k)/\DB X ρ (.Compare a [op.op] [b] pos) k:=by
 cases op<;>(first|(cases h;done)|skip)
 .cases h;exact⟨DE.lt ha hb,DB.lt ha hb⟩
 .cases h;exact⟨DE.le ha hb,DB.le ha hb⟩
 .cases h;exact⟨DE.gt ha hb,DB.gt ha hb⟩
 .cases h;exact⟨DE.ge ha hb,DB.ge ha hb⟩
 .cases h;exact⟨DE.eqI ha hb,DB.eqI ha hb⟩
 .cases h;exact⟨DE.neI ha hb,DB.neI ha hb⟩
def Eb{op:Cop}(hu:X.A.units+100<aQ)(h:Ny op da db=a8 k)(ha:DT X ρ a da)(hb:DT X ρ b db)(hm:aH op.op b=a9) :
  DE X ρ (.Compare a [op.op] [b] pos) (.bl k)/\DB X ρ (.Compare a [op.op] [b] pos) k:=by
 have inn:∀{r:Bool->Bool},(match db.sqv with|some (_,l)=>if D.depL l<=90/\da.dep<=90 then a8 (r (l.any λe=>deq e da))else ae|none=>ae)=a8 k->∃s l,DT X ρ b (D.seq s l)/\D.depL l<=98/\da.dep<10000/\k=r (l.any λe=>deq e da):=λ{r} h=>by
  cases e:db.sqv with
  |none=>rw[e]at h;cases h
  |some p =>
   obtain⟨s,l⟩:=p;rw[e]at h;have h:(if D.depL l<=90/\da.dep<=90 then a8 (r (l.any λe=>deq e da))else ae)=a8 k:=h;by_cases z:D.depL l<=90/\da.dep<=90
   .rw[if_pos z]at h;cases h;exact⟨s,l,jbq e▸hb,by omega,by omega,rfl⟩
   .rw[if_neg z]at h;cases h
 unfold Ny at h;split at h
 .exact j4v h ha hb
 .by_cases z:da.dep<=90/\db.dep<=90
  .rw[if_pos z]at h;cases h;exact⟨DE.eqD hu ha hb nofun nofun,DB.eqD hu ha hb nofun nofun⟩
  .rw[if_neg z]at h;cases h
 .cases h;exact⟨DE.neB ha hb,DB.neB ha hb⟩
 .cases h;exact⟨(DE.neS ha hb).eq (by rw[j1q]),(DB.neS ha hb).eq (by rw[j1q])⟩
 .cases h;exact⟨(DE.neS ha hb).eq (by simp),(DB.neS ha hb).eq (by simp)⟩
 .rename_i l m;by_cases z:D.depL l<=90/\D.depL m<=90
  .rw[if_pos z]at h;cases h;exact⟨DE.neD ah hu ha hb nofun nofun,DB.neD ah hu ha hb nofun nofun⟩
  .rw[if_neg z]at h;cases h
 .rename_i l m;by_cases z:D.depL l<=90/\D.depL m<=90
  .rw[if_pos z]at h;cases h;exact⟨DE.neD a9 hu ha hb nofun nofun,DB.neD a9 hu ha hb nofun nofun⟩
  .rw[if_neg z]at h;cases h
 .cases h;exact⟨DE.inS ha hb hm,DB.inS ha hb hm⟩
 .cases h;exact⟨DE.ltS ha hb,DB.ltS ha hb⟩
 .cases h;exact⟨DE.gtS ha hb,DB.gtS ha hb⟩
 .obtain⟨s,l,hb,hd,nd,e⟩:=inn (r:=id) h;subst e;exact⟨DE.in s hu ha hb hd nd hm,DB.in s hu ha hb hd nd hm⟩
 .obtain⟨s,l,hb,hd,nd,e⟩:=inn (r:=(!·)) h;subst e;exact⟨DE.notIn s hu ha hb hd nd hm,DB.notIn s hu ha hb hd nd hm⟩
 .cases h
def DE.shr{i j:Int}(ha:DT X ρ a (.int i))(hb:DT X ρ b (.int j))(h:0<=j):DE X ρ (.BinOp a .RShift b pos) (.int (i/2^j.toNat)):=DE.arI (g:=λi j=>i/2^j.toNat) jfq ha hb h
def jy{α:Type}{c:Prop}[Decidable c]{x y:α}(h:(if c then a8 x else ae)=a8 y):c/\x=y:=by
 by_cases z:c
 .rw[if_pos z]at h;exact⟨z,az h⟩
 .rw[if_neg z]at h;cases h
def j50{op:Bop}{i j n:Int}(h:binI op i j=a8 n)(ha:DT X ρ a (.int i))(hb:DT X ρ b (.int j)):DE X ρ (.BinOp a op.op b pos) (.int n):=by
 cases op
 .cases h;exact DE.add ha hb
 .cases h;exact DE.sub ha hb
 .obtain⟨z,e⟩:=jy h;subst e;exact DE.mul ha hb z
 .obtain⟨z,e⟩:=jy h;subst e;exact DE.fdivB ha hb z
 .obtain⟨z,e⟩:=jy h;subst e;exact DE.mod ha hb z
 .obtain⟨z,e⟩:=jy h;subst e;exact DE.pow ha hb z
 .obtain⟨z,e⟩:=jy h;subst e;exact DE.shl ha hb z
 .obtain⟨z,e⟩:=jy h;subst e;exact DE.shr ha hb z
 .cases h;exact DE.arI0 jfw ha hb
 .cases h;exact DE.arI0 jfo ha hb
def zm{n:Nat}(h:jr n=ah):n<=av:=of_decide_eq_true h
end
section
variable{X:Cx}{ρ:Rho}{a b e:au}{es:List au}{d:D}{pos p:aO}
def Has.lw:∀{r:Rk}{l:List D},Has X ρ a r->r.lw=a8 l->DL X ρ a l
 |.o l,_,h,q=>by cases q;exact DO.toL h
 |.w l,_,h,q=>by cases q;exact h
 |.e _,_,_,q=>by cases q
 |.t _,_,_,q=>by cases q
def j7q{op:Bop}{x y r:Rk}(h:Rx op x y=a8 r)(ha:Has X ρ a x)(hb:Has X ρ b y):Has X ρ (.BinOp a op.op b pos) r:=by
 unfold Rx at h;split at h
 .rename_i i j e1 e2;cases z:binI op i j with
  |none=>rw[z]at h;cases h
  |some n=>rw[z]at h;cases h;exact j50 z (e1▸ha.toT) (e2▸hb.toT)
 .rename_i y z e1 e2;split at h
  .obtain⟨q,e⟩:=jy h;subst e;exact DE.catS (e1▸ha.toT) (e2▸hb.toT) (zm q)
  .cases h
 .rename_i y k e1 e2;split at h
  .obtain⟨q,e⟩:=jy h;subst e;exact DE.mulS (e1▸ha.toT) (e2▸hb.toT) q.1 q.2
  .cases h
 .split at h
  .rename_i l m _ e1 e2;obtain⟨z,q⟩:=jy h;subst q;exact DO.catM (ha.toM e1) (hb.toM e2) (zm z)
  .rename_i l m _ e1 e2;obtain⟨z,q⟩:=jy h;subst q;exact DE.catTM (ha.toM e1) (hb.toM e2) (zm z)
  .rename_i l k _ _ e1 e3;obtain⟨z,q⟩:=jy h;subst q;exact DE.repT (ha.toM e1) (e3▸hb.toT) (λe=>by subst e;exact absurd z.2.2.1 (by simp)) z.1 z.2.1 (zm z.2.2.2)
  .rename_i k _ _ _ e3 _;cases e:x.lw with
   |none=>rw[e]at h;cases h
   |some l =>rw[e]at h;obtain⟨z,q⟩:=jy h;subst q;exact DO.rep (ha.lw e) (e3▸hb.toT) z.1 z.2.1 (zm z.2.2)
  .cases h
theorem Rw:∀{l:List D}{bs:List Bool},boolsOf l=a8 bs->l=bs.map D.bl
 |[],_,h=>by cases h;rfl
 |.bl b::r,bs,h=>by
  unfold boolsOf at h;cases e:boolsOf r with
  |none=>rw[e]at h;cases h
  |some q=>rw[e]at h;cases h;rw[Rw e];rfl
 |.non::_,_,h=>by cases h
 |.int _::_,_,h=>by cases h
 |.str _::_,_,h=>by cases h
 |.tup _::_,_,h=>by cases h
 |.lst _::_,_,h=>by cases h
 |.dct _ _::_,_,h=>by cases h
 |.sct _::_,_,h=>by cases h
 |.fn _ _::_,_,h=>by cases h
theorem v9:∀{l:List D}{bs:zo},intsOf l=a8 bs->l=bs.map D.int
 |[],_,h=>by cases h;rfl
 |.int b::r,bs,h=>by
  unfold intsOf at h;cases e:intsOf r with
  |none=>rw[e]at h;cases h
  |some q=>rw[e]at h;cases h;rw[v9 e];rfl
 |.non::_,_,h=>by cases h
 |.bl _::_,_,h=>by cases h
 |.str _::_,_,h=>by cases h
 |.tup _::_,_,h=>by cases h
 |.lst _::_,_,h=>by cases h
 |.dct _ _::_,_,h=>by cases h
 |.sct _::_,_,h=>by cases h
 |.fn _ _::_,_,h=>by cases h
theorem Ma:∀{l:List D}{bs:List aq},strsOf l=a8 bs->l=bs.map D.str
 |[],_,h=>by cases h;rfl
 |.str b::r,bs,h=>by
  unfold strsOf at h;cases e:strsOf r with
  |none=>rw[e]at h;cases h
  |some q=>rw[e]at h;cases h;rw[Ma e];rfl
 |.non::_,_,h=>by cases h
 |.bl _::_,_,h=>by cases h
 |.int _::_,_,h=>by cases h
 |.tup _::_,_,h=>by cases h
 |.lst _::_,_,h=>by cases h
 |.dct _ _::_,_,h=>by cases h
 |.sct _::_,_,h=>by cases h
 |.fn _ _::_,_,h=>by cases h
def Ji{w:Option W}{k:Bool}(h:truth w=a8 k):∃r,w=a8 (.v r)/\r.d=.bl k:=by
 unfold truth at h;split at h
 .rename_i r;split at h
  .rename_i q e;cases h;exact⟨r,rfl,e⟩
  .cases h
 .cases h
def j25(X:Cx)(ρ:Rho):List au->List Rk->Prop
 |[],[]=>True
 |e::es,r::rs=>(∀y,Zc r.d=a8 y->DE X ρ e (.str y))/\j25 X ρ es rs
 |_,_=>False
theorem j25.all{X:Cx}{ρ:Rho}:∀{es:List au}{rs:List Rk}{ys:List aq},j25 X ρ es rs->Qz rs=a8 ys->DPs X ρ es ys/\ys.length=rs.length
 |[],[],ys,_,q=>by cases q;exact⟨trivial,rfl⟩
 |e::es,r::rs,ys,h,q=>by
  unfold Qz at q;cases e1:Zc r.d with
  |none=>rw[e1]at q;cases q
  |some y =>
   cases e2:Qz rs with
   |none=>rw[e1,e2]at q;cases q
   |some ys' =>rw[e1,e2]at q;cases q;obtain⟨z1,z2⟩:=j25.all h.2 e2;exact⟨⟨h.1 y e1,z1⟩,by rw[xx,xx,z2]⟩
 |[],_::_,_,h,_=>h.elim
 |_::_,[],_,h,_=>h.elim
def log2_small{i:Int}(h:-18446744073709551616<i/\i<18446744073709551616):i.natAbs.log2<1920:=by
 by_cases z:i.natAbs=0
 .rw[z];decide
 .have e:(2:Nat)^64=18446744073709551616:=by decide
  have:i.natAbs.log2<64:=(mP z).mpr (by rw[e];omega);omega
def j5l{d:D}{y:aq}(h:Zc d=a8 y):y.length<=10000:=by
 cases d with
 |int i =>
  simp only[Zc]at h;split at h
  .rename_i q;cases h;have:=int_text_length_le (k:=1920) (by decide) (log2_small q);rw[PySem.ofString_length];omega
  .cases h
 |str z =>
  simp only[Zc]at h;split at h
  .rename_i q;cases h;exact q
  .cases h
 |tup l =>
  simp only[Zc]at h;split at h
  .split at h
   .rename_i q;cases h;exact q.2
   .cases h
  .cases h
 |_=>cases h
theorem Bg:∀{rs:List Rk}{ys:List aq},Qz rs=a8 ys->∀y∈ys,y.length<=10000
 |[],_,q=>by cases q;exact λy hy=>nomatch hy
 |r::rs,ys,q=>by
  unfold Qz at q;cases e1:Zc r.d with
  |none=>rw[e1]at q;cases q
  |some y =>
   cases e2:Qz rs with
   |none=>rw[e1,e2]at q;cases q
   |some ys' =>
    rw[e1,e2]at q;cases q;intro z hz;rcases xr.mp hz with rfl|hz
    .exact j5l e1
    .exact Bg e2 z hz
def DE.fmt{X:Cx}{ρ:Rho}{a:au}{d:D}{y:aq}{pos:aO}(hg:X.A.guards=a8 [])(hu:X.A.units+100<aQ)(ha:DT X ρ a d)(h:Zc d=a8 y):DE X ρ (.FormattedValue a (-1) ae pos) (.str y):=by
 cases d with
 |int i =>
  simp only[Zc]at h;split at h
  .rename_i q;cases h;exact DE.fmtI ha (log2_small q)
  .cases h
 |str z =>
  simp only[Zc]at h;split at h
  .rename_i q;cases h;exact DE.fmtS ha (by rw[cD];omega)
  .cases h
 |tup l =>
  simp only[Zc]at h;split at h
  .rename_i is ei;split at h
   .rename_i q;cases h;have e:=v9 ei;subst e;exact DE.fmtT hg hu ha (λi hi=>log2_small (q.1 i hi)) (by rw[cD];omega)
   .cases h
  .cases h
 |_=>cases h
def jil(Γ:aq->List D->Rc)(G:aq->Option D)(X:Cx)(t:Ex):Nd->Prop
 |.e e=>∀ρ r,ev Γ G t (j5 ρ)=a8 (.v r)->Has X ρ e r
 |.b e=>∀ρ k,truth (ev Γ G t (j5 ρ))=a8 k->DB X ρ e k
 |.w e=>∀ρ k,truth (ev Γ G t (j5 ρ))=a8 k->DW X ρ e k
 |.a es=>∀ρ rs,ev Γ G t (j5 ρ)=a8 (.a rs)->HasA X ρ es rs
 |.i tg it=>∀ρ ds,ev Γ G t (j5 ρ)=a8 (.i ds)->DI X ρ tg it ds
 |.o e=>∀ρ o,Qx (ev Γ G t (j5 ρ))=a8 o->DP X ρ e o
 |.p es=>∀ρ rs,ev Γ G t (j5 ρ)=a8 (.a rs)->j25 X ρ es rs
 |.c ifs=>∀ρ,(ev Γ G t (j5 ρ)=a8 (.a [])->DTs X ρ ifs ah)/\∀y k,ev Γ G t (j5 ρ)=a8 (.a [y])->y.d=.bl k->DTs X ρ ifs k
end
section
variable{Γ:aq->List D->Rc}{G:aq->Option D}{X:Cx}
def W5{is:List Nat}{elt' it' c':Ex}{elt it tg:au}{ifs:List au}{scope:b8}{ρ:Rho}{r:Rk}
  (hit:∀ρ ds,ev Γ G it' (j5 ρ)=a8 (.i ds)->DI X ρ tg it ds)
  (hb:∀ρ d ρ2,z9 is d (j5 ρ)=a8 ρ2->(∀j∈is,ρ[j]?=a8 .un)->∃ρ',j5 ρ'=ρ2/\Wk ρ' ρ/\owns ρ'=owns ρ/\∀C s H fp pn,DG (cCx X scope C s H fp pn) ρ tg d ρ')
  (he:∀C s H fp pn ρ r,ev Γ G elt' (j5 ρ)=a8 (.v r)->Has (cCx X scope C s H fp pn) ρ elt r)
  (hc:∀C s H fp pn ρ,(ev Γ G c' (j5 ρ)=a8 (.a [])->DTs (cCx X scope C s H fp pn) ρ ifs ah)/\∀y k,ev Γ G c' (j5 ρ)=a8 (.a [y])->y.d=.bl k->DTs (cCx X scope C s H fp pn) ρ ifs k)
  (h:ev Γ G (.comp is elt' it' c') (j5 ρ)=a8 (.v r)):∃(l:List D)(ρf:Rho)(ds:List D)(pr:D->Bool)(g:D->D),r=.o l/\l=(ds.filter pr).map g /\
   (ρf=ρ\/(za l=ah/\∃(i:Nat)(a:aj)(l':List D),ρ[i]?=a8 (.own a l')/\ρf=ρ.set i (.val (.lst l'))))/\DI X ρf tg it ds/\(∀j∈is,ρf[j]?=a8 .un)/\ds.length<=av /\
   (∀C s H fp pn,∀d∈ds,∃ρ2,DG (cCx X scope C s H fp pn) ρf tg d ρ2/\Wk ρ2 ρf/\owns ρ2=owns ρf/\DTs (cCx X scope C s H fp pn) ρ2 ifs (pr d)/\(pr d=ah->DE (cCx X scope C s H fp pn) ρ2 elt (g d))):=by
 have fr:∃ρf,j5 ρf=frz it' (j5 ρ)/\((Jh it' (j5 ρ)=a9/\ρf=ρ)\/(Jh it' (j5 ρ)=ah/\∃i a l,ρ[i]?=a8 (.own a l)/\ρf=ρ.set i (.val (.lst l)))):=by
  by_cases z:Jh it' (j5 ρ)=ah
  .unfold Jh at z;split at z
   .rename_i i ei;split at z
    .rename_i l e;obtain⟨a,q⟩:=Qy e;refine⟨ρ.set i (.val (.lst l)),?_,.inr ⟨?_,i,a,l,q,rfl⟩⟩
     .rw[jh];simp only[frz,ei,e,Sl.abs]
     .simp only[Jh,ei,e]
    .cases z
   .cases z
  .have z':Jh it' (j5 ρ)=a9:=by simpa using z
   refine⟨ρ,?_,.inl ⟨z',rfl⟩⟩;unfold frz;split
   .rename_i i ei;split
    .rename_i l e;simp only[Jh,ei,e]at z';cases z'
    .rfl
   .rfl
 obtain⟨ρf,ef,fr⟩:=fr;rw[jic]at h;rw[<-ef]at h;split at h
 .rename_i ds hds;split at h
  .rename_i hz;obtain⟨hfree,hlen⟩:=hz;generalize hf:(λd=>_:D->Option (Option D))=f at h;cases hl:Qc f ds with
   |none=>rw[hl]at h;cases h
   |some l =>
    rw[hl]at h;have h:(if (Jh it' (j5 ρ) && !za l)=ah then ae else a8 (W.v (.o l)))=a8 (.v r):=h;by_cases zz:(Jh it' (j5 ρ) && !za l)=ah
    .rw[if_pos zz]at h;cases h
    .rw[if_neg zz]at h;cases h;obtain⟨el,hmem⟩:=Dv hl;have hun:∀j∈is,ρf[j]?=a8 .un:=λj hj=>by
      have:=Pj.mp hfree j hj;split at this
      .rename_i e;exact Kr e
      .cases this
     refine⟨l,ρf,ds,_,_,rfl,el,?_,hit ρf ds hds,hun,zm hlen,λC s H fp pn d hd=>?_⟩
     .rcases fr with ⟨_,e⟩|⟨e1,i,a,l',hk,e⟩
      .exact .inl e
      .exact .inr ⟨by rw[e1]at zz;simpa using zz,i,a,l',hk,e⟩
     ·
      obtain⟨o,ho⟩:=hmem d hd;rw[<-hf]at ho ⊢;dsimp only at ho ⊢;cases hb2:z9 is d (j5 ρf) with
      |none=>rw[hb2]at ho;cases ho
      |some ρ2 =>
       obtain⟨ρ',e',wk,ow,dg⟩:=hb ρf d ρ2 hb2 hun;subst e';refine⟨ρ',dg C s H fp pn,wk,ow,?_⟩;rw[hb2]at ho;dsimp only at ho ⊢;cases hcv:ev Γ G c' (j5 ρ') with
       |none=>rw[hcv]at ho;cases ho
       |some w =>
        rw[hcv]at ho;split at ho
        .rename_i hw;cases hw;cases hev:ev Γ G elt' (j5 ρ') with
         |none=>rw[hev]at ho;cases ho
         |some w =>
          rw[hev]at ho;cases w with
          |i _=>cases ho
          |a _=>cases ho
          |v x =>
           dsimp only at ho ⊢;cases hst:x.st with
           |none=>rw[hst]at ho;cases ho
           |some y =>simp only[hst,k6,jL,fm,Tp];exact⟨((hc C s H fp pn ρ').1 hcv),λ_=>(he C s H fp pn ρ' x hev).toE hst⟩
        .rename_i y hw;cases hw;split at ho
         .rename_i e1;cases hev:ev Γ G elt' (j5 ρ') with
          |none=>rw[hev]at ho;cases ho
          |some w =>
           rw[hev]at ho;cases w with
           |i _=>cases ho
           |a _=>cases ho
           |v x =>
            dsimp only at ho ⊢;cases hst:x.st with
            |none=>rw[hst]at ho;cases ho
            |some z =>simp only[e1,hst,k6,jL,fm,Tp];exact⟨(hc C s H fp pn ρ').2 y ah hcv e1,λ_=>(he C s H fp pn ρ' x hev).toE hst⟩
         .rename_i e1;simp only[e1,Option.join,l6];exact⟨(hc C s H fp pn ρ').2 y a9 hcv e1,λz=>by cases z⟩
         .cases ho
        .cases ho
  .cases h
 .cases h
def Du{is:List Nat}{elt' it' c':Ex}{elt it tg:au}{ifs:List au}{scope:b8}{p:aO}{ρ:Rho}{r:Rk}(hq:X.calm=ah)(hX:Cok X G)
  (hit:∀ρ ds,ev Γ G it' (j5 ρ)=a8 (.i ds)->DI X ρ tg it ds) (hkind:scope.kind=.function) (hok:v6 scope X.env X.N is=ah) (hs:∀x,aG it X.env x=pure x)
  (hb:∀ρ d ρ2,z9 is d (j5 ρ)=a8 ρ2->(∀j∈is,ρ[j]?=a8 .un)->∃ρ',j5 ρ'=ρ2/\Wk ρ' ρ/\owns ρ'=owns ρ/\∀C s H fp pn,DG (cCx X scope C s H fp pn) ρ tg d ρ')
  (he:∀C s H fp pn ρ r,ev Γ G elt' (j5 ρ)=a8 (.v r)->Has (cCx X scope C s H fp pn) ρ elt r)
  (hc:∀C s H fp pn ρ,(ev Γ G c' (j5 ρ)=a8 (.a [])->DTs (cCx X scope C s H fp pn) ρ ifs ah)/\∀y k,ev Γ G c' (j5 ρ)=a8 (.a [y])->y.d=.bl k->DTs (cCx X scope C s H fp pn) ρ ifs k)
  (h:ev Γ G (.comp is elt' it' c') (j5 ρ)=a8 (.v r)):∃l,r=.o l/\DO X ρ (.ListComp elt [⟨tg,it,ifs,0⟩] scope p) l:=by
 obtain⟨l,ρf,ds,pr,g,er,el,hf,hi,hun,hz,hb'⟩:=W5 hit hb he hc h;refine⟨l,er,?_⟩;have main:DO X ρf (.ListComp elt [⟨tg,it,ifs,0⟩] scope p) ((ds.filter pr).map g):=DO.comp is _ _ hi hb' hun hz hq hkind hok hs;rw[<-el]at main;rcases hf with e|⟨hn,i,a,l',hk,e⟩
 .subst e;exact main
 .subst e;exact DO.unfrz hk main hn
end
section
variable{X:Cx}{ρ:Rho}{a b e:au}{es:List au}{d:D}{pos p:aO}
def Has.map(h:∀σ H Q,J8 X a σ H Q->J8 X e σ H Q):∀{r:Rk},Has X ρ a r->Has X ρ e r
 |.e _,q=>λσ H Q R z=>h σ H Q (q σ H Q R z)
 |.o _,q=>λσ H Q R z=>h σ H Q (q σ H Q R z)
 |.w _,q=>λσ H Q R z=>h σ H Q (q σ H Q R z)
 |.t _,q=>λσ H Q R z=>h σ H Q (q σ H Q R z)
def Has.bl{r:Rk}{k:Bool}(h:Has X ρ a r)(e:r.d=.bl k):DE X ρ a (.bl k):=DT.toE (e▸h.toT)
def Jy{f:Bf}{rs:List Rk}{r:Rk}{p2:aO}{G:aq->Option D}(c:Cok X G)(hq:f=.min\/f=.all\/f=.sum\/f=.any\/f=.max->X.calm=ah)(hg:Gl X f.name)(h:Zr f rs=a8 r)(ha:HasA X ρ es rs):Has X ρ (.Call (.Name f.name p) es [] p2) r:=by
 have one:∀{x:Rk},HasA X ρ es [x]->∃e,es=[e]/\Has X ρ e x/\af [e] X.env=[(a9,aC e X.env)]:=λ{x} h=>by cases h with|cons hs h t=>cases t;exact⟨_,rfl,h,hs⟩
 have two:∀{x y:Rk},HasA X ρ es [x,y]->∃e f,es=[e,f]/\Has X ρ e x/\Has X ρ f y/\af [e,f] X.env=(a9,aC e X.env)::af [f] X.env/\af [f] X.env=[(a9,aC f X.env)]:=λ{x y} h=>by cases h with|cons hs h t=>cases t with|cons hs2 h2 t2=>cases t2;exact⟨_,_,rfl,h,h2,hs,hs2⟩
 unfold Zr at h;split at h
 .rename_i x;obtain⟨e,ee,hx,hs⟩:=one ha;subst ee;split at h
  .rename_i l el;cases h;exact DE.lenL (el▸hx.toT) (c.bt _ (by decide)) hg hs
  .rename_i l el;cases h;exact DE.lenT (el▸hx.toT) (c.bt _ (by decide)) hg hs
  .rename_i y el;obtain⟨z,q⟩:=jy h;subst q;exact DE.lenS (el▸hx.toT) (zm z) (c.bt _ (by decide)) hg hs
  .cases h
 .rename_i x y;obtain⟨e,f,ee,hx,hy,hs,hs2⟩:=two ha;subst ee;split at h
  .rename_i i j ei ej;cases h;exact DE.min (ei▸hx.toT) (ej▸hy.toT) (c.bt _ (by decide)) (hq (.inl rfl)) hg hs hs2 (by rw[hs2];rfl)
  .cases h
 .rename_i x y;obtain⟨e,f,ee,hx,hy,hs,hs2⟩:=two ha;subst ee;split at h
  .rename_i i j ei ej;cases h;exact DE.max2 (ei▸hx.toT) (ej▸hy.toT) (c.bt _ (by decide)) (hq (.inr (.inr (.inr (.inr rfl))))) hg hs hs2 (by rw[hs2];rfl)
  .cases h
 .rename_i x;obtain⟨e,ee,hx,hs⟩:=one ha;subst ee;split at h
  .rename_i l el;split at h
   .rename_i ns en;obtain⟨z,q⟩:=jy h;cases q;have:=v9 en;subst this;exact DE.maxL (el▸hx.toT) (λz'=>by subst z';simp at z) (c.bt _ (by decide)) (hq (.inr (.inr (.inr (.inr rfl))))) hg hs
   .cases h
  .cases h
 .rename_i x;obtain⟨e,ee,hx,hs⟩:=one ha;subst ee;split at h
  .rename_i l el;split at h
   .rename_i ns en;obtain⟨z,q⟩:=jy h;cases q;have:=v9 en;subst this;exact DE.minL (el▸hx.toT) (λz'=>by subst z';simp at z) (c.bt _ (by decide)) (hq (.inl rfl)) hg hs
   .cases h
  .cases h
 .rename_i x;obtain⟨e,ee,hx,hs⟩:=one ha;subst ee;split at h
  .rename_i l el;cases q:boolsOf l with
   |none=>rw[q]at h;cases h
   |some bs =>rw[q]at h;cases h;have:=Rw q;subst this;exact DE.all (el▸hx.toT) (c.bt _ (by decide)) (hq (.inr (.inl rfl))) hg hs
  .cases h
 .rename_i x;obtain⟨e,ee,hx,hs⟩:=one ha;subst ee;split at h
  .rename_i l el;cases q:boolsOf l with
   |none=>rw[q]at h;cases h
   |some bs =>rw[q]at h;cases h;have:=Rw q;subst this;exact DE.any (el▸hx.toT) (c.bt _ (by decide)) (hq (.inr (.inr (.inr (.inl rfl))))) hg hs
  .cases h
 .rename_i x;obtain⟨e,ee,hx,hs⟩:=one ha;subst ee;split at h
  .rename_i s l el;cases h;exact DE.tupM (hx.toM el) (c.bt _ (by decide)) hg hs
  .cases h
 .rename_i x;obtain⟨e,ee,hx,hs⟩:=one ha;subst ee;split at h
  .rename_i s l el;cases h;exact DO.listM (hx.toM el) (c.bt _ (by decide)) hg hs
  .cases h
 .rename_i x;obtain⟨e,ee,hx,hs⟩:=one ha;subst ee;split at h
  .rename_i l el;cases q:intsOf l with
   |none=>rw[q]at h;cases h
   |some ns =>rw[q]at h;cases h;have:=v9 q;subst this;exact DE.sum ah (show DT X ρ e (.lst (ns.map D.int))from el▸hx.toT) (c.bt _ (by decide)) (hq (.inr (.inr (.inl rfl)))) hg hs
  .rename_i l el;cases q:intsOf l with
   |none=>rw[q]at h;cases h
   |some ns =>rw[q]at h;cases h;have:=v9 q;subst this;exact DE.sum a9 (show DT X ρ e (.tup (ns.map D.int))from el▸hx.toT) (c.bt _ (by decide)) (hq (.inr (.inr (.inl rfl)))) hg hs
  .cases h
 .rename_i x;obtain⟨e,ee,hx,hs⟩:=one ha;subst ee;split at h
  .rename_i k el;cases h;exact DE.int1 (el▸hx.toT) (c.bt _ (by decide)) hg hs
  .rename_i y el;split at h
   .rename_i hl;obtain⟨n,hn,rfl⟩:=Xl.mp h;exact DE.intS (el▸hx.toT) hn hl (c.bt _ (by decide)) hg hs
   .cases h
  .cases h
 .cases h
end
section
variable{Γ:aq->List D->Rc}{G:aq->Option D}{X:Cx}
def Ci{d:D}{ns:zo}(h:tupI d=a8 ns):d=.tup (ns.map D.int):=by
 unfold tupI at h;split at h
 .rw[v9 h]
 .cases h
theorem j0b:∀{l:List D}{ks:List zo},Wt l=a8 ks->l=ks.map λk=>D.tup (k.map D.int)
 |[],ks,h=>by cases h;rfl
 |d::l,ks,h=>by
  unfold Wt at h;split at h
  .rename_i k ks' e1 e2;cases h;rw[Ci e1,j0b e2];rfl
  .cases h
def jfg:∀{d:D}{k:Int×zo},prI d=a8 k->d=pairD k:=λ{d k} h=>by
 unfold prI at h;split at h
 .obtain⟨x,e,z⟩:=Xl.mp h;subst z;rw[Ci e];rfl
 .cases h
theorem j33:∀{l:List D}{ks:List (Int×zo)},j48 l=a8 ks->l=ks.map pairD
 |[],ks,h=>by cases h;rfl
 |d::l,ks,h=>by
  unfold j48 at h;split at h
  .rename_i k ks' e1 e2;cases h;rw[jfg e1,j33 e2];rfl
  .cases h
def j4w {ρ:Rho} {f:aq} {e:au} {es:List au} {rs:List Rk} {r:Rk} {p p2:aO} (g:Gok X Γ) (hg:Gl X f) (hdb:(f==k9a)=a9) (he:af (e::es) X.env=(a9,aC e X.env)::af es X.env)
  (hpl:(aP p2 (af es X.env)).any (·.1)=a9) (ha:HasA X ρ (e::es) rs)
  (h:(match zg rs with|some ds=>(Γ f ds).rk.map W.v|none=>match Γ f (rs.map Rk.d)with|.val d=>a8 (.v (.t d))|.fresh l=>if za l=ah then a8 (.v (.o l))else ae|_=>ae)=a8 (.v r)):Has X ρ (.Call (.Name f p) (e::es) [] p2) r:=by
 split at h
 .rename_i ds hds;have q:=g f ds;cases z:Γ f ds with
  |val d=>rw[z]at h q;cases h;exact DE.call q (ha.toA hds) ⟨rfl,rfl⟩ hg hdb he hpl
  |fresh l=>rw[z]at h q;cases h;exact DO.call q (ha.toA hds) ⟨rfl,rfl⟩ hg hdb he hpl
  |err x=>rw[z]at h;cases h
  |lval d=>rw[z]at h;cases h
  |mval d k=>rw[z]at h;cases h
  |merr x=>rw[z]at h;cases h
  |dval d ks ns=>rw[z]at h;cases h
  |no=>rw[z]at h;cases h
 .have q:=g f (rs.map Rk.d);split at h
  .rename_i d z;rw[z]at q;cases h;exact DT.call q ha.toT ⟨rfl,rfl⟩ hg hdb he hpl
  .rename_i l z;rw[z]at q;obtain⟨hn,e1⟩:=jy h;cases e1;exact DO.callT q ha.toT ⟨rfl,rfl⟩ hn hg hdb he hpl
  .cases h
def jf3{a:Ex}{ρ:En}{r:Rk}(h:ev Γ G (.rpr a) ρ=a8 (.v r)):∃x y,ev Γ G a ρ=a8 (.v x)/\x.d=.str y/\(cY y).length<=2000/\r=.e (.str (cY y)):=by
 rw[jkl]at h;split at h
 .rename_i x ex;split at h
  .rename_i y ey;split at h
   .rename_i hl;cases h;exact⟨x,y,ex,ey,hl,rfl⟩
   .cases h
  .cases h
 .cases h
end
def XM(X:Cx)(ρ:Rho)(y:aq):Nd->Prop
 |.e e=>DX X ρ e y
 |.a es=>DXA X ρ es y
 |_=>True
structure Tr(X:Cx)(t:Ex)(nd:Nd):Prop where
 m:∀(Γ:aq->List D->Rc)(G:aq->Option D),Cok X G->Gok X Γ->jil Γ G X t nd
 x:∀(Γ:aq->List D->Rc)(G:aq->Option D),Cok X G->Gok X Γ->∀ρ y,er Γ G t (j5 ρ)=a8 y->XM X ρ y nd
def Tr.int:∀{X:Cx}{i:Int}{n:Nat}{p:aO},Tr X (.lit (.int i)) (.e (.Constant (.int i) n p)):=by intro _ _ _ _;refine⟨λΓ G=>?_,λ_ _ _ _ _ _ h=>nomatch h⟩;intro _ _ ρ r h;simp only[Ca]at h;cases h;exact DE.int
def Tr.bl:∀{X:Cx}{b:Bool}{n:Nat}{p:aO},Tr X (.lit (.bl b)) (.e (.Constant (.bool b) n p)):=by intro _ _ _ _;refine⟨λΓ G=>?_,λ_ _ _ _ _ _ h=>nomatch h⟩;intro _ _ ρ r h;simp only[Ca]at h;cases h;exact DE.bl
def Tr.non:∀{X:Cx}{n:Nat}{p:aO},Tr X (.lit .non) (.e (.Constant .none n p)):=by intro _ _ _;refine⟨λΓ G=>?_,λ_ _ _ _ _ _ h=>nomatch h⟩;intro _ _ ρ r h;simp only[Ca]at h;cases h;exact DE.non
def Tr.str:∀{X:Cx}{y:aq}{n:Nat}{p:aO},Tr X (.lit (.str y)) (.e (.Constant (.str y) n p)):=by intro _ _ _ _;refine⟨λΓ G=>?_,λ_ _ _ _ _ _ h=>nomatch h⟩;intro _ _ ρ r h;simp only[Ca]at h;cases h;exact DE.str
def Tr.var:∀{X:Cx}{k:Nat}{x:aq}{p:aO}(hN:X.N[k]?=a8 x) (hv:Vis X.env.scope x) (hd:(x==k9a)=a9) (hcd:(x==k9b)=a9),Tr X (.var k) (.e (.Name x p)):=by
 intro _ _ _ _ hN hv hd hcd;refine⟨λΓ G=>?_,λ_ _ _ _ _ _ h=>nomatch h⟩;intro _ _ ρ r h;simp only[jkh,Cg]at h;split at h
 .rename_i e;cases h;exact DE.var _ (Vu e) hN hv hd hcd
 .rename_i e;cases h;obtain⟨a,q⟩:=Qy e;exact DL.var _ q hN hv hd hcd
 .cases h
def Tr.glob:∀{X:Cx}{x:aq}{p:aO}(hg:Gl X x)(hd:(x==k9a)=a9) (hb:Ye x=a9),Tr X (.glob x) (.e (.Name x p)):=by
 intro _ _ _ hg hd hb;refine⟨λΓ G=>?_,λ_ _ _ _ _ _ h=>nomatch h⟩;rename_i X x p;intro c _ ρ r h;simp only[ji9]at h;cases e:G x with
 |none=>rw[e]at h;cases h
 |some d=>rw[e]at h;cases h;obtain⟨u,v,hm,r,q⟩:=c.gl x d hb e;exact DE.glob hg hm r q hd
def Tr.bin:∀{X:Cx}{op:Bop}{a' b':Ex}{a b:au}{p:aO},Tr X a' (.e a)->Tr X b' (.e b)->Tr X (.bin op a' b') (.e (.BinOp a op.op b p)):=by
 intro _ _ _ _ _ _ _ q0 q1;refine⟨λΓ G=>?_,λ_ _ _ _ _ _ h=>nomatch h⟩;have iha:=q0.m Γ G;have ihb:=q1.m Γ G;intro c g ρ r h;simp only[jkq,V8]at h;split at h
 .rename_i x y ex ey;cases e:Rx _ x y with
  |none=>rw[e]at h;cases h
  |some z=>rw[e]at h;cases h;exact j7q e (iha c g ρ x ex) (ihb c g ρ y ey)
 .cases h
def Tr.neg:∀{X:Cx}{a':Ex}{a:au}{p:aO},Tr X a' (.e a)->Tr X (.neg a') (.e (.UnaryOp .USub a p)):=by
 intro _ _ _ _ q0;refine⟨λΓ G=>?_,λ_ _ _ _ _ _ h=>nomatch h⟩;have iha:=q0.m Γ G;intro c g ρ r h;simp only[jkm,j19]at h;split at h
 .rename_i x ex;split at h
  .rename_i i e;cases h;exact DE.neg (e▸(iha c g ρ x ex).toT)
  .cases h
 .cases h
def Tr.cmp:∀{X:Cx}{op:Cop}{a' b':Ex}{a b:au}{p:aO}(hm:aH op.op b=a9),Tr X a' (.e a)->Tr X b' (.e b)->Tr X (.cmp op a' b') (.e (.Compare a [op.op] [b] p)):=by
 intro _ _ _ _ _ _ _ hm q0 q1;refine⟨λΓ G=>?_,λ_ _ _ _ _ _ h=>nomatch h⟩;have iha:=q0.m Γ G;have ihb:=q1.m Γ G;intro c g ρ r h;simp only[jb8,Ka]at h;split at h
 .rename_i x y ex ey;cases e:Ny _ x.d y.d with
  |none=>rw[e]at h;cases h
  |some z=>rw[e]at h;cases h;exact(Eb c.un' e (iha c g ρ x ex).toT (ihb c g ρ y ey).toT hm).1
 .cases h
def Tr.bcmp:∀{X:Cx}{op:Cop}{a' b':Ex}{a b:au}{p:aO}(hm:aH op.op b=a9),Tr X a' (.e a)->Tr X b' (.e b)->Tr X (.cmp op a' b') (.b (.Compare a [op.op] [b] p)):=by
 intro _ _ _ _ _ _ _ hm q0 q1;refine⟨λΓ G=>?_,λ_ _ _ _ _ _ _=>trivial⟩;have iha:=q0.m Γ G;have ihb:=q1.m Γ G;intro c g ρ k h;obtain⟨r,h,hk⟩:=Ji h;simp only[jb8,Ka]at h;split at h
 .rename_i x y ex ey;cases e:Ny _ x.d y.d with
  |none=>rw[e]at h;cases h
  |some z=>rw[e]at h;cases h;cases hk;exact(Eb c.un' e (iha c g ρ x ex).toT (ihb c g ρ y ey).toT hm).2
 .cases h
def Tr.bisN:∀{X:Cx}{a':Ex}{a:au}{n:Nat}{p p2:aO},Tr X a' (.e a)->Tr X (.isN a') (.b (.Compare a [.Is] [.Constant .none n p2] p)):=by
 intro _ _ _ _ _ _ q0;refine⟨λΓ G=>?_,λ_ _ _ _ _ _ _=>trivial⟩;have iha:=q0.m Γ G;intro c g ρ k h;obtain⟨r,h,hk⟩:=Ji h;simp only[jb7]at h;split at h
 .rename_i x ex;cases h;cases hk;exact DB.isN (iha c g ρ x ex).toT
 .cases h
def Tr.isNN:∀{X:Cx}{a':Ex}{a:au}{n:Nat}{p p2:aO},Tr X a' (.e a)->Tr X (.not (.isN a')) (.e (.Compare a [.IsNot] [.Constant .none n p2] p)):=by
 intro _ _ _ _ _ _ q0;refine⟨λΓ G=>?_,λ_ _ _ _ _ _ h=>nomatch h⟩;have iha:=q0.m Γ G;intro c g ρ r h;simp only[jb6,jb7]at h;cases e:truth _ with
 |none=>rw[e]at h;cases h
 |some k =>
  rw[e]at h;cases h;obtain⟨x,ex,ed⟩:=Ji e;split at ex
  .rename_i y ey;cases ex;cases ed;exact DE.isNotN (iha c g ρ y ey).toT
  .cases ex
def Tr.one:∀{X:Cx}{a':Ex}{a:au}{op:BoolOp}{p:aO},Tr X a' (.e a)->Tr X a' (.e (.BoolOp op [a] p)):=by intro _ _ _ _ _ q0;refine⟨λΓ G=>?_,λΓ G c g ρ y h σ H Q R k=>(j67 peS).to (q0.x Γ G c g ρ y h σ H Q R k)⟩;have iha:=q0.m Γ G;intro c g ρ r h;exact Has.map (λσ H Q q=>(j67 peS).to q) (iha c g ρ r h)
def Tr.and:∀{X:Cx}{a' t':Ex}{a b:au}{rest:List au}{p:aO},Tr X a' (.e a)->Tr X t' (.e (.BoolOp .And (b::rest) p))->Tr X (.and a' t') (.e (.BoolOp .And (a::b::rest) p)):=by
 intro _ _ _ _ _ _ _ q0 q1;refine⟨λΓ G=>?_,λ_ _ _ _ _ _ h=>nomatch h⟩;have iha:=q0.m Γ G;have ihb:=q1.m Γ G;intro c g ρ r h;simp only[jb9]at h;split at h
 .rename_i e;cases h;obtain⟨x,ex,ed⟩:=Ji e;exact(DE.and (m:=a9) ((iha c g ρ x ex).bl ed).toT λz=>by cases z)
 .rename_i e;obtain⟨x,ex,ed⟩:=Ji e;cases e2:truth (ev Γ G _ (j5 ρ)) with
  |none=>rw[e2]at h;cases h
  |some k =>rw[e2]at h;cases h;obtain⟨y,ey,fd⟩:=Ji e2;exact(DE.and ((iha c g ρ x ex).bl ed).toT λ_=>(ihb c g ρ y ey).bl fd).eq (by simp)
 .cases h
def Tr.wand1:∀{X:Cx}{a':Ex}{a:au}{p:aO},Tr X a' (.b a)->Tr X a' (.w (.BoolOp .And [a] p)):=by intro _ _ _ _ q0;refine⟨λΓ G=>?_,λ_ _ _ _ _ _ _=>trivial⟩;have iha:=q0.m Γ G;intro c g ρ k h;exact DW.and1 (iha c g ρ k h)
def Tr.wor1:∀{X:Cx}{a':Ex}{a:au}{p:aO},Tr X a' (.b a)->Tr X a' (.w (.BoolOp .Or [a] p)):=by intro _ _ _ _ q0;refine⟨λΓ G=>?_,λ_ _ _ _ _ _ _=>trivial⟩;have iha:=q0.m Γ G;intro c g ρ k h;exact DW.or1 (iha c g ρ k h)
def Tr.wand:∀{X:Cx}{a' t':Ex}{a b:au}{rest:List au}{p:aO},Tr X a' (.b a)->Tr X t' (.w (.BoolOp .And (b::rest) p))->Tr X (.and a' t') (.w (.BoolOp .And (a::b::rest) p)):=by
 intro _ _ _ _ _ _ _ q0 q1;refine⟨λΓ G=>?_,λ_ _ _ _ _ _ _=>trivial⟩;have iha:=q0.m Γ G;have ihb:=q1.m Γ G;intro c g ρ k h;obtain⟨r,h,hk⟩:=Ji h;simp only[jb9]at h;split at h
 .rename_i e;cases h;cases hk;exact DW.and (m:=a9) (iha c g ρ a9 e) λz=>by cases z
 .rename_i e;cases e2:truth (ev Γ G _ (j5 ρ)) with
  |none=>rw[e2]at h;cases h
  |some m =>rw[e2]at h;cases h;cases hk;have q:=DW.and (iha c g ρ ah e) λ_=>ihb c g ρ _ e2;rw[l7]at q;exact q
 .cases h
def Tr.wor:∀{X:Cx}{a' t':Ex}{a b:au}{rest:List au}{p:aO},Tr X a' (.b a)->Tr X t' (.w (.BoolOp .Or (b::rest) p))->Tr X (.or a' t') (.w (.BoolOp .Or (a::b::rest) p)):=by
 intro _ _ _ _ _ _ _ q0 q1;refine⟨λΓ G=>?_,λ_ _ _ _ _ _ _=>trivial⟩;have iha:=q0.m Γ G;have ihb:=q1.m Γ G;intro c g ρ k h;obtain⟨r,h,hk⟩:=Ji h;simp only[jm3]at h;split at h
 .rename_i e;cases h;cases hk;exact DW.or (m:=a9) (iha c g ρ ah e) λz=>by cases z
 .rename_i e;cases e2:truth (ev Γ G _ (j5 ρ)) with
  |none=>rw[e2]at h;cases h
  |some m =>rw[e2]at h;cases h;cases hk;have q:=DW.or (iha c g ρ a9 e) λ_=>ihb c g ρ _ e2;rw[l9]at q;exact q
 .cases h
def Tr.bw:∀{X:Cx}{a':Ex}{op:BoolOp}{es:List au}{p:aO},Tr X a' (.w (.BoolOp op es p))->Tr X a' (.b (.BoolOp op es p)):=by intro _ _ _ _ _ q0;refine⟨λΓ G=>?_,λ_ _ _ _ _ _ _=>trivial⟩;have iha:=q0.m Γ G;intro c g ρ k h;exact DW.toB (iha c g ρ k h)
def Tr.bnot:∀{X:Cx}{a':Ex}{a:au}{p:aO},Tr X a' (.b a)->Tr X (.not a') (.b (.UnaryOp .Not a p)):=by
 intro _ _ _ _ q0;refine⟨λΓ G=>?_,λ_ _ _ _ _ _ _=>trivial⟩;have iha:=q0.m Γ G;intro c g ρ k h;obtain⟨r,h,hk⟩:=Ji h;simp only[jb6]at h;cases e:truth (ev Γ G _ (j5 ρ)) with
 |none=>rw[e]at h;cases h
 |some m=>rw[e]at h;cases h;cases hk;exact DB.not (iha c g ρ m e)
def Tr.bval:∀{X:Cx}{a':Ex}{a:au}(he:∀whole,gw a X.env whole=(do let v <-whole;lC a.pos;iy [v] (truthy v))),Tr X a' (.e a)->Tr X a' (.b a):=by intro _ _ _ he q0;refine⟨λΓ G=>?_,λ_ _ _ _ _ _ _=>trivial⟩;have iha:=q0.m Γ G;intro c g ρ k h;obtain⟨r,h,hk⟩:=Ji h;exact DB.val ((iha c g ρ r h).bl hk).toT he
def Tr.ite:∀{X:Cx}{c' a' b':Ex}{c a b:au}{p:aO},Tr X c' (.b c)->Tr X a' (.e a)->Tr X b' (.e b)->Tr X (.ite c' a' b') (.e (.IfExp c a b p)):=by
 intro _ _ _ _ _ _ _ _ q0 q1 q2;refine⟨λΓ G=>?_,λ_ _ _ _ _ _ h=>nomatch h⟩;have ihc:=q0.m Γ G;have iha:=q1.m Γ G;have ihb:=q2.m Γ G;intro c g ρ r h;simp only[jko]at h;split at h
 .rename_i e;split at h
  .rename_i x ex;cases es:x.st with
   |none=>rw[es]at h;cases h
   |some d=>rw[es]at h;cases h;exact(DE.ite (d':=d) (ihc c g ρ ah e) (λ_=>(iha c g ρ x ex).toE es) λz=>by cases z).eq (by simp)
  .cases h
 .rename_i e;split at h
  .rename_i x ex;cases es:x.st with
   |none=>rw[es]at h;cases h
   |some d=>rw[es]at h;cases h;exact(DE.ite (d:=d) (ihc c g ρ a9 e) (λz=>by cases z) λ_=>(ihb c g ρ x ex).toE es).eq (by simp)
  .cases h
 .cases h
def Tr.nil:∀{X:Cx},Tr X .nil (.a []):=by intro _;refine⟨λΓ G=>?_,λ_ _ _ _ _ _ h=>nomatch h⟩;intro c g ρ rs h;simp only[M3]at h;cases h;exact .nil
def Tr.cons:∀{X:Cx}{a' b':Ex}{a:au}{es:List au}(hs:af (a::es) X.env=(a9,aC a X.env)::af es X.env),Tr X a' (.e a)->Tr X b' (.a es)->Tr X (.cons a' b') (.a (a::es)):=by
 intro _ _ _ _ _ hs q0 q1;refine⟨λΓ G=>?_,λΓ G=>?_⟩
 .have iha:=q0.m Γ G;have ihb:=q1.m Γ G;intro c g ρ rs h;simp only[Uk,consW]at h;split at h
  .rename_i x xs ex exs;cases h;exact .cons hs (iha c g ρ x ex) (ihb c g ρ xs exs)
  .cases h
 .skip
  intro c g ρ y h;rw[er]at h;split at h
  .rename_i x ex;cases h;exact DXA.head (q0.x Γ G c g ρ _ ex) hs
  split at h
  .rename_i r ez;exact DXA.tail (q0.m Γ G c g ρ r ez).toT (q1.x Γ G c g ρ y h) hs
  .cases h
def Tr.tup:∀{X:Cx}{es':Ex}{es:List au}{n:Nat}{p:aO},Tr X es' (.a es)->Tr X (.tup es') (.e (.Tuple es n p)):=by
 intro _ _ _ _ _ q0;refine⟨λΓ G=>?_,λ_ _ _ _ _ _ h=>nomatch h⟩;have iha:=q0.m Γ G;intro c g ρ r h;simp only[jki,Uz]at h;split at h
 .rename_i rs ers;split at h
  .rename_i ds hds;obtain⟨z,q⟩:=jy h;cases q;exact DE.tup (n:=0) ((iha c g ρ rs ers).toA hds) (zm z)
  .cases h
 .cases h
def Tr.lst:∀{X:Cx}{es':Ex}{es:List au}{p:aO},Tr X es' (.a es)->Tr X (.lst es') (.e (.List es p)):=by
 intro _ _ _ _ q0;refine⟨λΓ G=>?_,λ_ _ _ _ _ _ h=>nomatch h⟩;have iha:=q0.m Γ G;intro c g ρ r h;simp only[jkn,Vk]at h;split at h
 .rename_i rs ers;split at h
  .rename_i ds hds;obtain⟨z,q⟩:=jy h;cases q;exact DO.lst ((iha c g ρ rs ers).toA hds) (zm z)
  .cases h
 .cases h
def Tr.ix:∀{X:Cx}{a' b':Ex}{a b:au}{p:aO}(hs:Jv b),Tr X a' (.e a)->Tr X b' (.e b)->Tr X (.ix a' b') (.e (.Subscript a b p)):=by
 intro _ _ _ _ _ _ hs q0 q1;refine⟨λΓ G=>?_,λΓ G c g ρ y h σ H Q R k=>(Ur Mq peS peS hs).to (q0.x Γ G c g ρ y (by rw[er]at h;exact h) σ H _ R k)⟩;have iha:=q0.m Γ G;have ihb:=q1.m Γ G;intro c g ρ r h;simp only[jm4,ixW]at h;split at h
 .rename_i x y ex ey;split at h
  .rename_i s l i hx hy;cases z:atI l i with
   |none=>rw[z]at h;cases h
   |some d=>rw[z]at h;cases h;exact DE.ixM ((iha c g ρ x ex).toM hx) (hy▸(ihb c g ρ y ey).toT) z hs
  .rename_i i hx hy;split at h
   .rename_i y' ed;split at h
    .rename_i hl;cases z:atI y'.cps.toList i with
     |none=>rw[z]at h;cases h
     |some d=>rw[z]at h;cases h;exact DE.ixC (ed▸(iha c g ρ x ex).toT) (hy▸(ihb c g ρ y ey).toT) (zm hl) z hs
    .cases h
   .cases h
  .cases h
 .cases h
def Tr.oN:∀{X:Cx},Tr X .nil (.o ae):=by intro _;refine⟨λΓ G=>?_,λ_ _ _ _ _ _ _=>trivial⟩;intro c g ρ o h;simp only[M3,Qx]at h;cases h;exact DP.none
def Tr.oS:∀{X:Cx}{a':Ex}{a:au},Tr X a' (.e a)->Tr X (.cons a' .nil) (.o (a8 a)):=by
 intro _ _ _ q0;refine⟨λΓ G=>?_,λ_ _ _ _ _ _ _=>trivial⟩;have iha:=q0.m Γ G;intro c g ρ o h;simp only[Uk,M3,consW]at h;split at h
 .rename_i x xs ex exs;cases exs;simp only[Qx]at h;split at h
  .rename_i i ei;cases h;exact DP.some (ei▸(iha c g ρ x ex).toT)
  .cases h
 .cases h
def Tr.sl:∀{X:Cx}{a' l' h':Ex}{a:au}{lo hi:Option au}{p p2:aO},Tr X a' (.e a)->Tr X l' (.o lo)->Tr X h' (.o hi)->Tr X (.sl a' l' h') (.e (.Subscript a (.Slice lo hi ae p2) p)):=by
 intro _ _ _ _ _ _ _ _ _ q0 q1 q2;refine⟨λΓ G=>?_,λ_ _ _ _ _ _ h=>nomatch h⟩;have iha:=q0.m Γ G;have ihl:=q1.m Γ G;have ihh:=q2.m Γ G;intro c g ρ r h;simp only[jm2]at h;split at h
 .rename_i x l hh ex el eh;split at h
  .rename_i ds e;cases h;exact DO.sliceM ((iha c g ρ x ex).toM e) (ihl c g ρ l el) (ihh c g ρ hh eh)
  .rename_i ds e;split at h
   .cases h
   .rename_i z;cases h;exact DE.sliceM ((iha c g ρ x ex).toM e) (ihl c g ρ l el) (ihh c g ρ hh eh) z
  .split at h
   .rename_i y' ed;obtain⟨z,q⟩:=jy h;cases q;exact DE.sliceS (ed▸(iha c g ρ x ex).toT) (ihl c g ρ l el) (ihh c g ρ hh eh) (zm z)
   .cases h
 .cases h
def Tr.call:∀{X:Cx}{f:aq}{es':Ex}{e:au}{es:List au}{p p2:aO}(hg:Gl X f) (hdb:(f==k9a)=a9) (he:af (e::es) X.env=(a9,aC e X.env)::af es X.env) (hpl:(aP p2 (af es X.env)).any (·.1)=a9),Tr X es' (.a (e::es))->Tr X (.call f es') (.e (.Call (.Name f p) (e::es) [] p2)):=by
 intro _ f _ _ _ _ _ hg hdb he hpl q0;refine⟨λΓ G=>?_,λΓ G=>?_⟩
 .have iha:=q0.m Γ G;intro c g ρ r h;simp only[jid,Qm]at h;split at h
  .rename_i rs ers;exact j4w g hg hdb he hpl (iha c g ρ rs ers) h
  .cases h
 .skip
  intro c g ρ y h;rw[er]at h;split at h
  .rename_i x ex;split at h
   .rename_i hz;cases h;obtain⟨d,hd⟩:=Xx.mp hz;obtain⟨fa,hfa,hk⟩:=c.fn _ d hd;exact DX.args (q0.x Γ G c g ρ _ ex) hg hdb hfa hk he hpl
   .cases h
  split at h
  .rename_i rs ers;split at h
   .rename_i z ez;split at h
    .rename_i hz;cases h;have q:=g f (rs.map Rk.d);rw[ez]at q;obtain⟨d,hd⟩:=Xx.mp hz;obtain⟨_,o,ho⟩:=c.ec _ d hd;exact DX.call q (q0.m Γ G c g ρ rs ers).toT ⟨rfl,rfl⟩ (W.mg_of c.kin c.ns ho) hg hdb he hpl
    .cases h
   .cases h
  .cases h
def Tr.callD:∀{X:Cx}{f:aq}{es':Ex}{e:au}{es:List au}{p p2:aO}(hf:f∈j4t) (hg:Gl X f) (hdb:(f==k9a)=a9) (he:af (e::es) X.env=(a9,aC e X.env)::af es X.env) (hpl:(aP p2 (af es X.env)).any (·.1)=a9),Tr X es' (.a (e::es))->Tr X (.callD f es') (.e (.Call (.Name f p) (e::es) [] p2)):=by
 intro _ f _ _ _ _ _ hf hg hdb he hpl q0;refine⟨λΓ G=>?_,λ_ _ _ _ _ _ h=>nomatch h⟩;have iha:=q0.m Γ G;intro c g ρ r h;simp only[jeb]at h;split at h
 .rename_i rs ers;split at h
  .rename_i ds eds;split at h
   .rename_i d ed;cases h;have q:=g f (ds++[.non]);rw[ed]at q;exact DE.callD q hf ((iha c g ρ rs ers).toA eds) ⟨rfl,rfl⟩ hg hdb he hpl
   .cases h
  .cases h
 .cases h
def Tr.max1:∀{X:Cx}{es':Ex}{e:au}{p p2:aO}(hq:X.calm=ah)(hg:Gl X "max"),Tr X es' (.a [e])->Tr X (.blt .max es') (.e (.Call (.Name "max" p) [e] [] p2)):=by
 intro _ _ _ _ _ hq hg q0;refine⟨λΓ G=>?_,λ_ _ _ _ _ _ h=>nomatch h⟩;have iha:=q0.m Γ G;intro c g ρ r h;simp only[Uy,vh]at h;split at h
 .rename_i rs ers;cases e:Zr _ rs with
  |none=>rw[e]at h;cases h
  |some x=>rw[e]at h;cases h;exact Jy (f:=.max) c (λ_=>hq) hg e (iha c g ρ rs ers)
 .cases h
def Tr.len:∀{X:Cx}{es':Ex}{e:au}{p p2:aO}(hg:Gl X "len"),Tr X es' (.a [e])->Tr X (.blt .len es') (.e (.Call (.Name "len" p) [e] [] p2)):=by
 intro _ _ _ _ _ hg q0;refine⟨λΓ G=>?_,λ_ _ _ _ _ _ h=>nomatch h⟩;have iha:=q0.m Γ G;intro c g ρ r h;simp only[Uy,vh]at h;split at h
 .rename_i rs ers;cases e:Zr _ rs with
  |none=>rw[e]at h;cases h
  |some x=>rw[e]at h;cases h;exact Jy (f:=.len) c (λz=>by rcases z with z|z|z|z|z<;>cases z) hg e (iha c g ρ rs ers)
 .cases h
def Tr.all:∀{X:Cx}{es':Ex}{e:au}{p p2:aO}(hq:X.calm=ah)(hg:Gl X "all"),Tr X es' (.a [e])->Tr X (.blt .all es') (.e (.Call (.Name "all" p) [e] [] p2)):=by
 intro _ _ _ _ _ hq hg q0;refine⟨λΓ G=>?_,λ_ _ _ _ _ _ h=>nomatch h⟩;have iha:=q0.m Γ G;intro c g ρ r h;simp only[Uy,vh]at h;split at h
 .rename_i rs ers;cases e:Zr _ rs with
  |none=>rw[e]at h;cases h
  |some x=>rw[e]at h;cases h;exact Jy (f:=.all) c (λ_=>hq) hg e (iha c g ρ rs ers)
 .cases h
def Tr.tuple:∀{X:Cx}{es':Ex}{e:au}{p p2:aO}(hg:Gl X "tuple"),Tr X es' (.a [e])->Tr X (.blt .tuple es') (.e (.Call (.Name "tuple" p) [e] [] p2)):=by
 intro _ _ _ _ _ hg q0;refine⟨λΓ G=>?_,λ_ _ _ _ _ _ h=>nomatch h⟩;have iha:=q0.m Γ G;intro c g ρ r h;simp only[Uy,vh]at h;split at h
 .rename_i rs ers;cases e:Zr _ rs with
  |none=>rw[e]at h;cases h
  |some x=>rw[e]at h;cases h;exact Jy (f:=.tuple) c (λz=>by rcases z with z|z|z|z|z<;>cases z) hg e (iha c g ρ rs ers)
 .cases h
def Tr.list:∀{X:Cx}{es':Ex}{e:au}{p p2:aO}(hg:Gl X "list"),Tr X es' (.a [e])->Tr X (.blt .list es') (.e (.Call (.Name "list" p) [e] [] p2)):=by
 intro _ _ _ _ _ hg q0;refine⟨λΓ G=>?_,λ_ _ _ _ _ _ h=>nomatch h⟩;have iha:=q0.m Γ G;intro c g ρ r h;simp only[Uy,vh]at h;split at h
 .rename_i rs ers;cases e:Zr _ rs with
  |none=>rw[e]at h;cases h
  |some x=>rw[e]at h;cases h;exact Jy (f:=.list) c (λz=>by rcases z with z|z|z|z|z<;>cases z) hg e (iha c g ρ rs ers)
 .cases h
def Tr.sum:∀{X:Cx}{es':Ex}{e:au}{p p2:aO}(hq:X.calm=ah)(hg:Gl X "sum"),Tr X es' (.a [e])->Tr X (.blt .sum es') (.e (.Call (.Name "sum" p) [e] [] p2)):=by
 intro _ _ _ _ _ hq hg q0;refine⟨λΓ G=>?_,λ_ _ _ _ _ _ h=>nomatch h⟩;have iha:=q0.m Γ G;intro c g ρ r h;simp only[Uy,vh]at h;split at h
 .rename_i rs ers;cases e:Zr _ rs with
  |none=>rw[e]at h;cases h
  |some x=>rw[e]at h;cases h;exact Jy (f:=.sum) c (λ_=>hq) hg e (iha c g ρ rs ers)
 .cases h
def Tr.intc:∀{X:Cx}{es':Ex}{e:au}{p p2:aO}(hg:Gl X "int"),Tr X es' (.a [e])->Tr X (.blt .int es') (.e (.Call (.Name "int" p) [e] [] p2)):=by
 intro _ _ _ _ _ hg q0;refine⟨λΓ G=>?_,λ_ _ _ _ _ _ h=>nomatch h⟩;have iha:=q0.m Γ G;intro c g ρ r h;simp only[Uy,vh]at h;split at h
 .rename_i rs ers;cases e:Zr _ rs with
  |none=>rw[e]at h;cases h
  |some x=>rw[e]at h;cases h;exact Jy (f:=.int) c (λz=>by rcases z with z|z|z|z|z<;>cases z) hg e (iha c g ρ rs ers)
 .cases h
def Tr.join:∀{X:Cx}{a':Ex}{a:au}{sep:aq}{n:Nat}{p0 p1 p2:aO}(hbase:aW (.Constant (.str sep) n p0) "join" X.env (aC (.Constant (.str sep) n p0) X.env)=aC (.Constant (.str sep) n p0) X.env) (hfew:((aP p2 (af [a] X.env)).all (λx=>!x.1)&&(bM p2 (ba [] X.env)).all (λx=>x.1.isSome)&&decide (([a]:List au).length+([]:List b7).length+(if ([]:List b7).isEmpty then 0 else 1)<30))=ah) (hline:(p1.endLine==p2.line)=ah) (hs:af [a] X.env=(a9,aC a X.env)::af [] X.env),Tr X a' (.e a)->Tr X (.join sep a') (.e (.Call (.Attribute (.Constant (.str sep) n p0) "join" p1) [a] [] p2)):=by
 intro _ _ _ _ _ _ _ _ hbase hfew hline hs q0;refine⟨λΓ G=>?_,λ_ _ _ _ _ _ h=>nomatch h⟩;have iha:=q0.m Γ G;intro c g ρ r h;simp only[ji8,Ol]at h;split at h
 .rename_i x ex;split at h
  .rename_i l el;split at h
   .rename_i ts et;obtain⟨z,q⟩:=jy h;cases q;have:=Ma et;subst this;exact DE.join (el▸(iha c g ρ x ex).toT) z hfew hbase hline hs
   .cases h
  .cases h
 .cases h
def Tr.lset:∀{X:Cx}{a':Ex}{a:au}{p p1 p2 pos:aO}(hq:X.calm=ah)(hg:Gl X "len") (hg2:Gl X "set") (hs:af [a] X.env=[(a9,aC a X.env)]) (hs2:af [.Call (.Name "set" p1) [a] [] p2] X.env=[(a9,aC (.Call (.Name "set" p1) [a] [] p2) X.env)]),Tr X a' (.e a)->Tr X (.lset a') (.e (.Call (.Name "len" p) [.Call (.Name "set" p1) [a] [] p2] [] pos)):=by
 intro _ _ _ _ _ _ _ hq hg hg2 hs hs2 q0;refine⟨λΓ G=>?_,λ_ _ _ _ _ _ h=>nomatch h⟩;have iha:=q0.m Γ G;intro c g ρ r h;simp only[ji7,Oj]at h;split at h
 .rename_i x ex;split at h
  .rename_i l el;split at h
   .rename_i ts et;obtain⟨z,q⟩:=jy h;cases q;have:=Ma et;subst this;exact DE.lenSet (el▸(iha c g ρ x ex).toT) hq nofun (c.bt _ (by decide)) (c.bt _ (by decide)) hg hg2 hs hs2
   .split at h
    .rename_i ts et;obtain⟨z,q⟩:=jy h;cases q;have:=v9 et;subst this;exact DE.lenSetI (el▸(iha c g ρ x ex).toT) hq nofun (c.bt _ (by decide)) (c.bt _ (by decide)) hg hg2 hs hs2
    .cases h
  .cases h
 .cases h
def Tr.tix:∀{X:Cx}{a' b':Ex}{a e:au}{p1 p2:aO}(hbase:aW a "index" X.env (aC a X.env)=aC a X.env) (hfew:((aP p2 (af [e] X.env)).all (λx=>!x.1)&&(bM p2 (ba [] X.env)).all (λx=>x.1.isSome)&&decide (([e]:List au).length+([]:List b7).length+(if ([]:List b7).isEmpty then 0 else 1)<30))=ah) (hline:(p1.endLine==p2.line)=ah) (hs:af [e] X.env=(a9,aC e X.env)::af [] X.env),Tr X a' (.e a)->Tr X b' (.e e)->Tr X (.tix a' b') (.e (.Call (.Attribute a "index" p1) [e] [] p2)):=by
 intro _ _ _ _ _ _ _ hbase hfew hline hs q0 q1;refine⟨λΓ G=>?_,λ_ _ _ _ _ _ h=>nomatch h⟩;have iha:=q0.m Γ G;have ihb:=q1.m Γ G;intro c g ρ r h;simp only[jkj,j85]at h;split at h
 .rename_i x y ex ey;split at h
  .rename_i l el;by_cases z:D.depL l<=90/\y.d.dep<=90
   .rw[if_pos z]at h;cases e:ixD y.d l with
    |none=>rw[e]at h;cases h
    |some k=>rw[e]at h;cases h;exact DE.indexT c.un' (el▸(iha c g ρ x ex).toT) (ihb c g ρ y ey).toT nofun nofun e hbase hfew hline hs
   .rw[if_neg z]at h;cases h
  .rename_i l el;by_cases z:D.depL l<=90/\y.d.dep<=90
   .rw[if_pos z]at h;cases e:ixD y.d l with
    |none=>rw[e]at h;cases h
    |some k=>rw[e]at h;cases h;exact DE.indexL c.un' (el▸(iha c g ρ x ex).toT) (ihb c g ρ y ey).toT nofun nofun e hbase hfew hline hs
   .rw[if_neg z]at h;cases h
  .cases h
 .cases h
def Tr.any:∀{X:Cx}{es':Ex}{e:au}{p p2:aO}(hq:X.calm=ah)(hg:Gl X "any"),Tr X es' (.a [e])->Tr X (.blt .any es') (.e (.Call (.Name "any" p) [e] [] p2)):=by
 intro _ _ _ _ _ hq hg q0;refine⟨λΓ G=>?_,λ_ _ _ _ _ _ h=>nomatch h⟩;have iha:=q0.m Γ G;intro c g ρ r h;simp only[Uy,vh]at h;split at h
 .rename_i rs ers;cases e:Zr _ rs with
  |none=>rw[e]at h;cases h
  |some x=>rw[e]at h;cases h;exact Jy (f:=.any) c (λ_=>hq) hg e (iha c g ρ rs ers)
 .cases h
def Tr.enum:∀{X:Cx}{a':Ex}{a:au}{es:List au}{n:Nat}{p p2 pt:aO}(hg:Gl X "enumerate") (hs:af [a] X.env=[(a9,aC a X.env)]),Tr X a' (.e a)->Tr X (.enum a') (.i (.Tuple es n pt) (.Call (.Name "enumerate" p) [a] [] p2)):=by
 intro _ _ _ _ _ _ _ _ hg hs q0;refine⟨λΓ G=>?_,λ_ _ _ _ _ _ _=>trivial⟩;have iha:=q0.m Γ G;intro c g ρ ds h;simp only[jia,Ot]at h;split at h
 .rename_i x ex;have ha:=iha c g ρ x ex;split at h
  .rename_i l e1;cases h;exact DI.enum ah (ha.toE e1) (c.bt _ (by decide)) hg hs
  .rename_i l e1;cases h;exact DI.enum a9 (ha.toE e1) (c.bt _ (by decide)) hg hs
  .cases h
 .cases h
def Tr.count:∀{X:Cx}{a' es':Ex}{a e:au}{p1 p2:aO}(hbase:aW a "count" X.env (aC a X.env)=aC a X.env) (hfew:((aP p2 (af [e] X.env)).all (λx=>!x.1)&&(bM p2 (ba [] X.env)).all (λx=>x.1.isSome)&&decide (([e]:List au).length+([]:List b7).length+(if ([]:List b7).isEmpty then 0 else 1)<30))=ah) (hline:(p1.endLine==p2.line)=ah),Tr X a' (.e a)->Tr X es' (.a [e])->Tr X (.meth .count a' es') (.e (.Call (.Attribute a "count" p1) [e] [] p2)):=by
 intro _ _ _ _ _ _ _ hbase hfew hline q0 q1;refine⟨λΓ G=>?_,λ_ _ _ _ _ _ h=>nomatch h⟩;have iha:=q0.m Γ G;have ihb:=q1.m Γ G;intro c g ρ r h;simp only[ji6,Oh]at h;split at h
 .rename_i x rs ex ers;obtain⟨y,e,hy,hs⟩:=(ihb c g ρ rs ers).one;subst e;simp only[j4g]at h;split at h
  .rename_i l el;split at h
   .rename_i z;cases h;exact DE.countT c.un' (el▸(iha c g ρ x ex).toT) hy.toT nofun nofun hbase hfew hline hs
   .cases h
  .rename_i l el;split at h
   .rename_i z;cases h;exact DE.countL c.un' (el▸(iha c g ρ x ex).toT) hy.toT nofun nofun hbase hfew hline hs
   .cases h
  .cases h
 .cases h
def Tr.callV:∀{X:Cx}{i:Nat}{y:aq}{es':Ex}{e:au}{es:List au}{p p2:aO} (hN:X.N[i]?=a8 y) (hv:Vis X.env.scope y) (hd:(y==k9a)=a9) (hcd:(y==k9b)=a9) (he:af (e::es) X.env=(a9,aC e X.env)::af es X.env) (hpl:(aP p2 (af es X.env)).any (·.1)=a9),Tr X es' (.a (e::es))->Tr X (.callV i es') (.e (.Call (.Name y p) (e::es) [] p2)):=by
 intro _ i y es' e es p p2 hN hv hd hcd he hpl q0;refine⟨λΓ G=>?_,λ_ _ _ _ _ _ h=>nomatch h⟩;have iha:=q0.m Γ G;intro c g ρ r h;simp only[jea,Wq]at h;split at h
 .rename_i x cs rs ei ers;split at h
  .rename_i ds eds;split at h
   .rename_i nf;have q:=g (jx x) (cs++ds);cases z:Γ (jx x) (cs++ds) with
    |lval d =>rw[z]at h q;cases h;obtain⟨k,hr,lk⟩:=q x rfl;exact DE.callV lk hr (Vu ei) ((iha c g ρ rs ers).toA eds) nf ⟨rfl,rfl⟩ hN hv hd hcd he hpl
    |val d=>rw[z]at h;cases h
    |fresh l=>rw[z]at h;cases h
    |err x=>rw[z]at h;cases h
    |mval d k=>rw[z]at h;cases h
    |merr x=>rw[z]at h;cases h
    |dval d ks ns=>rw[z]at h;cases h
    |no=>rw[z]at h;cases h
   .cases h
  .cases h
 .cases h
def Tr.dget:∀{X:Cx}{a' b':Ex}{a b:au}{p:aO}(hs:Jv b),Tr X a' (.e a)->Tr X b' (.e b)->Tr X (.dget a' b') (.e (.Subscript a b p)):=by
 intro _ _ _ _ _ _ hs q0 q1;refine⟨λΓ G=>?_,λΓ G=>?_⟩
 .have iha:=q0.m Γ G;have ihb:=q1.m Γ G;intro c g ρ r h;simp only[jib,Ou]at h;split at h
  .rename_i ks ds y ex ey;split at h
   .rename_i k ek;cases e:zp ks ds k with
    |none=>rw[e]at h;cases h
    |some d=>rw[e]at h;cases h;exact DE.dget c.un' ((iha c g ρ (.e (.dct ks ds)) ex).toE rfl) (Ci ek▸(ihb c g ρ y ey).toT) e hs
   .cases h
  .cases h
 .skip
  intro c g ρ y h;rw[er]at h;split at h
  .rename_i x ex;cases h;exact λσ H Q R k=>(Ur Mq peS peS hs).to (q0.x Γ G c g ρ _ ex σ H _ R k)
  split at h
  .rename_i r ez;exact λσ H Q R k=>(Ur Mq peS peS hs).to ((q0.m Γ G c g ρ r ez).toT σ H _ R λv H1 g1 e1=>q1.x Γ G c g ρ y h σ H1 _ (R.grow g1) (k.mono g1))
  .cases h
def Tr.dvals:∀{X:Cx}{a':Ex}{a:au}{p p1 p2 pos:aO}(hq:X.calm=ah)(hg:Gl X "tuple") (hbase:aW a "values" X.env (aC a X.env)=aC a X.env) (hline:(p1.endLine==p2.line)=ah) (hs2:af [.Call (.Attribute a "values" p1) [] [] p2] X.env=[(a9,aC (.Call (.Attribute a "values" p1) [] [] p2) X.env)]),Tr X a' (.e a)->Tr X (.dvals a') (.e (.Call (.Name "tuple" p) [.Call (.Attribute a "values" p1) [] [] p2] [] pos)):=by
 intro _ _ _ _ _ _ _ hq hg hbase hline hs2 q0;refine⟨λΓ G=>?_,λ_ _ _ _ _ _ h=>nomatch h⟩;have iha:=q0.m Γ G;intro c g ρ r h;simp only[je9,Mw]at h;split at h
 .rename_i ks ds ex;cases h;exact DE.tupVals ((iha c g ρ (.e (.dct ks ds)) ex).toE rfl) hq (c.bt _ (by decide)) hg hbase hline hs2
 .cases h
def Tr.minT:∀{X:Cx}{a':Ex}{a:au}{p pos:aO}(hq:X.calm=ah)(hg:Gl X "min") (hs:af [a] X.env=[(a9,aC a X.env)]),Tr X a' (.e a)->Tr X (.minT a') (.e (.Call (.Name "min" p) [a] [] pos)):=by
 intro _ _ _ _ _ hq hg hs q0;refine⟨λΓ G=>?_,λ_ _ _ _ _ _ h=>nomatch h⟩;have iha:=q0.m Γ G;intro c g ρ r h;simp only[ji5,Og]at h;split at h
 .rename_i x ex;split at h
  .rename_i l el;split at h
   .rename_i ks ek;cases e:ks[aU (zy ks) (ks.length-1)]? with
    |none=>rw[e]at h;cases h
    |some k =>rw[e]at h;cases h;exact DT.minT c.un' hq (c.bt _ (by decide)) hg (by have z:=(iha c g ρ x ex).toT;rw[el,j0b ek]at z;exact z) e hs
   .split at h
    .rename_i ks ek;cases e:ks[aU (Lw ks) (ks.length-1)]? with
     |none=>rw[e]at h;cases h
     |some k =>rw[e]at h;cases h;exact DT.minP c.un' hq (c.bt _ (by decide)) hg (by have z:=(iha c g ρ x ex).toT;rw[el,j33 ek]at z;exact z) e hs
    .cases h
  .cases h
 .cases h
def Tr.c0:∀{X:Cx},Tr X .nil (.c []):=by intro _;refine⟨λΓ G=>?_,λ_ _ _ _ _ _ _=>trivial⟩;intro c g ρ;exact⟨λ_=>DTs.nil,λy k h=>by simp only[M3]at h;cases h⟩
def Tr.c1:∀{X:Cx}{c':Ex}{c:au},Tr X c' (.b c)->Tr X (.cons c' .nil) (.c [c]):=by
 intro _ _ _ q0;refine⟨λΓ G=>?_,λ_ _ _ _ _ _ _=>trivial⟩;have iha:=q0.m Γ G;intro c g ρ;refine⟨λh=>?_,λy k h hk=>DTs.one ?_⟩
 .simp only[Uk,M3,consW]at h;split at h<;>cases h
 .simp only[Uk,M3,consW]at h;split at h
  .rename_i x xs ex exs;cases exs;cases h;exact iha c g ρ k (by rw[ex];simp only[truth,hk])
  .cases h
def Tr.comp1:∀{X:Cx}{i:Nat}{y:aq}{py p:aO}{elt' it' c':Ex}{elt it:au}{ifs:List au} {scope:b8} (hq:X.calm=ah) (hi:X.N[i]?=a8 y) (hl:Vv scope y=ah) (hkind:scope.kind=.function) (hok:v6 scope X.env X.N [i]=ah) (hs:∀x,aG it X.env x=pure x),Tr X it' (.i (.Name y py) it)->(∀C s H fp pn,Tr (cCx X scope C s H fp pn) elt' (.e elt))->(∀C s H fp pn,Tr (cCx X scope C s H fp pn) c' (.c ifs))->Tr X (.comp [i] elt' it' c') (.e (.ListComp elt [⟨.Name y py,it,ifs,0⟩] scope p)):=by
 intro _ _ _ _ _ _ _ _ _ _ _ _ hq hi hl hkind hok hs q0 q1 q2;refine⟨λΓ G=>?_,λ_ _ _ _ _ _ h=>nomatch h⟩;have ihi:=q0.m Γ G;have ihe:=λC s H fp pn=>(q1 C s H fp pn).m Γ G;have ihc:=λC s H fp pn=>(q2 C s H fp pn).m Γ G;intro c g ρ r h;obtain⟨l,e,q⟩:=Du hq c (λρ ds z=>ihi c g ρ ds z) hkind hok hs (λρ d ρ2 hb hun=>by
  simp only[z9]at hb
  cases hb
  have hu:=hun _ (xm.mpr rfl)
  exact⟨_,jh,Wk.set hu,Zb hu,λC s H fp pn=>DG.name _ c.nd hi (Vh hl) (U5 hl)⟩)
  (λC s H fp pn ρ r z=>ihe C s H fp pn c.comp g.comp ρ r z) (λC s H fp pn ρ=>ihc C s H fp pn c.comp g.comp ρ) h
 subst e;exact q
def Tr.comp2:∀{X:Cx}{i j:Nat}{x y:aq}{px py pt p:aO}{n:Nat}{elt' it' c':Ex}{elt it:au} {ifs:List au} {scope:b8} (hq:X.calm=ah) (hij:i≠j) (hi:X.N[i]?=a8 x) (hj:X.N[j]?=a8 y) (hl:Vv scope x=ah) (hl':Vv scope y=ah) (hkind:scope.kind=.function) (hok:v6 scope X.env X.N [i,j]=ah) (hs:∀x,aG it X.env x=pure x),Tr X it' (.i (.Tuple [.Name x px,.Name y py] n pt) it)->(∀C s H fp pn,Tr (cCx X scope C s H fp pn) elt' (.e elt))->(∀C s H fp pn,Tr (cCx X scope C s H fp pn) c' (.c ifs))->Tr X (.comp [i,j] elt' it' c') (.e (.ListComp elt [⟨.Tuple [.Name x px,.Name y py] n pt,it,ifs,0⟩] scope p)):=by
 intro _ i j _ _ _ _ _ _ _ _ _ _ _ _ _ _ hq hij hi hj hl hl' hkind hok hs q0 q1 q2;refine⟨λΓ G=>?_,λ_ _ _ _ _ _ h=>nomatch h⟩;have ihi:=q0.m Γ G;have ihe:=λC s H fp pn=>(q1 C s H fp pn).m Γ G;have ihc:=λC s H fp pn=>(q2 C s H fp pn).m Γ G;intro c g ρ r h;obtain⟨l,e,q⟩:=Du hq c (λρ ds z=>ihi c g ρ ds z) hkind hok hs (λρ d ρ2 hb hun=>by
  simp only[z9]at hb
  split at hb
  .rename_i a b
   cases hb
   have hu:=hun _ (xq ..)
   have hu':=hun _ (xg _ (xm.mpr rfl))
   have h1:(ρ.set i (.val a))[j]?=a8 Sl.un:=by rw[jz hij];exact hu'
   exact⟨(ρ.set i (.val a)).set j (.val b),by rw[jh,jh];rfl,λK σ H R=>Wk.set hu K σ H (Wk.set h1 K σ H R),by rw[Zb h1,Zb hu],
    λC s H fp pn=>DG.pair _ _ hij c.nd hi hj (Vh hl) (Vh hl') (U5 hl) (U5 hl') hq⟩
  .cases hb)
  (λC s H fp pn ρ r z=>ihe C s H fp pn c.comp g.comp ρ r z) (λC s H fp pn ρ=>ihc C s H fp pn c.comp g.comp ρ) h
 subst e;exact q
def Tr.seq:∀{X:Cx}{a':Ex}{tg a:au},Tr X a' (.e a)->Tr X (.seq a') (.i tg a):=by
 intro _ _ _ _ q0;refine⟨λΓ G=>?_,λ_ _ _ _ _ _ _=>trivial⟩;have iha:=q0.m Γ G;intro c g ρ ds h;simp only[jkk,N5]at h;split at h
 .rename_i l e;cases h;exact DI.lst (iha c g ρ _ e)
 .rename_i l e;cases h;exact DI.tup (iha c g ρ _ e)
 .rename_i l e;cases h;exact DI.lst (DO.toE (iha c g ρ _ e))
 .rename_i y e;obtain⟨z,q⟩:=jy h;cases q;exact DI.str (iha c g ρ _ e).toT z
 .cases h
def Tr.range:∀{X:Cx}{es':Ex}{tg:au}{es:List au}{p p2:aO}(hg:Gl X "range"),Tr X es' (.a es)->Tr X (.range es') (.i tg (.Call (.Name "range" p) es [] p2)):=by
 intro _ _ _ _ _ _ hg q0;refine⟨λΓ G=>?_,λ_ _ _ _ _ _ _=>trivial⟩;have iha:=q0.m Γ G;intro c g ρ ds h;simp only[je8,Wh]at h;split at h
 .rename_i x ex;have q:=iha c g ρ _ ex;cases q with|cons hs hx t =>
  cases t;split at h
  .rename_i n en;obtain⟨z,q⟩:=jy h;cases q;exact DI.range1 (en▸hx.toT) (c.bt _ (by decide)) z.1 z.2 hg hs
  .cases h
 .rename_i x y ex;have q:=iha c g ρ _ ex;cases q with|cons hs hx t =>
  cases t with|cons hs2 hy t2 =>
  cases t2;split at h
  .rename_i m n em en;obtain⟨z,q⟩:=jy h;cases q;exact DI.range2 (em▸hx.toT) (en▸hy.toT) (c.bt _ (by decide)) z.1 z.2.1 z.2.2.1 z.2.2.2 hg (by rw[hs,hs2];rfl) hs2 hs
  .cases h
 .cases h
def Tr.zip:∀{X:Cx}{a' b':Ex}{a b:au}{es:List au}{n:Nat}{p p2 pt:aO}(hg:Gl X "zip") (hs:af [a,b] X.env=(a9,aC a X.env)::af [b] X.env) (hs2:af [b] X.env=(a9,aC b X.env)::af [] X.env),Tr X a' (.e a)->Tr X b' (.e b)->Tr X (.zip a' b') (.i (.Tuple es n pt) (.Call (.Name "zip" p) [a,b] [] p2)):=by
 intro _ _ _ _ _ _ _ _ _ _ hg hs hs2 q0 q1;refine⟨λΓ G=>?_,λ_ _ _ _ _ _ _=>trivial⟩;have iha:=q0.m Γ G;have ihb:=q1.m Γ G;intro c g ρ ds h;simp only[jkg,Cd]at h;split at h
 .rename_i x y ex ey;have ha:=iha c g ρ x ex;have hb:=ihb c g ρ y ey;have pl:∀{p2:aO},(aP p2 (af [_] _)).any (·.1)=a9:=λ{p2}=>by rw[hs2];rfl
  split at h
  .rename_i l m e1 e2;cases h;exact DI.zip ah ah (ha.toE e1) (hb.toE e2) (c.bt _ (by decide)) hg hs hs2 pl
  .rename_i l m e1 e2;cases h;exact DI.zip ah a9 (ha.toE e1) (hb.toE e2) (c.bt _ (by decide)) hg hs hs2 pl
  .rename_i l m e1 e2;cases h;exact DI.zip a9 ah (ha.toE e1) (hb.toE e2) (c.bt _ (by decide)) hg hs hs2 pl
  .rename_i l m e1 e2;cases h;exact DI.zip a9 a9 (ha.toE e1) (hb.toE e2) (c.bt _ (by decide)) hg hs hs2 pl
  .cases h
 .cases h
def Tr.p0:∀{X:Cx},Tr X .nil (.p []):=by intro _;refine⟨λΓ G=>?_,λ_ _ _ _ _ _ _=>trivial⟩;intro c g ρ rs h;simp only[M3]at h;cases h;trivial
def Tr.pC:∀{X:Cx}{y:aq}{n:Nat}{p:aO}{b':Ex}{es:List au},Tr X b' (.p es)->Tr X (.cons (.lit (.str y)) b') (.p (.Constant (.str y) n p::es)):=by
 intro _ _ _ _ _ _ q0;refine⟨λΓ G=>?_,λ_ _ _ _ _ _ _=>trivial⟩;have ihb:=q0.m Γ G;intro c g ρ rs h;simp only[Uk,Ca,consW]at h;split at h
 .rename_i x xs ex exs;cases h;cases ex;refine⟨λz hz=>?_,ihb c g ρ xs exs⟩;have hz:(if _ then a8 _ else ae)=a8 z:=hz;split at hz
  .cases hz;exact DE.str
  .cases hz
 .cases h
def Tr.pR:∀{X:Cx}{a' b':Ex}{a:au}{p:aO}{es:List au},Tr X a' (.e a)->Tr X b' (.p es)->Tr X (.cons (.rpr a') b') (.p (.FormattedValue a 114 ae p::es)):=by
 intro _ a' b' _ _ _ q0 q1;refine⟨λΓ G=>?_,λ_ _ _ _ _ _ _=>trivial⟩;have iha:=q0.m Γ G;have ihb:=q1.m Γ G;intro c g ρ rs h;rw[Uk]at h;unfold consW at h;split at h
 .rename_i x xs ex exs;cases h;obtain⟨z,w,ez,ew,hl,rfl⟩:=jf3 ex;refine⟨λy hy=>?_,ihb c g ρ xs exs⟩;have hy:(if (cY w).length<=10000 then a8 (cY w)else ae)=a8 y:=hy;rw[if_pos (Xg hl (by decide))]at hy;cases hy;exact DE.fmtR (ew▸(iha c g ρ z ez).toT) (Xg hl (by decide))
 .cases h
def Tr.pF:∀{X:Cx}{a' b':Ex}{a:au}{p:aO}{es:List au}(hq:X.calm=ah),Tr X a' (.e a)->Tr X b' (.p es)->Tr X (.cons a' b') (.p (.FormattedValue a (-1) ae p::es)):=by
 intro _ _ _ _ _ _ hq q0 q1;refine⟨λΓ G=>?_,λ_ _ _ _ _ _ _=>trivial⟩;have iha:=q0.m Γ G;have ihb:=q1.m Γ G;intro c g ρ rs h;simp only[Uk,consW]at h;split at h
 .rename_i x xs ex exs;cases h;exact⟨λy hy=>DE.fmt (c.gd hq) c.un' (iha c g ρ x ex).toT hy,ihb c g ρ xs exs⟩
 .cases h
def Tr.fst:∀{X:Cx}{es':Ex}{a b:au}{es:List au}{p:aO},Tr X es' (.p (a::b::es))->Tr X (.fst es') (.e (.JoinedStr (a::b::es) p)):=by
 intro _ _ _ _ _ _ q0;refine⟨λΓ G=>?_,λ_ _ _ _ _ _ h=>nomatch h⟩;have ih:=q0.m Γ G;intro c g ρ r h;simp only[jkp,j9e]at h;split at h
 .rename_i rs ers;split at h
  .rename_i hl;cases e:Qz rs with
   |none=>rw[e]at h;cases h
   |some ys =>rw[e]at h;cases h;obtain⟨z1,z2⟩:=(ih c g ρ rs ers).all e;exact DE.joined z1 (Bg e) (by rw[z2];exact hl)
  .cases h
 .cases h
section
variable{Γ:aq->List D->Rc}{G:aq->Option D}{X:Cx}
def sound{t:Ex}{nd:Nd}(h:Tr X t nd):Cok X G->Gok X Γ->jil Γ G X t nd:=h.m Γ G
def j0l{t:Ex}{nd:Nd}(h:Tr X t nd):Cok X G->Gok X Γ->∀ρ y,er Γ G t (j5 ρ)=a8 y->XM X ρ y nd:=h.x Γ G
end
inductive Px where
 |nop
inductive Dx where
 |fill (s t:Nat) (c:Ex) (f:aq) (es:Ex)
 |minc (t j:Nat) (it:Ex) (f:aq) (es:Ex)
 |maxc (t j:Nat) (it:Ex) (f:aq) (es:Ex)
inductive Sx where
 |nop
 |seq (a b:Sx)
 |set (i:Nat) (e:Ex)
 |mov (i j:Nat)
 |expr (e:Ex)
 |ret (e:Ex)
 |retV (i:Nat)
 |ife (c:Ex) (a b:Sx)
 |loop (is:List Nat) (it:Ex) (body:Sx)
 |app (i:Nat) (e:Ex)
 |ext (i:Nat) (e:Ex)
 |fgt (i:Nat)
 |keep (i:Nat)
 |retL (x:aq) (is:List Nat)
 |retC (f x:aq) (a b:Ex) (is:List Nat)
 |nmake (x t y:Nat) (it e1 e2:Ex)
 |dx (p:Dx)
 |lmk (x:Nat) (g:aq) (es:Ex)
 |raise (x:aq) (e:Ex)
 |fail
inductive So where
 |next (ρ:En)
 |ret (r:Rc)
 |brk (ρ:En)
 |cnt (ρ:En)
 |err (x:aq) (ρ:En)
 |no
noncomputable def orE(o:So)(x:Option aq)(ρ:En):So:=match o with
 |.no=>match x with
  |some y=>.err y ρ
  |none=>.no
 |o=>o
noncomputable def Q3(f:D->En->So):List D->En->So
 |[],ρ=>.next ρ
 |d::ds,ρ=>match f d ρ with
  |.next ρ'=>Q3 f ds ρ'
  |.cnt ρ'=>Q3 f ds ρ'
  |.brk ρ'=>.next ρ'
  |.ret r=>.ret r
  |.err x ρ'=>.err x ρ'
  |.no=>.no
noncomputable def stOf:Option W->Option D
 |some (.v x)=>x.st
 |_=>ae
noncomputable def Vz(f1 f2:En->Option D)(x t y:Nat):List D->En->List zo->zo->Option (List zo×zo)
 |[],_,ks,ns=>a8 (ks,ns)
 |d::ds,ρ,ks,ns=>match d with
  |.tup l=>match intsOf l,f1 (ρ.set t (.val d)) with
   |some k,a8 d1=>match f2 (((ρ.set t (.val d)).set y (.val d1)).set x (.val (.dct ks (ns.map D.int)))) with
    |some (.int n)=>if ks.contains k=a9/\ks.length<av then Vz f1 f2 x t y ds ((ρ.set t (.val d)).set y (.val d1)) (ks++[k]) (ns++[n])else ae
    |_=>ae
   |_,_=>ae
  |_=>ae
noncomputable def Qh(ρ:En):List Nat->Option (List D)
 |[]=>a8 []
 |i::is=>match ρ[i]?,Qh ρ is with
  |some (.val d),a8 ds=>a8 (d::ds)
  |_,_=>ae
noncomputable def By(i:Nat)(w:Option W)(ρ:En):So:=match w with
 |some (.v (.o l))=>.next (ρ.set i (.own l))
 |some (.v x)=>match x.st with
  |some d=>.next (ρ.set i (.val d))
  |none=>.no
 |_=>.no
noncomputable def retS(w:Option W):So:=match w with
 |some (.v (.o l))=>.ret (.fresh l)
 |some (.v x)=>.ret (.val x.d)
 |_=>.no
noncomputable def Oa(s:Option Sv):So:=match s with
 |some (.own l)=>.ret (.fresh l)
 |some (.val d)=>.ret (.val d)
 |_=>.no
noncomputable def j1a(i j:Nat)(s:Option Sv)(ρ:En):So:=match s with
 |some (.own l)=>if i=j then .no else .next ((ρ.set j .un).set i (.own l))
 |some (.val d)=>.next (ρ.set i (.val d))
 |_=>.no
noncomputable def j1l(w:Option W)(ρ:En):So:=match w with
 |some (.v _)=>.next ρ
 |_=>.no
noncomputable def O6(i:Nat)(s:Option Sv)(w:Option W)(ρ:En):So:=match s,w with
 |some (.own l),a8 (.v x)=>match x.st with
  |some d=>if l.length<av then .next (ρ.set i (.own (l++[d])))else .no
  |none=>.no
 |_,_=>.no
noncomputable def K6(i:Nat)(s:Option Sv)(w:Option W)(ρ:En):So:=match s,w with
 |some (.own l),a8 (.v (.o m))=>if jr (l.length+m.length)=ah then .next (ρ.set i (.own (l++m)))else .no
 |_,_=>.no
noncomputable def j8j(x:aq)(w:Option W)(d:Option D)(ρ:En):So:=match w,d with
 |some (.v _),a8 _=>.err x ρ
 |_,_=>.no
noncomputable def Dj(i:Nat)(v:Option Sv)(ρ:En):So:=match v with
 |some (.own l)=>.next (ρ.set i (.val (.lst l)))
 |some (.val _)=>.next ρ
 |_=>.no
noncomputable def Dc(x:aq)(v:Option (List D)):So:=match v with
 |some ds=>.ret (.val (.fn x ds))
 |none=>.no
noncomputable def j04(r:Rc):So:=match r with
 |.val d=>if noFn d=ah then .ret (.val d)else .no
 |_=>.no
noncomputable def De(Γ:aq->List D->Rc)(f x:aq)(v:Option (List D))(a b:Option W):So:=match v,a,b with
 |some ds,a8 (.v u),a8 (.v v)=>j04 (Γ f [u.d,v.d,.fn x ds])
 |_,_,_=>.no
noncomputable def Nz:Sx->List Nat
 |.seq a b=>Nz a++Nz b
 |.set i _=>[i]
 |.ife _ a b=>Nz a++Nz b
 |_=>[]
noncomputable def Ld(Γ:aq->List D->Rc)(G:aq->Option D):Sx->En->Option En
 |.nop,ρ=>a8 ρ
 |.seq a b,ρ=>match Ld Γ G a ρ with
  |some r=>Ld Γ G b r
  |none=>ae
 |.set i e,ρ=>match stOf (ev Γ G e ρ) with
  |some d=>a8 (ρ.set i (.val d))
  |none=>ae
 |.ife c a b,ρ=>match truth (ev Γ G c ρ) with
  |some ah=>Ld Γ G a ρ
  |some a9=>Ld Γ G b ρ
  |none=>ae
 |_,_=>ae
inductive Sm where
 |next (ρ:En) (k:Nat)
 |ret (d:D) (k:Nat)
 |err (x:aq) (ρ:En)
 |no
noncomputable def jli(fu:Nat)(Γ:aq->List D->Rc)(G:aq->Option D)(ls:List aq):Px->En->Nat->Sm
 |.nop,ρ,k=>.next ρ k
noncomputable def callD(Γ:aq->List D->Rc)(f:aq)(a:Option W)(ks:List zo)(ns:zo):Option (D×List zo×zo):=match a with
 |some (.a rs)=>match zg rs with
  |some ds=>match Γ (dq f) (.dct ks (ns.map D.int)::ds) with
   |.dval d ks' ns'=>a8 (d,ks',ns')
   |_=>ae
  |none=>ae
 |_=>ae
noncomputable def vd(f:D->List zo->zo->Option (D×List zo×zo)):List D->List zo->zo->Option (List D×List zo×zo)
 |[],ks,ns=>a8 ([],ks,ns)
 |d::l,ks,ns=>match f d ks ns with
  |none=>ae
  |some (r,ks1,ns1)=>match vd f l ks1 ns1 with
   |none=>ae
   |some (rs,ks2,ns2)=>a8 (r::rs,ks2,ns2)
noncomputable def U8:List D->List D->Option (List zo)
 |[],[]=>a8 []
 |.int n::rs,.int s::ds=>(U8 rs ds).map ([n,s] :: ·)
 |_,_=>ae
noncomputable def jgo(s:Option Sv):Bool:=match s with
 |some .un=>ah
 |_=>a9
noncomputable def lsD(t j:Nat)(w:Option W)(ρ:En):Option (List D×En):=match w with
 |some (.v (.o l))=>if l.length<=1000/\j≠0/\t≠0/\j≠t/\jgo ρ[j]?=ah/\t<ρ.length then a8 (l,ρ.set t (.val (.lst l)))else ae
 |_=>ae
noncomputable def Rm(s t:Nat)(ρ:En)(ks:List zo)(ns:zo)(c:Option W)(call:Option (D×List zo×zo)):Option (D×List zo×zo):=match ρ[s]? with
 |some (.val (.tup l))=>match intsOf l with
  |some k=>if t<ρ.length/\t≠0/\s≠t then(if ks.contains k=ah then(zp ks (ns.map D.int) k).map λd=>(d,ks,ns)else match c with
    |some (.v r)=>match r.st with
     |some (.bl ah)=>if ks.length<av then a8 (.int 0,ks++[k],ns++[0])else ae
     |some (.bl a9)=>match call with
      |some (.tup (.int m::_),ks1,ns1)=>if ks1.contains k=a9/\ks1.length<av then a8 (.int (1+m),ks1++[k],ns1++[1+m])else ae
      |_=>ae
     |_=>ae
    |_=>ae)else ae
  |none=>ae
 |_=>ae
noncomputable def Lp(l:List D)(r:Option (List D×List zo×zo)):Option (D×List zo×zo):=match r with
 |some (rs,ks',ns')=>match U8 rs l with
  |some ls=>(ls[aU (zy ls) (ls.length-1)]?).map λk=>(.tup (k.map D.int),ks',ns')
  |none=>ae
 |none=>ae
noncomputable def Oi(r:Option (List D×List zo×zo)):Option (D×List zo×zo):=match r with
 |some (rs,ks',ns')=>match intsOf rs with
  |some ms=>if ms≠[]then a8 (.int (qz ms),ks',ns')else ae
  |none=>ae
 |none=>ae
noncomputable def Ul(r:Option (List D×En))(f:List D->En->Option (D×List zo×zo)):Option (D×List zo×zo):=match r with
 |some (l,ρ3)=>f l ρ3
 |none=>ae
noncomputable def Yh(Γ:aq->List D->Rc)(G:aq->Option D):Dx->List zo->zo->En->Option (D×List zo×zo)
 |.fill s t c f es,ks,ns,ρ=>Rm s t ρ ks ns (ev Γ G c ρ) (callD Γ f (ev Γ G es (ρ.set t (.val (.bl a9)))) ks ns)
 |.minc t j it f es,ks,ns,ρ=>Ul (lsD t j (ev Γ G it ρ) ρ) λl ρ3=>Lp l (vd (λd ks ns=>callD Γ f (ev Γ G es (ρ3.set j (.val d))) ks ns) l ks ns)
 |.maxc t j it f es,ks,ns,ρ=>Ul (lsD t j (ev Γ G it ρ) ρ) λl ρ3=>Oi (vd (λd ks ns=>callD Γ f (ev Γ G es (ρ3.set j (.val d))) ks ns) l ks ns)
noncomputable def dxS(l:Option Sv)(r:List zo->zo->Option (D×List zo×zo)):So:=match l with
 |some (.val (.dct ks ds))=>match intsOf ds with
  |some ns=>match r ks ns with
   |some (d,ks',ns')=>.ret (.dval d ks' ns')
   |none=>.no
  |none=>.no
 |_=>.no
noncomputable def noOwn(ρ:En):Bool:=ρ.all λs=>match s with
 |.own _=>a9
 |_=>ah
noncomputable def j8x(b:Bool)(r:Option (D×List zo×zo)):So:=match b,r with
 |true,a8 (_,ks,ns)=>.ret (.val (.dct ks (ns.map D.int)))
 |_,_=>.no
noncomputable def run(fu:Nat)(Γ:aq->List D->Rc)(G:aq->Option D):Sx->En->So
 |.nop,ρ=>.next ρ
 |.seq a b,ρ=>match run fu Γ G a ρ with
  |.next ρ'=>run fu Γ G b ρ'
  |o=>o
 |.set i e,ρ=>orE (By i (ev Γ G e ρ) ρ) (er Γ G e ρ) ρ
 |.mov i j,ρ=>j1a i j ρ[j]? ρ
 |.expr e,ρ=>orE (j1l (ev Γ G e ρ) ρ) (er Γ G e ρ) ρ
 |.ret e,ρ=>orE (retS (ev Γ G e ρ)) (er Γ G e ρ) ρ
 |.retV i,ρ=>Oa ρ[i]?
 |.ife c a b,ρ=>match truth (ev Γ G c ρ) with
  |some ah=>run fu Γ G a ρ
  |some a9=>run fu Γ G b ρ
  |none=>.no
 |.loop is it body,ρ=>match ev Γ G it (frz it ρ) with
  |some (.i ds)=>Q3 (λd ρ=>match z9 is d ρ with
   |some ρ2=>run fu Γ G body ρ2
   |none=>.no) ds (frz it ρ)
  |_=>.no
 |.app i e,ρ=>O6 i ρ[i]? (ev Γ G e ρ) ρ
 |.ext i e,ρ=>K6 i ρ[i]? (ev Γ G e ρ) ρ
 |.fgt i,ρ=>.next (ρ.set i .un)
 |.keep i,ρ=>Dj i ρ[i]? ρ
 |.dx p,ρ=>dxS ρ[0]? λks ns=>Yh Γ G p ks ns (ρ.set 0 (.exc rfN))
 |.lmk x g es,ρ=>j8x (decide (x<ρ.length)&&noOwn ρ) (callD Γ g (ev Γ G es (ρ.set x .un)) [] [])
 |.retL x is,ρ=>Dc x (Qh ρ is)
 |.retC f x a b is,ρ=>De Γ f x (Qh ρ is) (ev Γ G a ρ) (ev Γ G b ρ)
 |.nmake x t y it e1 e2,ρ=>if x<ρ.length/\t<ρ.length/\y<ρ.length/\x≠t/\x≠y/\t≠y then match ev Γ G it (ρ.set x .un) with
   |some (.i ds)=>match Vz (λρ=>stOf (ev Γ G e1 ρ)) (λρ=>stOf (ev Γ G e2 ρ)) x t y ds (ρ.set x .un) [] [] with
    |some r=>.ret (.val (.dct r.1 (r.2.map D.int)))
    |none=>.no
   |_=>.no
  else .no
 |.raise x e,ρ=>j8j x (ev Γ G e ρ) (G (bang x)) ρ
 |.fail,_=>.no
section
variable{Γ:aq->List D->Rc}{G:aq->Option D}{ρ:En}{fu:Nat}
def jbb{a b}:run fu Γ G (.seq a b) ρ=(match run fu Γ G a ρ with
  |.next ρ'=>run fu Γ G b ρ'
  |o=>o):=(rfl)
def jba{i e}:run fu Γ G (.set i e) ρ=(orE (By i (ev Γ G e ρ) ρ) (er Γ G e ρ) ρ):=(rfl)
def jkr{i j}:run fu Γ G (.mov i j) ρ=(j1a i j ρ[j]? ρ):=(rfl)
def jij{e}:run fu Γ G (.expr e) ρ=(orE (j1l (ev Γ G e ρ) ρ) (er Γ G e ρ) ρ):=(rfl)
def jbc{e}:run fu Γ G (.ret e) ρ=(orE (retS (ev Γ G e ρ)) (er Γ G e ρ) ρ):=(rfl)
def jie{i}:run fu Γ G (.retV i) ρ=(Oa ρ[i]?):=(rfl)
def jks{c a b}:run fu Γ G (.ife c a b) ρ=(match truth (ev Γ G c ρ) with
  |some ah=>run fu Γ G a ρ
  |some a9=>run fu Γ G b ρ
  |none=>.no):=(rfl)
def jih{is it body}:run fu Γ G (.loop is it body) ρ=(match ev Γ G it (frz it ρ) with
  |some (.i ds)=>Q3 (λd ρ=>match z9 is d ρ with
   |some ρ2=>run fu Γ G body ρ2
   |none=>.no) ds (frz it ρ)
  |_=>.no):=(rfl)
def jku{i e}:run fu Γ G (.app i e) ρ=(O6 i ρ[i]? (ev Γ G e ρ) ρ):=(rfl)
def jkt{i e}:run fu Γ G (.ext i e) ρ=(K6 i ρ[i]? (ev Γ G e ρ) ρ):=(rfl)
def jii{i}:run fu Γ G (.keep i) ρ=(Dj i ρ[i]? ρ):=(rfl)
def jif{x is}:run fu Γ G (.retL x is) ρ=(Dc x (Qh ρ is)):=(rfl)
def jig{f x a b is}:run fu Γ G (.retC f x a b is) ρ=(De Γ f x (Qh ρ is) (ev Γ G a ρ) (ev Γ G b ρ)):=(rfl)
def j3q{x t y it e1 e2}:run fu Γ G (.nmake x t y it e1 e2) ρ=(if x<ρ.length/\t<ρ.length/\y<ρ.length/\x≠t/\x≠y/\t≠y then match ev Γ G it (ρ.set x .un) with
   |some (.i ds)=>match Vz (λρ=>stOf (ev Γ G e1 ρ)) (λρ=>stOf (ev Γ G e2 ρ)) x t y ds (ρ.set x .un) [] [] with
    |some r=>.ret (.val (.dct r.1 (r.2.map D.int)))
    |none=>.no
   |_=>.no
  else .no):=(rfl)
def jec{x e}:run fu Γ G (.raise x e) ρ=(j8j x (ev Γ G e ρ) (G (bang x)) ρ):=(rfl)
end
def j57(X:Cx):List (aq×aj)->List Nat->Prop
 |[],is=>is=[]
 |p::cl,is=>∃(i:Nat)(r:List Nat),is=i::r/\X.N[i]?=a8 p.1/\X.env.scope.names.lookup p.1=a8 .cell/\X.env.cells.lookup p.1=a8 p.2/\X.fn p.1=ah/\j57 X cl r
theorem Ke{X:Cx}{ρ:Rho}:∀{cl:List (aq×aj)} {is:List Nat} {ds:List D},j57 X cl is->Qh (j5 ρ) is=a8 ds->Zv X ρ cl ds
 |[],_,ds,h,e=>by cases h;cases e;rfl
 |p::cl,_,ds,⟨i,r,ei,h1,h2,h3,h4,l⟩,e=>by
  subst ei;unfold Qh at e;split at e
  .rename_i d ds' e1 e2;cases e;exact⟨d,ds',i,rfl,h1,h2,h3,h4,Vu e1,Ke l e2⟩
  .cases e
inductive Ns where
 |s (st:aS)
 |ss (sts:List aS)
def TMs(X:Cx)(b:Sx)(ss:List aS):Prop:=∀(Γ:aq->List D->Rc)(G:aq->Option D),Cok X G->Gok X Γ->∀(ρ:Rho)(r:En),Ld Γ G b (j5 ρ)=a8 r->∃ρ',j5 ρ'=r/\DMs X ρ ρ' (Nz b) ss/\Kp ρ ρ' (Nz b)
def TMt(X:Cx)(b:Sx)(full tl:List aS):Prop:=∀(Γ:aq->List D->Rc)(G:aq->Option D),Cok X G->Gok X Γ->∀(ρ:Rho)(r:En),Ld Γ G b (j5 ρ)=a8 r->∃ρ',j5 ρ'=r/\DMt X ρ ρ' (Nz b) full tl
def ji3(pi:Nat)(o:Ob)(s:Sm)(P:Pm):Prop:=match s with
 |.next ρ' k=>∀ρ2,j5 ρ2=ρ'->(∃ob,ρ2[pi]?=a8 (.raw o.a ob rfN))->P.nx ρ2 k
 |.ret d k=>P.rt d k
 |.err x ρ'=>∀ρ2,j5 ρ2=ρ'->P.ex x ρ2
 |.no=>False
def MP(X:Cx)(pi:Nat)(p:Px)(sts:List aS):Prop:=∀(fu:Nat)(Γ:aq->List D->Rc)(G:aq->Option D),Cok X G->Gok X Γ->∀C,X.mg "Pieces" = a8 (.ref C)->PcX X C->∀(o:Ob)(ls:List aq)(ρ:Rho)(k:Nat)(P:Pm),
 (∃ob,ρ[pi]?=a8 (.raw o.a ob rfN))->ji3 pi o (jli fu Γ G ls p (j5 ρ) k) P->MSs X C o ls ρ k sts P
def MD(X:Cx)(p:Dx)(sts:List aS):Prop:=∀(Γ:aq->List D->Rc)(G:aq->Option D),Cok X G->Gok X Γ->∀(ρ:Rho)(a:aj)(ks:List zo) (ns:zo) (d:D) (ks':List zo) (ns':zo),
 (∃ob,ρ[0]?=a8 (.raw a ob rfN))->owns ρ=[]->Yh Γ G p ks ns (j5 ρ)=a8 (d,ks',ns')->DDb X ρ sts a ks ns d ks' ns'
noncomputable def Rt.rc:Rt->Rc
 |.val d=>.val d
 |.fresh l=>.fresh l
def Ux(o:So)(P:Po):Prop:=match o with
 |.next ρ'=>∀ρ2,j5 ρ2=ρ'->P.nx ρ2
 |.ret r=>∀x:Rt,x.rc=r->P.rt x
 |.brk ρ'=>∀ρ2,j5 ρ2=ρ'->P.bk ρ2
 |.cnt ρ'=>∀ρ2,j5 ρ2=ρ'->P.ct ρ2
 |.err x ρ'=>∀ρ2,j5 ρ2=ρ'->P.ex x ρ2
 |.no=>False
def Um{o:So}{x:Option aq}{ρ:En}{P:Po}(h:Ux (orE o x ρ) P):Ux o P\/∃y,x=a8 y/\∀ρ2,j5 ρ2=ρ->P.ex y ρ2:=by
 cases o with
 |no =>
  cases x with
  |none=>exact h.elim
  |some y=>exact .inr ⟨y,rfl,h⟩
 |_=>exact .inl h
def jbg(fu:Nat)(Γ:aq->List D->Rc)(G:aq->Option D)(X:Cx)(t:Sx):Ns->Prop
 |.s st=>∀ρ P,Ux (run fu Γ G t (j5 ρ)) P->DS X ρ st P
 |.ss sts=>∀ρ P,Ux (run fu Γ G t (j5 ρ)) P->DSs X ρ sts P
section
variable{K:k96}{ρ:Rho}{σ:St}{H:Hp}{i j:Nat}{a:aj}{l:List D}
def Rep.move(R:Rep K ρ σ H)(hj:ρ[j]?=a8 (.own a l))(hij:i≠j):Rep K ((ρ.set j .un).set i (.own a l)) (σ.set i (a8 (.ref a))) H:=by
 have s1:(owns (ρ.set j .un)).Sublist (owns ρ):=jf rfl;have na:a∉owns (ρ.set j .un):=λz=>by
  obtain⟨k,l',q⟩:=Vy z;rcases getElem?_set_of q with ⟨_,z,_⟩|⟨n,q⟩
  .cases z
  .exact n (U9 R.nd hj q)
 obtain⟨nd,sub⟩:=Jq (ds:=l) (i:=i) (s1.nodup R.nd) na;have g:j0 (del H (owns ρ)) (del H (owns ((ρ.set j .un).set i (.own a l)))):=J0 λb hb=>by
  rcases sub b hb with e|z
  .exact e▸Qu hj
  .exact s1.subset z
 refine⟨by simp[R.len],λk d' h=>?_,λk b ds' h=>?_,nd,λk b o x h=>?_,R.tb⟩
 .rcases getElem?_set_of h with ⟨rfl,z,_⟩|⟨n,h⟩
  .cases z
  .rcases getElem?_set_of h with ⟨rfl,z,_⟩|⟨n2,h⟩
   .cases z
   .obtain⟨u,q,e⟩:=R.val k d' h;exact⟨u,by rw[jz n];exact q,e.mono g⟩
 .rcases getElem?_set_of h with ⟨rfl,z,hl⟩|⟨n,h⟩
  .cases z;obtain⟨_,xs,hx,en⟩:=R.own j a l hj;exact⟨Jb (by rw[R.len];simpa using hl),xs,hx,en.mono g⟩
  .rcases getElem?_set_of h with ⟨rfl,z,_⟩|⟨n2,h⟩
   .cases z
   .obtain⟨q,xs,hx,en⟩:=R.own k b ds' h;exact⟨by rw[jz n];exact q,xs,hx,en.mono g⟩
 .rcases getElem?_set_of h with ⟨rfl,z,_⟩|⟨n,h⟩
  .cases z
  .rcases getElem?_set_of h with ⟨rfl,z,_⟩|⟨n2,h⟩
   .cases z
   .obtain⟨q,h⟩:=R.raw k b o x h;exact⟨by rw[jz n];exact q,h.mono g⟩
end
section
variable{X:Cx}{ρ:Rho}{e a b c:au}{es:List au}{st:aS}{rest sa sb body:List aS}{P:Po}{d:D}{ds ds':List D}{pos p p1 p2 p3:aO}{x y:aq}{i j:Nat}
def DS.freeze(i:Nat){l:aj}(h:ρ[i]?=a8 (.own l ds))(h2:DS X (ρ.set i (.val (.lst ds))) st P):DS X ρ st P:=λσ H E R q =>h2 σ H E (R.freeze h) (q.step (.drop λb hb=>(jf rfl).subset hb))
def DS.mov{l:aj}(hk:ρ[j]?=a8 (.own l ds))(hij:i≠j)(h:P.nx ((ρ.set j .un).set i (.own l ds)))(hN:X.N.Nodup)(hi:X.N[i]?=a8 x)(hj:X.N[j]?=a8 y)(hx:Loc X.env.scope x)
  (hf:X.fn x=ah\/X.env.scope.names.lookup x=a8 .local) (hv:Vis X.env.scope y) (hd:(y==k9a)=a9) (hcd:(y==k9b)=a9):DS X ρ (.Assign [.Name x p] (.Name y p1) pos) P:=λσ H E R q=>by
 obtain⟨hs,xs,m,en⟩:=R.own j l ds hk;refine(Y6 hN hi hx (Jc hj hv hd hcd) rfl hf).to ⟨_,hs,q.nx _ _ H h (R.move hk hij) (.drop λb hb=>?_)⟩;have s1:(owns (ρ.set j .un)).Sublist (owns ρ):=jf rfl;have na:l∉owns (ρ.set j .un):=λz=>by
  obtain⟨k,l',q⟩:=Vy z;rcases getElem?_set_of q with ⟨_,z,_⟩|⟨n,q⟩
  .cases z
  .exact n (U9 R.nd hk q)
 rcases(Jq (ds:=ds) (i:=i) (s1.nodup R.nd) na).2 b hb with z|z
 .exact z▸Qu hk
 .exact s1.subset z
def DS.setCf{ρf:Rho}{tg elt iter:au}{ifs:List au}{scope:b8}{spos:aO}(i:Nat)(cs:List Nat)(pr:D->Bool)(g:D->D)(hfr:∀K σ H,Rep K ρ σ H->Rep K ρf σ H)(hno:ρf=ρ\/za ((ds.filter pr).map g)=ah)(hi:DI X ρf tg iter ds)
  (hb:∀C s H fp pn,∀d∈ds,∃ρ2,DG (cCx X scope C s H fp pn) ρf tg d ρ2/\Wk ρ2 ρf/\owns ρ2=owns ρf/\DTs (cCx X scope C s H fp pn) ρ2 ifs (pr d)/\(pr d=ah->DE (cCx X scope C s H fp pn) ρ2 elt (g d)))
  (h:∀l,P.nx (ρ.set i (.own l ((ds.filter pr).map g)))) (hN:X.N.Nodup) (hcs:∀j∈cs,ρf[j]?=a8 .un) (hsz:ds.length<=av) (hX:X.N[i]?=a8 x) (hx:Loc X.env.scope x)
  (hf:X.fn x=ah\/X.env.scope.names.lookup x=a8 .local)
  (hsw:aN (.ListComp elt [⟨tg,iter,ifs,0⟩] scope pos) (a8 (.Name x p1)) spos.line X.env=pure ah)
  (hc:X.calm=ah) (hkind:scope.kind=.function) (hok:v6 scope X.env X.N cs=ah)
  (hs:∀x,aG iter X.env x=pure x):DS X ρ (.Assign [.Name x p1] (.ListComp elt [⟨tg,iter,ifs,0⟩] scope pos) spos) P:=λσ H E R q pins s I=>by
 have Rf:=hfr _ _ _ R;rw[exec_Assign_Name_used _ _ _ _ hsw];refine aa (gc (aa ?_));show aw _ X.A (do let _ <-comprehension (.ListComp elt [⟨tg,iter,ifs,0⟩] scope pos) scope X.env _ (jX []) a9 (aC iter X.env) (a8 (fO (.Name x p1) X.env))) _ _ s;refine aa (bB (eK (use:=a8 (fO (.Name x p1) X.env)) (Q:=λ_ s'=>SP X pins E .next s') rfl hs (Ru (W6 hok)) hkind (Ug hok)
  (thn (hi σ H (λJ H'=>j0 H H'/\Vc X.K (del H' (owns ρf)) J ds) Rf (λJ H' g1 ok=>⟨g1,ok⟩) pins s I) λv s1 h1=>thn h1 λitv s2 h2=>?_)) (λ_ s' hq=>ar (ar hq)) λ_ _ e=>e)
 obtain⟨it,fp,tn,J,H2,e,I2,T,st2,f2,g2,ok⟩:=h2;subst e;refine Ea (RR:=λacc C=>mY (aB X.prog X.w) X.A X.xe (a8 (fO (.Name x p1) X.env)) (λ_ s'=>SP X pins E .next s') acc C) I2 (Rf.grow g2) T st2 f2 ok hc hkind hok hcs hsz hb ?_;intro D C xs H' s' m I' gg n m' en hm L;show aw _ X.A (fO (.Name x p1) X.env (.ref D)) _ _ _;refine lA (Ia I' hN hX hx (v:=.ref D) rfl (λs'' I'' ⟨a,sb,ha⟩=>?_) hf);have hCa:C≠a:=by
  rcases ha with e|e
  .rw[e];exact L.loc
  .exact bq (L.cell x a e)
 have en':j4 X.K (del H' (D::owns ρ)) ((ds.filter pr).map g) xs:=by
  rcases hno with e|e
  .rw[e]at en;exact en
  .exact(en.mono jk).hide (λc hc=>by
    rcases xr.mp hc with z|z
    .rw[z];exact .inl ⟨xs,m'⟩
    .exact .inl ((R.grow (g2.trans gg)).owned c z)) e
 refine⟨m,hm.sameBut sb hCa,λh' sb'=>⟨σ.set i (a8 (.ref D)),H',I''.loose L sb',?_⟩⟩;exact q.nx _ _ H' (h D) (R.set_own (g2.trans gg) (g2.free n) m' en') (Fr0.new R (g2.trans gg) (g2.free n))
end
section
variable{fu:Nat}{Γ:aq->List D->Rc}{G:aq->Option D}{X:Cx}{P:Po}
def bind1{i:Nat}{y:aq}{p:aO}(nd:X.N.Nodup)(hi:X.N[i]?=a8 y)(hx:Loc X.env.scope y)(hf:X.fn y=ah\/X.env.scope.names.lookup y=a8 .local) :
  ∀ρ d ρ2,z9 [i] d (j5 ρ)=a8 ρ2->∃ρ',j5 ρ'=ρ2/\DG X ρ (.Name y p) d ρ':=λρ d ρ2 h=>by
 simp only[z9]at h;cases h;exact⟨_,jh,DG.name _ nd hi hx hf⟩
def jkb{i j:Nat}{x y:aq}{n:Nat}{p q pt:aO}(hc:X.calm=ah)(hij:i≠j)(nd:X.N.Nodup)(hi:X.N[i]?=a8 x)(hj:X.N[j]?=a8 y)(hx:Loc X.env.scope x)(hy:Loc X.env.scope y)
  (hf:X.fn x=ah\/X.env.scope.names.lookup x=a8 .local) (hg:X.fn y=ah\/X.env.scope.names.lookup y=a8 .local) :
  ∀ρ d ρ2,z9 [i,j] d (j5 ρ)=a8 ρ2->∃ρ',j5 ρ'=ρ2/\DG X ρ (.Tuple [.Name x p,.Name y q] n pt) d ρ':=λρ d ρ2 h=>by
 simp only[z9]at h;split at h
 .rename_i a b;cases h;exact⟨(ρ.set i (.val a)).set j (.val b),by rw[jh,jh];rfl,DG.pair _ _ hij nd hi hj hx hy hf hg hc⟩
 .cases h
def DS.setX{e:au}{x y:aq}{i:Nat}{p pos:aO}{ρ:Rho}(he:DX X ρ e y)(h:P.ex y ρ)(hN:X.N.Nodup)(hi:X.N[i]?=a8 x)(hx:Loc X.env.scope x)(hs:aN e (a8 (.Name x p)) pos.line X.env=pure a9)(hf:X.fn x=ah\/X.env.scope.names.lookup x=a8 .local) :
  DS X ρ (.Assign [.Name x p] e pos) P:=λσ H E R q=>(Y6 hN hi hx peS hs hf).to (he σ H _ R (q.ex y ρ σ H h R (Fr0.refl _ _)))
def DS.exprX{e:au}{y:aq}{pos:aO}{ρ:Rho}(he:DX X ρ e y)(h:P.ex y ρ)(hs:aN e ae pos.line X.env=pure a9):DS X ρ (.Expr e pos) P:=λσ H E R q =>(Wj peS hs).to (he σ H _ R (q.ex y ρ σ H h R (Fr0.refl _ _)))
def DS.retX{e:au}{y:aq}{pos:aO}{ρ:Rho}(he:DX X ρ e y)(h:P.ex y ρ):DS X ρ (.Return (a8 e) pos) P:=λσ H E R q =>(Y7 peS).to (he σ H _ R (q.ex y ρ σ H h R (Fr0.refl _ _)))
def Dh{is:List Nat}{it':Ex}{b:Sx}{it tg:au}{body:List aS}{pos:aO}{ρ:Rho}(hq:X.calm=ah)(c:Cok X G)(hs:∀x,aG it X.env x=pure x)
  (hb:∀ρ d ρ2,z9 is d (j5 ρ)=a8 ρ2->∃ρ',j5 ρ'=ρ2/\DG X ρ tg d ρ') (hi:∀ρ ds,ev Γ G it' (j5 ρ)=a8 (.i ds)->DI X ρ tg it ds)
  (ih:∀ρ P,Ux (run fu Γ G b (j5 ρ)) P->DSs X ρ body P) (h:Ux (run fu Γ G (.loop is it' b) (j5 ρ)) P):DS X ρ (.For tg it body [] pos) P:=by
 have main:∀ρf:Rho,j5 ρf=frz it' (j5 ρ)->DS X ρf (.For tg it body [] pos) P:=λρf ef=>by
  rw[jih]at h;rw[<-ef]at h;split at h
  .rename_i ds hds;generalize hf:(λd ρ=>_:D->En->So)=f at h;refine DS.for (ds:=ds) (λi ρ'=>Ux (Q3 f (ds.drop i) (j5 ρ')) P) (hi ρf ds hds) (by rw[f6];exact h) (λi d ρ' hd w=>?_) (λρ' w=>?_) hq c.po hs
   .have hdr:ds.drop i=d::ds.drop (i+1):=by obtain⟨hlt,e⟩:=X6.mp hd;rw[cq hlt,e]
    rw[hdr,Q3]at w;have ef2:f d (j5 ρ')=match z9 is d (j5 ρ')with|some ρ2=>run fu Γ G b ρ2|none=>.no:=by rw[<-hf]<;>rfl
    rw[ef2]at w;cases hb2:z9 is d (j5 ρ') with
    |none=>rw[hb2]at w;exact w.elim
    |some ρ2 =>
     rw[hb2]at w;obtain⟨ρ3,e3,dg⟩:=hb ρ' d ρ2 hb2;refine⟨ρ3,dg,ih ρ3 _ ?_⟩;rw[e3];dsimp only at w;cases ho:run fu Γ G b ρ2 with
     |next ρ4=>rw[ho]at w;exact λρ5 e=>by rw[<-e]at w;exact w
     |cnt ρ4=>rw[ho]at w;exact λρ5 e=>by rw[<-e]at w;exact w
     |brk ρ4=>rw[ho]at w;exact w
     |ret r=>rw[ho]at w;exact w
     |err x ρ4=>rw[ho]at w;exact w
     |no=>rw[ho]at w;exact w
   .rw[eE,Q3]at w;exact w ρ' rfl
  .exact h.elim
 by_cases z:Jh it' (j5 ρ)=ah
 .unfold Jh at z;split at z
  .rename_i i ei;split at z
   .rename_i l e;obtain⟨a,q⟩:=Qy e;refine DS.freeze i q (main _ ?_);rw[jh];simp only[frz,ei,e,Sl.abs]
   .cases z
  .cases z
 .have z':Jh it' (j5 ρ)=a9:=by simpa using z
  refine main ρ ?_;unfold frz;split
  .rename_i i ei;split
   .rename_i l e;simp only[Jh,ei,e]at z';cases z'
   .rfl
  .rfl
def j41{is:List Nat}{elt' it' c':Ex}{elt it tg:au}{ifs:List au}{scope:b8}{p p1 pos:aO}{k:Nat}{z:aq}{ρ:Rho}(hq:X.calm=ah)(hX:Cok X G)
  (hk:X.N[k]?=a8 z) (hx:Loc X.env.scope z) (hf:X.fn z=ah\/X.env.scope.names.lookup z=a8 .local)
  (hsw:aN (.ListComp elt [⟨tg,it,ifs,0⟩] scope p) (a8 (.Name z p1)) pos.line X.env=pure ah)
  (hit:∀ρ ds,ev Γ G it' (j5 ρ)=a8 (.i ds)->DI X ρ tg it ds) (hkind:scope.kind=.function) (hok:v6 scope X.env X.N is=ah) (hs:∀x,aG it X.env x=pure x)
  (hb:∀ρ d ρ2,z9 is d (j5 ρ)=a8 ρ2->(∀j∈is,ρ[j]?=a8 .un)->∃ρ',j5 ρ'=ρ2/\Wk ρ' ρ/\owns ρ'=owns ρ/\∀C s H fp pn,DG (cCx X scope C s H fp pn) ρ tg d ρ')
  (he:∀C s H fp pn ρ r,ev Γ G elt' (j5 ρ)=a8 (.v r)->Has (cCx X scope C s H fp pn) ρ elt r)
  (hc:∀C s H fp pn ρ,(ev Γ G c' (j5 ρ)=a8 (.a [])->DTs (cCx X scope C s H fp pn) ρ ifs ah)/\∀y k,ev Γ G c' (j5 ρ)=a8 (.a [y])->y.d=.bl k->DTs (cCx X scope C s H fp pn) ρ ifs k)
  (h:Ux (run fu Γ G (.set k (.comp is elt' it' c')) (j5 ρ)) P):DS X ρ (.Assign [.Name z p1] (.ListComp elt [⟨tg,it,ifs,0⟩] scope p) pos) P:=by
 rw[jba]at h;unfold By at h;have h:=(Um h).resolve_right λ⟨y,ey,_⟩=>by simp only[er]at ey;cases ey
 cases e:ev Γ G (.comp is elt' it' c') (j5 ρ) with
 |none=>rw[e]at h;exact h.elim
 |some w =>
  rw[e]at h;cases w with
  |a _=>exact h.elim
  |i _=>exact h.elim
  |v r =>
   obtain⟨l,ρf,ds,pr,g,er,el,hfz,hi,hun,hz,hb'⟩:=W5 hit hb he hc e;subst er;refine DS.setCf (ρf:=ρf) k is pr g ?_ ?_ hi hb' (λa=>?_) hX.nd hun hz hk hx hf hsw hq hkind hok hs
   .rcases hfz with e|⟨_,i,a,l',q,e⟩
    .subst e;exact λ_ _ _ R=>R
    .subst e;exact λ_ _ _ R=>R.freeze q
   .rcases hfz with e|⟨n,_⟩
    .exact .inl e
    .exact .inr (el▸n)
   .rw[<-el];exact h _ jh
def j2v{w:Option W}{d:D}(h:stOf w=a8 d):∃z,w=a8 (.v z)/\z.st=a8 d:=by
 unfold stOf at h;split at h
 .exact⟨_,rfl,h⟩
 .cases h
def jaf{ρ:Rho}{x:Nat}:j5 (ρ.set x .un)=(j5 ρ).set x .un:=jh
theorem Yq:∀{ρ:Rho},noOwn (j5 ρ)=ah->owns ρ=[]
 |[],_=>rfl
 |.un::ρ,h=>Yq (ρ:=ρ) h
 |.val _::ρ,h=>Yq (ρ:=ρ) h
 |.own _ _::ρ,h=>by cases h
 |.raw _ _ _::ρ,h=>Yq (ρ:=ρ) h
end
structure Ts(X:Cx)(t:Sx)(nd:Ns):Prop where
 m:∀(fu:Nat)(Γ:aq->List D->Rc)(G:aq->Option D),Cok X G->Gok X Γ->jbg fu Γ G X t nd
def Ts.nil:∀{X:Cx},Ts X .nop (.ss []):=by intro _;refine⟨λfu Γ G=>?_⟩;intro c g ρ P h;exact DSs.nil (h ρ rfl)
def Ts.cons:∀{X:Cx}{a b:Sx}{st:aS}{rest:List aS},Ts X a (.s st)->Ts X b (.ss rest)->Ts X (.seq a b) (.ss (st::rest)):=by
 intro _ _ _ _ _ q0 q1;refine⟨λfu Γ G=>?_⟩;have iha:=q0.m fu Γ G;have ihb:=q1.m fu Γ G;intro c g ρ P h;rw[jbb]at h;split at h
 .rename_i ρ' e;exact DSs.cons (N:=λρ1=>j5 ρ1=ρ') (iha c g ρ _ (by rw[e];exact λρ2 z=>z)) λρ1 z=>ihb c g ρ1 P (by rw[z];exact h)
 .rename_i o hn;refine DSs.cons (N:=λ_=>False) (iha c g ρ _ ?_) λ_ z=>z.elim;cases e:run fu Γ G _ (j5 ρ) with
  |next ρ'=>exact absurd e (hn ρ')
  |ret r=>rw[e]at h;exact h
  |err x r=>rw[e]at h;exact h
  |brk r=>rw[e]at h;exact h
  |cnt r=>rw[e]at h;exact h
  |no=>rw[e]at h;exact h
def Ts.lmk:∀{X:Cx}{x:Nat}{nx g:aq}{es':Ex}{es:List au}{p1 p2 p3 p4 p5 p6 p7 p8 p9:aO}(hX:X.N[x]?=a8 nx) (lx:Loc X.env.scope nx) (fx:X.fn nx=ah\/X.env.scope.names.lookup nx=a8 .local) (dx:(nx==k9a)=a9) (cx:(nx==k9b)=a9) (hg:Gl X g) (hdb:(g==k9a)=a9) (s1:aN (.Dict [] [] p2) (a8 (.Name nx p1)) p3.line X.env=pure a9) (s2:aN (.Call (.Name g p4) (.Name nx p5::es) [] p6) ae p7.line X.env=pure a9) (hs:af (.Name nx p5::es) X.env=(a9,aC (.Name nx p5) X.env)::af es X.env) (hpl:(aP p6 (af es X.env)).any (·.1)=a9),Tr X es' (.a es)->Ts X (.lmk x g es') (.ss [.Assign [.Name nx p1] (.Dict [] [] p2) p3,.Expr (.Call (.Name g p4) (.Name nx p5::es) [] p6) p7,.Return (a8 (.Name nx p8)) p9]):=by
 intro _ x nx g' es' es p1 p2 p3 p4 p5 p6 p7 p8 p9 hX lx fx dx cx hg hdb s1 s2 hs hpl hes;refine⟨λfu Γ G=>?_⟩;intro c g ρ P h;unfold run j8x callD at h;split at h
 .rename_i _ d ks ns eb er;split at er
  .rename_i rs ers;split at er
   .rename_i ds eds;split at er
    .rename_i d2 ks2 ns2 ez;cases er;rw[Xe]at eb;have hl:x<ρ.length:=by have:=of_decide_eq_true eb.1;unfold j5 at this;rw[xf]at this;exact this
     have q:=g (dq g') (.dct [] (([]:zo).map D.int)::ds);rw[ez]at q;rw[<-jaf]at ers;exact DSs.lmk (q g' [] [] ds rfl rfl) hl (Yq eb.2) ((sound hes c g (ρ.set x .un) rs ers).toA eds) ⟨rfl,rfl,rfl,rfl,rfl,rfl⟩ (h (.val _) rfl) c.nd hX lx fx dx cx hg hdb s1 s2 hs hpl
    .cases er
   .cases er
  .cases er
 .exact h.elim
def Ts.keep:∀{X:Cx}{i:Nat}{b:Sx}{sts:List aS},Ts X b (.ss sts)->Ts X (.seq (.keep i) b) (.ss sts):=by
 intro _ i _ _ q0;refine⟨λfu Γ G=>?_⟩;have ih:=q0.m fu Γ G;intro c g ρ P h;simp only[jbb,jii,Dj]at h;cases e:(j5 ρ)[i]? with
 |none=>rw[e]at h;exact h.elim
 |some v =>
  rw[e]at h;cases v with
  |own l =>obtain⟨a,q⟩:=Qy e;exact DSs.freeze _ q (ih c g _ P (by rw[jh];exact h))
  |un=>exact h.elim
  |val d=>exact ih c g ρ P h
  |exc x=>exact h.elim
def Ts.set:∀{X:Cx}{i:Nat}{x:aq}{e':Ex}{e:au}{p pos:aO}(hi:X.N[i]?=a8 x) (hx:Loc X.env.scope x) (hs:aN e (a8 (.Name x p)) pos.line X.env=pure a9) (hf:X.fn x=ah\/X.env.scope.names.lookup x=a8 .local),Tr X e' (.e e)->Ts X (.set i e') (.s (.Assign [.Name x p] e pos)):=by
 intro _ _ _ _ _ _ _ hi hx hs hf he;refine⟨λfu Γ G=>?_⟩;intro c g ρ P h;have S:=sound he c g;rw[jba]at h;unfold By at h;rcases Um h with h|⟨y,ey,hP⟩
 rotate_left
 .exact DS.setX (j0l he c g ρ y ey) (hP ρ rfl) c.nd hi hx hs hf
 split at h
 .rename_i l e;exact DS.setO _ (S ρ _ e) (λa=>h _ jh) c.nd hi hx hs hf
 .rename_i r hn e;split at h
  .rename_i d hd;exact DS.set _ ((S ρ _ e).toE hd) (h _ jh) c.nd hi hx hs hf
  .exact h.elim
 .exact h.elim
def Ts.setC1:∀{X:Cx}{k i:Nat}{z y:aq}{py p p1 pos:aO}{elt' it' c':Ex}{elt it:au}{ifs:List au} {scope:b8} (hq:X.calm=ah) (hk:X.N[k]?=a8 z) (hx:Loc X.env.scope z) (hf:X.fn z=ah\/X.env.scope.names.lookup z=a8 .local) (hsw:aN (.ListComp elt [⟨.Name y py,it,ifs,0⟩] scope p) (a8 (.Name z p1)) pos.line X.env=pure ah) (hi:X.N[i]?=a8 y) (hl:Vv scope y=ah) (hkind:scope.kind=.function) (hok:v6 scope X.env X.N [i]=ah) (hs:∀x,aG it X.env x=pure x),Tr X it' (.i (.Name y py) it)->(∀C s H fp pn,Tr (cCx X scope C s H fp pn) elt' (.e elt))->(∀C s H fp pn,Tr (cCx X scope C s H fp pn) c' (.c ifs))->Ts X (.set k (.comp [i] elt' it' c')) (.s (.Assign [.Name z p1] (.ListComp elt [⟨.Name y py,it,ifs,0⟩] scope p) pos)):=by
 intro _ _ _ _ _ _ _ _ _ _ _ _ _ _ _ _ hq hk hx hf hsw hi hl hkind hok hs hit he hc;refine⟨λfu Γ G=>?_⟩;intro c g ρ P h;exact j41 hq c hk hx hf hsw (λρ ds z=>sound hit c g ρ ds z) hkind hok hs (λρ d ρ2 hb hun=>by
  simp only[z9]at hb
  cases hb
  have hu:=hun _ (xm.mpr rfl)
  exact⟨_,jh,Wk.set hu,Zb hu,λC s H fp pn=>DG.name _ c.nd hi (Vh hl) (U5 hl)⟩)
  (λC s H fp pn ρ r z=>sound (he C s H fp pn) c.comp g.comp ρ r z) (λC s H fp pn ρ=>sound (hc C s H fp pn) c.comp g.comp ρ) h
def Ts.mov:∀{X:Cx}{i j:Nat}{x y:aq}{p q pos:aO}(hi:X.N[i]?=a8 x) (hj:X.N[j]?=a8 y) (hx:Loc X.env.scope x) (hf:X.fn x=ah\/X.env.scope.names.lookup x=a8 .local) (hv:Vis X.env.scope y) (hd:(y==k9a)=a9) (hcd:(y==k9b)=a9),Ts X (.mov i j) (.s (.Assign [.Name x p] (.Name y q) pos)):=by
 intro _ _ _ _ _ _ _ _ hi hj hx hf hv hd hcd;refine⟨λfu Γ G=>?_⟩;intro c g ρ P h;rw[jkr]at h;unfold j1a at h;split at h
 .rename_i l e;obtain⟨a,q⟩:=Qy e;split at h
  .exact h.elim
  .rename_i hij;exact DS.mov q hij (h _ (by rw[jh,jh];rfl)) c.nd hi hj hx hf hv hd hcd
 .rename_i d e;exact DS.set _ (DE.var _ (Vu e) hj hv hd hcd) (h _ jh) c.nd hi hx rfl hf
 .exact h.elim
def Ts.expr:∀{X:Cx}{e':Ex}{e:au}{pos:aO}(hs:aN e ae pos.line X.env=pure a9),Tr X e' (.e e)->Ts X (.expr e') (.s (.Expr e pos)):=by
 intro _ _ _ _ hs he;refine⟨λfu Γ G=>?_⟩;intro c g ρ P h;rw[jij]at h;unfold j1l at h;rcases Um h with h|⟨y,ey,hP⟩
 rotate_left
 .exact DS.exprX (j0l he c g ρ y ey) (hP ρ rfl) hs
 split at h
 .rename_i r e;exact DS.expr (sound he c g ρ r e).toT (h ρ rfl) hs
 .exact h.elim
def Ts.ret:∀{X:Cx}{e':Ex}{e:au}{pos:aO},Tr X e' (.e e)->Ts X (.ret e') (.s (.Return (a8 e) pos)):=by
 intro _ _ _ _ he;refine⟨λfu Γ G=>?_⟩;intro c g ρ P h;rw[jbc]at h;unfold retS at h;rcases Um h with h|⟨y,ey,hP⟩
 rotate_left
 .exact DS.retX (j0l he c g ρ y ey) (hP ρ rfl)
 split at h
 .rename_i l e;exact DS.retO (sound he c g ρ _ e) (h _ rfl)
 .rename_i r hn e;exact DS.ret (sound he c g ρ _ e).toT (h _ rfl)
 .exact h.elim
def Ts.retV:∀{X:Cx}{i:Nat}{x:aq}{p pos:aO}(hi:X.N[i]?=a8 x) (hv:Vis X.env.scope x) (hd:(x==k9a)=a9) (hcd:(x==k9b)=a9),Ts X (.retV i) (.s (.Return (a8 (.Name x p)) pos)):=by
 intro _ _ _ _ _ hi hv hd hcd;refine⟨λfu Γ G=>?_⟩;intro c g ρ P h;rw[jie]at h;unfold Oa at h;split at h
 .rename_i l e;obtain⟨a,q⟩:=Qy e;exact DS.retV _ q (h _ rfl) hi hv hd hcd
 .rename_i d e;exact DS.ret (DE.toT (DE.var _ (Vu e) hi hv hd hcd)) (h _ rfl)
 .exact h.elim
def Ts.ife:∀{X:Cx}{c':Ex}{a b:Sx}{c:au}{sa sb:List aS}{pos:aO},Tr X c' (.b c)->Ts X a (.ss sa)->Ts X b (.ss sb)->Ts X (.ife c' a b) (.s (.If c sa sb pos)):=by
 intro _ _ _ _ _ _ _ _ hc q1 q2;refine⟨λfu Γ G=>?_⟩;have iha:=q1.m fu Γ G;have ihb:=q2.m fu Γ G;intro c g ρ P h;rw[jks]at h;split at h
 .rename_i e;exact DS.if (sound hc c g ρ ah e) (λ_=>iha c g ρ P h) λz=>by cases z
 .rename_i e;exact DS.if (sound hc c g ρ a9 e) (λz=>by cases z) λ_=>ihb c g ρ P h
 .exact h.elim
def Ts.for1:∀{X:Cx}{i:Nat}{y:aq}{it':Ex}{b:Sx}{it:au}{body:List aS} {p pos:aO} (hq:X.calm=ah) (hi:X.N[i]?=a8 y) (hx:Loc X.env.scope y) (hf:X.fn y=ah\/X.env.scope.names.lookup y=a8 .local) (hs:∀x,aG it X.env x=pure x),Tr X it' (.i (.Name y p) it)->Ts X b (.ss body)->Ts X (.loop [i] it' b) (.s (.For (.Name y p) it body [] pos)):=by intro _ _ _ _ _ _ _ _ _ hq hi hx hf hs hit q1;refine⟨λfu Γ G=>?_⟩;have ih:=q1.m fu Γ G;intro c g ρ P h;exact Dh hq c hs (bind1 c.nd hi hx hf) (λρ ds z=>sound hit c g ρ ds z) (ih c g) h
def Ts.for2:∀{X:Cx}{i j:Nat}{x y:aq}{it':Ex}{b:Sx}{it:au}{body:List aS} {n:Nat} {p q pt pos:aO} (hq:X.calm=ah) (hij:i≠j) (hi:X.N[i]?=a8 x) (hj:X.N[j]?=a8 y) (hx:Loc X.env.scope x) (hy:Loc X.env.scope y) (hf:X.fn x=ah\/X.env.scope.names.lookup x=a8 .local) (hg:X.fn y=ah\/X.env.scope.names.lookup y=a8 .local) (hs:∀x,aG it X.env x=pure x),Tr X it' (.i (.Tuple [.Name x p,.Name y q] n pt) it)->Ts X b (.ss body)->Ts X (.loop [i,j] it' b) (.s (.For (.Tuple [.Name x p,.Name y q] n pt) it body [] pos)):=by intro _ _ _ _ _ _ _ _ _ _ _ _ _ _ hq hij hi hj hx hy hf hg hs hit q1;refine⟨λfu Γ G=>?_⟩;have ih:=q1.m fu Γ G;intro c g ρ P h;exact Dh hq c hs (jkb hq hij c.nd hi hj hx hy hf hg) (λρ ds z=>sound hit c g ρ ds z) (ih c g) h
def Ts.app:∀{X:Cx}{i:Nat}{x:aq}{e':Ex}{e:au}{p p1 p2 pos:aO}(hN:X.N[i]?=a8 x) (hv:Vis X.env.scope x) (hd:(x==k9a)=a9) (hcd:(x==k9b)=a9) (hst:af [e] X.env=[(a9,aC e X.env)]) (hline:(p1.endLine==p2.line)=ah) (hbase:aW (.Name x p) "append" X.env (aC (.Name x p) X.env)=aC (.Name x p) X.env) (hfew:((aP p2 (af [e] X.env)).all (λx=>!x.1)&&(bM p2 (ba [] X.env)).all (λx=>x.1.isSome)&&decide (([e]:List au).length+([]:List b7).length+(if ([]:List b7).isEmpty then 0 else 1)<30))=ah),Tr X e' (.e e)->Ts X (.app i e') (.s (.Expr (.Call (.Attribute (.Name x p) "append" p1) [e] [] p2) pos)):=by
 intro _ _ _ _ _ _ _ _ _ hN hv hd hcd hst hline hbase hfew he;refine⟨λfu Γ G=>?_⟩;intro c g ρ P h;rw[jku]at h;unfold O6 at h;split at h
 .rename_i l x el ex;obtain⟨a,q⟩:=Qy el;split at h
  .rename_i d hd';split at h
   .rename_i hz;exact DS.append _ q ((sound he c g ρ x ex).toE hd') hz (h _ jh) hN hv hd hcd hst hline hbase hfew rfl
   .exact h.elim
  .exact h.elim
 .exact h.elim
def Ts.ext:∀{X:Cx}{i:Nat}{x:aq}{e':Ex}{e:au}{p p1 p2 pos:aO}(hN:X.N[i]?=a8 x) (hv:Vis X.env.scope x) (hd:(x==k9a)=a9) (hcd:(x==k9b)=a9) (hst:af [e] X.env=[(a9,aC e X.env)]) (hline:(p1.endLine==p2.line)=ah) (hbase:aW (.Name x p) "extend" X.env (aC (.Name x p) X.env)=aC (.Name x p) X.env) (hfew:((aP p2 (af [e] X.env)).all (λx=>!x.1)&&(bM p2 (ba [] X.env)).all (λx=>x.1.isSome)&&decide (([e]:List au).length+([]:List b7).length+(if ([]:List b7).isEmpty then 0 else 1)<30))=ah),Tr X e' (.e e)->Ts X (.ext i e') (.s (.Expr (.Call (.Attribute (.Name x p) "extend" p1) [e] [] p2) pos)):=by
 intro _ _ _ _ _ _ _ _ _ hN hv hd hcd hst hline hbase hfew he;refine⟨λfu Γ G=>?_⟩;intro c g ρ P h;rw[jkt]at h;unfold K6 at h;split at h
 .rename_i l m el ex;obtain⟨a,q⟩:=Qy el;split at h
  .rename_i hz;exact DS.extend _ q (sound he c g ρ _ ex) (zm hz) (h _ jh) hN hv hd hcd hst hline hbase hfew rfl
  .exact h.elim
 .exact h.elim
def Ts.retL:∀{X:Cx}{x:aq}{is:List Nat}{params:dQ}{body:au}{scope:b8}{cl:List (aq×aj)} {p1 pos:aO} (hx:x∈Zz) (hqu:X.env.qual=x ++ ".<locals>.") (hdef:gx params X.env=([],[])) (hcl:dY scope X.env=pure cl) (ht:Z0 X.K x=a8 (params,body,scope)) (hn:cl.map (·.1)=v5 scope) (nd:(v5 scope).Nodup) (hc:j57 X cl is),Ts X (.retL x is) (.s (.Return (a8 (.Lambda params body scope p1)) pos)):=by
 intro _ _ _ _ _ _ _ _ _ hx hqu hdef hcl ht hn nd hc;refine⟨λfu Γ G=>?_⟩;intro c g ρ P h;rw[jif]at h;unfold Dc at h;split at h
 .rename_i ds e;exact DS.retLam ⟨hx,hqu,c.lm _ hx hqu⟩ hdef hcl ht hn nd (Ke hc e) (h (.val _) rfl)
 .exact h.elim
def Ts.retC:∀{X:Cx}{f x:aq}{is:List Nat}{a' b':Ex}{a b:au}{params:dQ}{body:au} {scope:b8} {cl:List (aq×aj)} {p1 p2 p3 pos:aO} (hx:x∈Zz) (hqu:X.env.qual=x ++ ".<locals>.") (hdef:gx params X.env=([],[])) (hcl:dY scope X.env=pure cl) (ht:Z0 X.K x=a8 (params,body,scope)) (hn:cl.map (·.1)=v5 scope) (nd:(v5 scope).Nodup) (hc:j57 X cl is) (hg:Gl X f) (hdb:(f==k9a)=a9) (hs1:af [a,b,.Lambda params body scope p1] X.env=(a9,aC a X.env)::af [b,.Lambda params body scope p1] X.env) (hs2:af [b,.Lambda params body scope p1] X.env=(a9,aC b X.env)::af [.Lambda params body scope p1] X.env) (hs3:af [.Lambda params body scope p1] X.env=(a9,aC (.Lambda params body scope p1) X.env)::af [] X.env) (hpl:(aP p3 (af [b,.Lambda params body scope p1] X.env)).any (·.1)=a9),Tr X a' (.e a)->Tr X b' (.e b)->Ts X (.retC f x a' b' is) (.s (.Return (a8 (.Call (.Name f p2) [a,b,.Lambda params body scope p1] [] p3)) pos)):=by
 intro _ f x is a' b' a b params body scope cl p1 p2 p3 pos hx hqu hdef hcl ht hn nd hc hg hdb hs1 hs2 hs3 hpl ha hb;refine⟨λfu Γ G=>?_⟩;intro c g ρ P h;rw[jig]at h;unfold De at h;split at h
 .rename_i ds u v e1 e2 e3;have q:=g f [u.d,v.d,.fn x ds];cases z:Γ f [u.d,v.d,.fn x ds] with
  |val d =>
   rw[z]at h q;dsimp only[j04]at h;split at h
   .rename_i nf;exact DS.ret (DT.callL q ⟨hx,hqu,c.lm _ hx hqu⟩ hdef hcl ht hn nd (Ke hc e1) (sound ha c g ρ u e2).toT (sound hb c g ρ v e3).toT nf ⟨rfl,rfl⟩ hg hdb hs1 hs2 hs3 hpl) (h (.val _) rfl)
   .exact h.elim
  |fresh l=>rw[z]at h;exact h.elim
  |err x=>rw[z]at h;exact h.elim
  |lval d=>rw[z]at h;exact h.elim
  |mval d k=>rw[z]at h;exact h.elim
  |merr x=>rw[z]at h;exact h.elim
  |dval d ks ns=>rw[z]at h;exact h.elim
  |no=>rw[z]at h;exact h.elim
 .exact h.elim
def Ts.nmake:∀{X:Cx}{x t y:Nat}{nx nt ny:aq}{it' e1' e2':Ex}{it e1 e2:au}{p1 p2 p3 p4 p5 p6 p10 p11 p12 p14 p16 p17 p18:aO}(hq:X.calm=ah) (hX:X.N[x]?=a8 nx) (hT:X.N[t]?=a8 nt) (hY:X.N[y]?=a8 ny) (lx:Loc X.env.scope nx) (lt:Loc X.env.scope nt) (ly:Loc X.env.scope ny) (fx:X.fn nx=ah\/X.env.scope.names.lookup nx=a8 .local) (ft:X.fn nt=ah\/X.env.scope.names.lookup nt=a8 .local) (fy:X.fn ny=ah\/X.env.scope.names.lookup ny=a8 .local) (dx:(nx==k9a)=a9) (cx:(nx==k9b)=a9) (dt:(nt==k9a)=a9) (ct:(nt==k9b)=a9) (s1:aN (.Dict [] [] p2) (a8 (.Name nx p1)) p3.line X.env=pure a9) (s2:aN e1 (a8 (.Name ny p5)) p6.line X.env=pure a9) (s3:aN e2 (a8 (.Subscript (.Name nx p10) (.Name nt p11) p12)) p14.line X.env=pure a9) (hf:∀x,aG it X.env x=pure x),Tr X it' (.i (.Name nt p4) it)->Tr X e1' (.e e1)->Tr X e2' (.e e2)->Ts X (.nmake x t y it' e1' e2') (.ss (jau nx nt ny it e1 e2 p1 p2 p3 p4 p5 p6 p10 p11 p12 p14 p16 p17 p18)):=by
 intro _ x t y nx nt ny it' e1' e2' it e1 e2 p1 p2 p3 p4 p5 p6 p10 p11 p12 p14 p16 p17 p18 hq hX hT hY lx lt ly fx ft fy dx cx dt ct s1 s2 s3 hf hit he1 he2;refine⟨λfu Γ G=>?_⟩;intro c g ρ P h;rw[j3q]at h;split at h
 .rename_i hcnd;obtain⟨rx,rt,ry,hxt,hxy,hty⟩:=hcnd;have ln:(j5 ρ).length=ρ.length:=by unfold j5;rw[xf]
  rw[ln]at rx rt ry;split at h
  .rename_i ds eds;split at h
   .rename_i r er;refine DSs.nmake (W:=λi ρ' ks ns=>Vz (λρ=>stOf (ev Γ G e1' ρ)) (λρ=>stOf (ev Γ G e2' ρ)) x t y (ds.drop i) (j5 ρ') ks ns=a8 r) rx rt ry hxt hxy hty (sound hit c g (ρ.set x .un) ds (by rw[jh];exact eds))
     (by rw[f6,jh];exact er) (λi d ρ' ks ns hd w=>?_) (λρ' ks ns w=>?_) c.un' hq c.po c.nd hX hT hY lx lt ly fx ft fy dx cx dt ct s1 s2 s3 hf
    .have hdr:ds.drop i=d::ds.drop (i+1):=by obtain⟨hlt,e⟩:=X6.mp hd;rw[cq hlt,e]
     rw[hdr]at w;cases d with
     |tup l =>
      simp only[Vz]at w;split at w
      .rename_i k d1 ek ed;obtain⟨z,ez,ed2⟩:=j2v ed;have hk:=v9 ek;subst hk;split at w
       .rename_i n en;obtain⟨z2,ez2,ed3⟩:=j2v en;split at w
        .rename_i hh;refine⟨k,d1,n,rfl,(sound he1 c g (ρ'.set t (.val (.tup (k.map D.int)))) z (by rw[jh];exact ez)).toE ed2,(sound he2 c g (((ρ'.set t (.val (.tup (k.map D.int)))).set y (.val d1)).set x (.val (.dct ks (ns.map D.int)))) z2 (by rw[jh,jh,jh];exact ez2)).toE ed3,hh.1,hh.2,by rw[jh,jh];exact w⟩
        .cases w
       .cases w
      .cases w
     |_=>simp only[Vz]at w;cases w
    .rw[eE,Vz]at w;cases w;exact h (.val (.dct ks (ns.map D.int))) rfl
   .exact h.elim
  .exact h.elim
 .exact h.elim
def Ts.raise:∀{X:Cx}{x:aq}{e':Ex}{e:au}{np cpos pos:aO}(hq:X.calm=ah)(hg:Gl X x) (hdb:(x==k9a)=a9) (hs:af [e] X.env=[(a9,aC e X.env)]),Tr X e' (.e e)->Ts X (.raise x e') (.s (.Raise (a8 (.Call (.Name x np) [e] [] cpos)) ae pos)):=by
 intro _ _ _ _ _ _ _ hq hg hdb hs he;refine⟨λfu Γ G=>?_⟩;intro c g ρ P h;rw[jec]at h;unfold j8j at h;split at h
 .rename_i r d er eg;obtain⟨hx,o,ho⟩:=c.ec _ _ eg;exact DS.raiseE c.ea hx ho (W.mg_of c.kin c.ns ho) c.kin hq (λσ H R=>(sound he c g ρ r er).toT σ H _ R λv H' g' _=>g') (h ρ rfl) hg hdb hs
 .exact h.elim
section
def Wg{fu:Nat}{Γ:aq->List D->Rc}{G:aq->Option D}{X:Cx}{t:Sx}{nd:Ns}(h:Ts X t nd):Cok X G->Gok X Γ->jbg fu Γ G X t nd:=h.m fu Γ G
end
theorem Mm{f:D->List zo->zo->Option (D×List zo×zo)}:∀{l rs:List D}{ks ks':List zo} {ns ns':zo},vd f l ks ns=a8 (rs,ks',ns')->rs.length=l.length
 |[],rs,ks,ks',ns,ns',h=>by cases h;rfl
 |d::l,rs,ks,ks',ns,ns',h=>by
  unfold vd at h;split at h
  .cases h
  .split at h
   .cases h
   .rename_i e;cases h;rw[xx,xx,Mm e]
def j1c{f:D->List zo->zo->Option (D×List zo×zo)}{l rs:List D}{i:Nat}{d:D}{ks ks':List zo}{ns ns':zo}(hd:l[i]?=a8 d)(h:vd f (l.drop i) ks ns=a8 (rs.drop i,ks',ns')) :
  ∃r ks1 ns1,f d ks ns=a8 (r,ks1,ns1)/\rs[i]?=a8 r/\vd f (l.drop (i+1)) ks1 ns1=a8 (rs.drop (i+1),ks',ns'):=by
 have hi:=(X6.mp hd).1;have e:l.drop i=d::l.drop (i+1):=by rw[cq hi];congr 1;exact(X6.mp hd).2
 rw[e]at h;unfold vd at h;split at h
 .cases h
 .rename_i r ks1 ns1 e1;split at h
  .cases h
  .rename_i rs2 ks2 ns2 e2;have z:=az h;have z1:r::rs2=rs.drop i:=congrArg Prod.fst z;have z2:(ks2,ns2)=(ks',ns'):=congrArg Prod.snd z;cases z2;have hr:rs[i]?=a8 r:=by
    have:(rs.drop i)[0]?=a8 r:=by rw[<-z1];rfl
    rw[List.getElem?_drop,m9]at this;exact this
   have hr2:rs.drop (i+1)=rs2:=by
    have:(rs.drop i).drop 1=rs2:=by rw[<-z1];rfl
    rw[List.drop_drop]at this;exact this
   exact⟨r,ks1,ns1,e1,hr,by rw[hr2];exact e2⟩
def j6a:∀{rs ds:List D}{ls:List zo},U8 rs ds=a8 ls->ls.length=rs.length/\∀(i:Nat)(r d:D),rs[i]?=a8 r->ds[i]?=a8 d->∃n s,r=.int n/\d=.int s/\ls[i]?=a8 [n,s]:=by
 intro rs;induction rs with
 |nil =>
  intro ds ls h;cases ds with
  |nil=>cases h;exact⟨rfl,λi r d h=>by cases h⟩
  |cons _ _=>cases h
 |cons r rs ih =>
  intro ds ls h;cases ds with
  |nil=>cases r<;>cases h
  |cons d ds =>
   cases r with
   |int n =>
    cases d with
    |int s =>
     unfold U8 at h;obtain⟨l2,e,rfl⟩:=Xl.mp h;obtain⟨z1,z2⟩:=ih e;refine⟨by rw[xx,xx,z1],λi r' d' h1 h2=>?_⟩;cases i with
     |zero=>cases h1;cases h2;exact⟨n,s,rfl,rfl,rfl⟩
     |succ i=>exact z2 i r' d' h1 h2
    |_=>cases h
   |_=>cases h
section
variable{X:Cx}{nx nw nt g y:aq}{c:au}{es:List au}{c' es' it':Ex}{s t j:Nat}{st:aS}{scope:b8}
def ja2{Γ:aq->List D->Rc}{f:aq}{a:Option W}{ks ks':List zo}{ns ns':zo}{d:D}(h:callD Γ f a ks ns=a8 (d,ks',ns')):∃rs ds,a=a8 (.a rs)/\zg rs=a8 ds/\Γ (dq f) (.dct ks (ns.map D.int)::ds)=.dval d ks' ns':=by
 unfold callD at h;split at h
 .rename_i rs;split at h
  .rename_i ds eds;split at h
   .rename_i e;cases h;exact⟨rs,ds,rfl,eds,e⟩
   .cases h
  .cases h
 .cases h
def O3{Γ:aq->List D->Rc}{G:aq->Option D}{Y:Cx}{ρ:Rho}{ks ks':List zo}{ns ns':zo}{d:D}{p p1 pos:aO}(cc:Cok Y G)(gg:Gok Y Γ)(ha:Tr Y es' (.a es))(ho:owns ρ=[])(h:callD Γ g (ev Γ G es' (j5 ρ)) ks ns=a8 (d,ks',ns'))
  (hN:Y.N[0]?=a8 nx) (hv:Vis Y.env.scope nx) (hd:(nx==k9a)=a9) (hcd:(nx==k9b)=a9) (hg:Gl Y g) (hdb:(g==k9a)=a9)
  (hs:af (.Name nx p1::es) Y.env=(a9,aC (.Name nx p1) Y.env)::af es Y.env) (hpl:(aP pos (af es Y.env)).any (·.1)=a9):DFx Y ρ 0 (.Call (.Name g p) (.Name nx p1::es) [] pos) ks ns d ks' ns':=by
 obtain⟨rs,ds,e1,e2,e3⟩:=ja2 h;have q:=gg (dq g) (.dct ks (ns.map D.int)::ds);rw[e3]at q;exact DFx.call (q g ks ns ds rfl rfl) ((sound ha cc gg ρ rs e1).toA e2) ⟨rfl,rfl,rfl,rfl,rfl,rfl⟩ ho hN hv hd hcd hg hdb hs hpl
def Zx{ρ:Rho}{i:Nat}{d:D}:j5 (ρ.set i (.val d))=(j5 ρ).set i (.val d):=jh
def je7{ρ:Rho}{i:Nat}{d:D}(h:(j5 ρ)[i]?=a8 (.val d)):ρ[i]?=a8 (.val d):=Vu h
def Jr{ρ:Rho}{i:Nat}{d:D}(h:owns ρ=[]):owns (ρ.set i (.val d))=[]:=by have:=(jf (ρ:=ρ) (i:=i) (s:=.val d) rfl).subset;rw[h]at this;exact Ti.mpr λb hb=>absurd (this hb) (by simp)
def MD.fill{n0 n1 n2:Nat}{p1 p2 p3 p4 p5 p6 p7 p8 p9 p10 p11 p12 p13 p14 p15 p16 p17 p18 p19 p20 p21 q1 q2 q3:aO}(hX:X.N[0]?=a8 nx)(hW:X.N[s]?=a8 nw)(hT:X.N[t]?=a8 nt)(vx:Vis X.env.scope nx)(vw:Vis X.env.scope nw)(lt:Loc X.env.scope nt)(ft:X.fn nt=ah\/X.env.scope.names.lookup nt=a8 .local)
  (dx:(nx==k9a)=a9) (cx:(nx==k9b)=a9) (dw:(nw==k9a)=a9) (cw:(nw==k9b)=a9) (dt:(nt==k9a)=a9) (ct:(nt==k9b)=a9)
  (hm:aH .NotIn (.Name nx p2)=a9) (s1:aN c (a8 (.Name nt p4)) p5.line X.env=pure a9)
  (s2:aN (.IfExp (.Name nt p9) (.Constant (.int 0) n0 p10) (.BinOp (.Constant (.int 1) n1 p11) .Add (.Subscript (.Call (.Name g q1) (.Name nx q2::es) [] q3) (.Constant (.int 0) n2 p12) p13) p14) p15) (a8 (.Subscript (.Name nx p6) (.Name nw p7) p8)) p16.line X.env=pure a9)
  (hx0:Jv (.Constant (.int 0) n2 p12)) (hxw:Jv (.Name nw p19)) (hg:Gl X g) (hdb:(g==k9a)=a9) (hs:af (.Name nx q2::es) X.env=(a9,aC (.Name nx q2) X.env)::af es X.env) (hpl:(aP q3 (af es X.env)).any (·.1)=a9)
  (hc:Tr X c' (.e c)) (hb:Tr X (.var t) (.b (.Name nt p9))) (he:Tr X es' (.a es)) :
  MD X (.fill s t c' g es') (fText nx nw nt c (.Call (.Name g q1) (.Name nx q2::es) [] q3) n0 n1 n2 p1 p2 p3 p4 p5 p6 p7 p8 p9 p10 p11 p12 p13 p14 p15 p16 p17 p18 p19 p20 p21):=λΓ G cc gg ρ a ks ns d ks' ns' h0 ho hr=>by
 replace hr:Rm s t (j5 ρ) ks ns (ev Γ G c' (j5 ρ)) (callD Γ g (ev Γ G es' ((j5 ρ).set t (.val (.bl a9)))) ks ns)=a8 (d,ks',ns'):=hr
 unfold Rm at hr;split at hr
 .rename_i l el;split at hr
  .rename_i k ek;split at hr
   .rename_i hcnd;obtain⟨c1,c2,c3⟩:=hcnd;have hl:t<ρ.length:=by unfold j5 at c1;rw[xf]at c1;exact c1
    have ew:=je7 el;rw[v9 ek]at ew;have hB:∀b:Bool,ρ[t]?=ρ[t]?->DB X (ρ.set t (.val (.bl b))) (.Name nt p9) b:=λb _=>sound hb cc gg _ _ (by
     rw[jh]
     have:(j5 ρ).set t (.val (.bl b))=(j5 ρ).set t (.val (.bl b)):=rfl
     show truth (ev Γ G (.var t) _)=a8 b
     unfold ev
     rw[cQ c1];rfl)
    cases hk:ks.contains k with
    |true =>rw[hk,if_pos rfl]at hr;obtain⟨d2,e1,e2⟩:=Xl.mp hr;cases e2;exact DDb.fill (k:=k) (b:=ah) (n:=0) (tl:=[]) (ks1:=ks) (ns1:=ns) h0 ho ew c2 c3 hl (λ_=>⟨rfl,rfl,e1⟩) (λz=>by rw[hk]at z;cases z) cc.un' cc.nd hX hW hT vx vw lt ft dx cx dw cw dt ct hm s1 s2 hx0 hxw hB
    |false =>
     rw[hk,if_neg xj]at hr;split at hr
     .rename_i r er;split at hr
      .rename_i eb;split at hr
       .rename_i hz;cases hr;exact DDb.fill (k:=k) (b:=ah) (n:=0) (tl:=[]) (ks1:=ks) (ns1:=ns) h0 ho ew c2 c3 hl (λz=>by rw[hk]at z;cases z) (λ_=>⟨(sound hc cc gg ρ r er).toE eb,λ_=>⟨rfl,rfl,rfl⟩,λz=>(by cases z),hk,hz,rfl,rfl,rfl⟩) cc.un' cc.nd hX hW hT vx vw lt ft dx cx dw cw dt ct hm s1 s2 hx0 hxw hB
       .cases hr
      .rename_i eb;split at hr
       .rename_i m tl ks1 ns1 ecl;split at hr
        .rename_i hz;cases hr;rw[<-Zx]at ecl;exact DDb.fill (k:=k) (b:=a9) (n:=1+m) (tl:=tl) (ks1:=ks1) (ns1:=ns1) h0 ho ew c2 c3 hl (λz=>by rw[hk]at z;cases z) (λ_=>⟨(sound hc cc gg ρ r er).toE eb,λz=>(by cases z),λ_=>⟨m,O3 cc gg he (Jr ho) ecl hX vx dx cx hg hdb hs hpl,rfl⟩,hz.1,hz.2,rfl,rfl,rfl⟩) cc.un' cc.nd hX hW hT vx vw lt ft dx cx dw cw dt ct hm s1 s2 hx0 hxw hB
        .cases hr
       .cases hr
      .cases hr
     .cases hr
   .cases hr
  .cases hr
 .cases hr
def SetT(X:Cx)(t:Nat)(it':Ex)(st:aS):Prop:=∀(Γ:aq->List D->Rc)(G:aq->Option D),Cok X G->Gok X Γ->∀(ρ:Rho)(l:List D)(P:Po),ev Γ G it' (j5 ρ)=a8 (.v (.o l))->(∀b,P.nx (ρ.set t (.own b l)))->DS X ρ st P
def SetT.e{e:au}{x:aq}{p pos:aO}(hi:X.N[t]?=a8 x)(hx:Loc X.env.scope x)(hs:aN e (a8 (.Name x p)) pos.line X.env=pure a9)(hf:X.fn x=ah\/X.env.scope.names.lookup x=a8 .local)(he:Tr X it' (.e e)):SetT X t it' (.Assign [.Name x p] e pos):=λΓ G cc gg ρ l P e h =>DS.setO _ (sound he cc gg ρ _ e) h cc.nd hi hx hs hf
def SetT.cmp{k i:Nat}{z y:aq}{py p p1 pos:aO}{elt' jt' c':Ex}{elt it:au}{ifs:List au}{scope:b8}(hq:X.calm=ah)(hk:X.N[k]?=a8 z)(hx:Loc X.env.scope z)(hf:X.fn z=ah\/X.env.scope.names.lookup z=a8 .local)
  (hsw:aN (.ListComp elt [⟨.Name y py,it,ifs,0⟩] scope p) (a8 (.Name z p1)) pos.line X.env=pure ah) (hi:X.N[i]?=a8 y) (hl:Vv scope y=ah) (hkind:scope.kind=.function) (hok:v6 scope X.env X.N [i]=ah)
  (hs:∀x,aG it X.env x=pure x) (hit:Tr X jt' (.i (.Name y py) it)) (he:∀C s H fp pn,Tr (cCx X scope C s H fp pn) elt' (.e elt)) (hc:∀C s H fp pn,Tr (cCx X scope C s H fp pn) c' (.c ifs)) :
  SetT X k (.comp [i] elt' jt' c') (.Assign [.Name z p1] (.ListComp elt [⟨.Name y py,it,ifs,0⟩] scope p) pos):=λΓ G cc gg ρ l P e hP=>by
 obtain⟨l',ρf,ds,pr,g,er,el,hfz,hi',hun,hz,hb'⟩:=W5 (scope:=scope) (λρ ds z=>sound hit cc gg ρ ds z) (λρ d ρ2 hb hun=>by
   simp only[z9]at hb
   cases hb
   have hu:=hun _ (xm.mpr rfl)
   exact⟨_,jh,Wk.set hu,Zb hu,λC s H fp pn=>DG.name _ cc.nd hi (Vh hl) (U5 hl)⟩)
   (λC s H fp pn ρ r z=>sound (he C s H fp pn) cc.comp gg.comp ρ r z) (λC s H fp pn ρ=>sound (hc C s H fp pn) cc.comp gg.comp ρ) e
 cases er;refine DS.setCf (ρf:=ρf) k [i] pr g ?_ ?_ hi' hb' (λa=>?_) cc.nd hun hz hk hx hf hsw hq hkind hok hs
 .rcases hfz with e|⟨_,i,a,l',q,e⟩
  .subst e;exact λ_ _ _ R=>R
  .subst e;exact λ_ _ _ R=>R.freeze q
 .rcases hfz with e|⟨n,_⟩
  .exact .inl e
  .exact .inr (el▸n)
 .rw[<-el];exact hP a
def j6p{j:Nat}{w:Option W}{ρ ρ3:En}{l:List D}(h:lsD t j w ρ=a8 (l,ρ3)):w=a8 (.v (.o l))/\l.length<=1000/\j≠0/\t≠0/\j≠t/\ρ[j]?=a8 .un/\t<ρ.length/\ρ3=ρ.set t (.val (.lst l)):=by
 unfold lsD at h;split at h
 .rename_i l0;split at h
  .rename_i hc;cases h;obtain⟨a,b,c,d,e,f⟩:=hc;refine⟨rfl,a,b,c,d,?_,f,rfl⟩;unfold jgo at e;split at e
   .assumption
   .cases e
  .cases h
 .cases h
structure LoT(X:Cx)(t j:Nat)(nt y nx g:aq)(es':Ex)(es:List au)(scope:b8)(py p6 q2 q3:aO):Prop where
 hq:X.calm=ah
 hT:X.N[t]?=a8 nt
 vt:Vis X.env.scope nt
 dt:(nt==k9a)=a9
 ct:(nt==k9b)=a9
 hj:X.N[j]?=a8 y
 htg:Vv scope y=ah
 hkind:scope.kind=.function
 hok:v6 scope X.env X.N [j]=ah
 hf:∀x,aG (.Name nt p6) X.env x=pure x
 hX:X.N[0]?=a8 nx
 dx:(nx==k9a)=a9
 cx:(nx==k9b)=a9
 hdb:(g==k9a)=a9
 hv:∀C s H fp pn,Vis (cCx X scope C s H fp pn).env.scope nx
 hg:∀C s H fp pn,Gl (cCx X scope C s H fp pn) g
 hs:∀C s H fp pn,af (.Name nx q2::es) (cCx X scope C s H fp pn).env=(a9,aC (.Name nx q2) (cCx X scope C s H fp pn).env)::af es (cCx X scope C s H fp pn).env
 hpl:∀C s H fp pn,(aP q3 (af es (cCx X scope C s H fp pn).env)).any (·.1)=a9
 he:∀C s H fp pn,Tr (cCx X scope C s H fp pn) es' (.a es)
def MD.minc {n:Nat} {p3 p4 p5 p6 p7 p8 p9 py q1 q2 q3:aO} (hset:SetT X t it' st) (L:LoT X t j nt y nx g es' es scope py p6 q2 q3) (hgm:Gl X "min") (hsm:af [.ListComp (.Tuple [.Call (.Name g q1) (.Name nx q2::es) [] q3,.Name y p4] n p5) [⟨.Name y py,.Name nt p6,[],0⟩] scope p7] X.env=[(a9,aC (.ListComp (.Tuple [.Call (.Name g q1) (.Name nx q2::es) [] q3,.Name y p4] n p5) [⟨.Name y py,.Name nt p6,[],0⟩] scope p7) X.env)])
  (hs1:∀C s H fp pn,af [.Call (.Name g q1) (.Name nx q2::es) [] q3,.Name y p4] (cCx X scope C s H fp pn).env=(a9,aC (.Call (.Name g q1) (.Name nx q2::es) [] q3) (cCx X scope C s H fp pn).env)::af [.Name y p4] (cCx X scope C s H fp pn).env)
  (hs2:∀C s H fp pn,af [.Name y p4] (cCx X scope C s H fp pn).env=(a9,aC (.Name y p4) (cCx X scope C s H fp pn).env)::af [] (cCx X scope C s H fp pn).env) (hy:∀C s H fp pn,Tr (cCx X scope C s H fp pn) (.var j) (.e (.Name y p4))) :
  MD X (.minc t j it' g es') [st,.Return (a8 (.Call (.Name "min" p3) [.ListComp (.Tuple [.Call (.Name g q1) (.Name nx q2::es) [] q3,.Name y p4] n p5) [⟨.Name y py,.Name nt p6,[],0⟩] scope p7] [] p8)) p9]:=λΓ G cc gg ρ a ks ns d ks' ns' h0 ho hr=>by
 replace hr:Ul (lsD t j (ev Γ G it' (j5 ρ)) (j5 ρ)) (λl ρ3=>Lp l (vd (λd ks ns=>callD Γ g (ev Γ G es' (ρ3.set j (.val d))) ks ns) l ks ns))=a8 (d,ks',ns'):=hr
 cases e1:lsD t j (ev Γ G it' (j5 ρ)) (j5 ρ) with
 |none=>rw[e1]at hr;cases hr
 |some r1 =>
  obtain⟨l,ρ3⟩:=r1;rw[e1]at hr;obtain⟨z1,z2,z3,z4,z5,z6,z7,z8⟩:=j6p e1;subst z8
  replace hr:Lp l (vd (λd ks ns=>callD Γ g (ev Γ G es' (((j5 ρ).set t (.val (.lst l))).set j (.val d))) ks ns) l ks ns)=a8 (d,ks',ns'):=hr
  have hl:t<ρ.length:=by unfold j5 at z7;rw[xf]at z7;exact z7
  refine DDb.then (N:=λρ1=>∃b,ρ1=ρ.set t (.own b l)) ho (hset Γ G cc gg ρ l _ z1 λb=>⟨b,rfl⟩) ?_;rintro _ ⟨b,rfl⟩;refine DDb.freeze (i:=t) (b:=b) (l:=l) (Jb hl) ?_;rw[iz];have h0':=Le (v:=.val (.lst l)) h0 z4;have ho':owns (ρ.set t (.val (.lst l)))=[]:=Jr ho;unfold Lp at hr;cases e2:vd (λd ks ns=>callD Γ g (ev Γ G es' (((j5 ρ).set t (.val (.lst l))).set j (.val d))) ks ns) l ks ns with
  |none=>rw[e2]at hr;cases hr
  |some r2 =>
   obtain⟨rs,ks2,ns2⟩:=r2;rw[e2]at hr;dsimp only at hr;cases e3:U8 rs l with
   |none=>rw[e3]at hr;cases hr
   |some ls =>
    rw[e3]at hr;obtain⟨k,e4,e5⟩:=Xl.mp hr;cases e5;obtain⟨w1,w2⟩:=j6a e3;have rl:=Mm e2;have hju:(ρ.set t (.val (.lst l)))[j]?=a8 .un:=by rw[jz (bq z5)];exact Kr z6
    refine DDb.ret h0' (DFx.minT cc.un' L.hq (cc.bt _ (by decide)) hgm (DFl.comp (rs:=ls.map λk=>D.tup (k.map D.int)) (ds:=l) (DI.lst (DE.var t (Jb hl) L.hT L.vt L.dt L.ct)) ho' (bq z3) hju (Xg z2 (by decide)) (by rw[xf,w1,rl]) (λC s H fp pn=>Yx cc.nd L.hj (Vh L.htg) (U5 L.htg))
     (λi ks1 ns1=>vd (λd ks ns=>callD Γ g (ev Γ G es' (((j5 ρ).set t (.val (.lst l))).set j (.val d))) ks ns) (l.drop i) ks1 ns1=a8 (rs.drop i,ks',ns')) (by simpa using e2) (λks2 ns2 hw=>by rw[eE]at hw;have z:=az hw;exact⟨congrArg (·.2.1) z,congrArg (·.2.2) z⟩) (λC s H fp pn i d ks1 ns1 hd hw=>?_) L.hq L.hkind L.hok L.hf) e4 hsm)
    obtain⟨r,ks3,ns3,y1,y2,y3⟩:=j1c hd hw;obtain⟨nn,ss,x1,x2,x3⟩:=w2 i r d y2 hd;subst x1 x2;have hjl:j<(ρ.set t (.val (.lst l))).length:=(X6.mp hju).1;refine⟨.tup [.int nn,.int ss],ks3,ns3,DFx.tup2 (O3 cc.comp gg.comp (L.he C s H fp pn) (Jr ho') ?_ L.hX (L.hv C s H fp pn) L.dx L.cx (L.hg C s H fp pn) L.hdb (L.hs C s H fp pn) (L.hpl C s H fp pn)) ((sound (hy C s H fp pn) cc.comp gg.comp _ (.e (.int ss)) ?_).toE rfl) (Jr ho') (hs1 C s H fp pn) (hs2 C s H fp pn),by rw[X4,x3];rfl,y3⟩
    .rw[Zx,Zx];exact y1
    .rw[Zx];unfold ev;rw[cQ (by unfold j5;rw[xf];exact hjl)];rfl
def MD.maxc {p3 p6 p7 p8 p9 py q1 q2 q3:aO} (hset:SetT X t it' st) (L:LoT X t j nt y nx g es' es scope py p6 q2 q3) (hgm:Gl X "max") (hsm:af [.ListComp (.Call (.Name g q1) (.Name nx q2::es) [] q3) [⟨.Name y py,.Name nt p6,[],0⟩] scope p7] X.env=[(a9,aC (.ListComp (.Call (.Name g q1) (.Name nx q2::es) [] q3) [⟨.Name y py,.Name nt p6,[],0⟩] scope p7) X.env)]) :
  MD X (.maxc t j it' g es') [st,.Return (a8 (.Call (.Name "max" p3) [.ListComp (.Call (.Name g q1) (.Name nx q2::es) [] q3) [⟨.Name y py,.Name nt p6,[],0⟩] scope p7] [] p8)) p9]:=λΓ G cc gg ρ a ks ns d ks' ns' h0 ho hr=>by
 replace hr:Ul (lsD t j (ev Γ G it' (j5 ρ)) (j5 ρ)) (λl ρ3=>Oi (vd (λd ks ns=>callD Γ g (ev Γ G es' (ρ3.set j (.val d))) ks ns) l ks ns))=a8 (d,ks',ns'):=hr
 cases e1:lsD t j (ev Γ G it' (j5 ρ)) (j5 ρ) with
 |none=>rw[e1]at hr;cases hr
 |some r1 =>
  obtain⟨l,ρ3⟩:=r1;rw[e1]at hr;obtain⟨z1,z2,z3,z4,z5,z6,z7,z8⟩:=j6p e1;subst z8
  replace hr:Oi (vd (λd ks ns=>callD Γ g (ev Γ G es' (((j5 ρ).set t (.val (.lst l))).set j (.val d))) ks ns) l ks ns)=a8 (d,ks',ns'):=hr
  have hl:t<ρ.length:=by unfold j5 at z7;rw[xf]at z7;exact z7
  refine DDb.then (N:=λρ1=>∃b,ρ1=ρ.set t (.own b l)) ho (hset Γ G cc gg ρ l _ z1 λb=>⟨b,rfl⟩) ?_;rintro _ ⟨b,rfl⟩;refine DDb.freeze (i:=t) (b:=b) (l:=l) (Jb hl) ?_;rw[iz];have h0':=Le (v:=.val (.lst l)) h0 z4;have ho':owns (ρ.set t (.val (.lst l)))=[]:=Jr ho;unfold Oi at hr;cases e2:vd (λd ks ns=>callD Γ g (ev Γ G es' (((j5 ρ).set t (.val (.lst l))).set j (.val d))) ks ns) l ks ns with
  |none=>rw[e2]at hr;cases hr
  |some r2 =>
   obtain⟨rs,ks2,ns2⟩:=r2;rw[e2]at hr;dsimp only at hr;cases e3:intsOf rs with
   |none=>rw[e3]at hr;cases hr
   |some ms =>
    rw[e3]at hr;dsimp only at hr;split at hr
    .rename_i hne;cases hr;have er:=v9 e3;have rl:=Mm e2;have hju:(ρ.set t (.val (.lst l)))[j]?=a8 .un:=by rw[jz (bq z5)];exact Kr z6
     refine DDb.ret h0' (DFx.maxL (DFl.comp (rs:=ms.map D.int) (ds:=l) (DI.lst (DE.var t (Jb hl) L.hT L.vt L.dt L.ct)) ho' (bq z3) hju (Xg z2 (by decide)) (by rw[<-er];exact rl) (λC s H fp pn=>Yx cc.nd L.hj (Vh L.htg) (U5 L.htg))
      (λi ks1 ns1=>vd (λd ks ns=>callD Γ g (ev Γ G es' (((j5 ρ).set t (.val (.lst l))).set j (.val d))) ks ns) (l.drop i) ks1 ns1=a8 (rs.drop i,ks',ns')) (by simpa using e2) (λks2 ns2 hw=>by rw[eE]at hw;have z:=az hw;exact⟨congrArg (·.2.1) z,congrArg (·.2.2) z⟩) (λC s H fp pn i d ks1 ns1 hd hw=>?_) L.hq L.hkind L.hok L.hf) hne (cc.bt _ (by decide)) L.hq hgm hsm)
     obtain⟨r,ks3,ns3,y1,y2,y3⟩:=j1c hd hw;refine⟨r,ks3,ns3,O3 cc.comp gg.comp (L.he C s H fp pn) (Jr ho') ?_ L.hX (L.hv C s H fp pn) L.dx L.cx (L.hg C s H fp pn) L.hdb (L.hs C s H fp pn) (L.hpl C s H fp pn),by rw[<-er];exact y2,y3⟩;rw[Zx,Zx];exact y1
    .cases hr
end
structure Fi where
 n:Nat
 nn:Nat
 body:Sx
 lam:Bool
noncomputable def j4j:Rc->Rc
 |.val d=>.lval d
 |_=>.no
noncomputable def fin:So->Rc
 |.ret r=>r
 |.next _=>.val .non
 |.err x _=>.err x
 |_=>.no
noncomputable def enter(F:Fi)(ds:List D):En:=ds.map Sv.val++ak (F.nn-F.n) Sv.un
noncomputable def evP(fu:Nat)(G:aq->Option D)(T:aq->Option Fi):Nat->aq->List D->Rc
 |0,_,_=>.no
 |n+1,f,ds=>match T f with
  |none=>.no
  |some F=>if ds.length=F.n then(if F.lam=ah then j4j (fin (run fu (evP fu G T n) G F.body (enter F ds)))else fin (run fu (evP fu G T n) G F.body (enter F ds)))else .no
structure Lk(P:ay)(w:aD)(K:k96)(mg:k99)(base:aE)(x:aq)(F:Fi):Prop where
 ex:∃(st:aS)(f:aj)(fd:aL)(N ps:List aq),Fun K x x st f fd/\FnScope N ps (jb st)/\ps.length=F.n/\N.length=F.nn/\Binds K fd ps []/\Dfl K x fd ps/\mg x=a8 (.ref f) /\
  ∀(cdv:ai)(A:aF)(outer:List d9)(s:ao)(H:Hp)(E:XK)(xe:k97),Ts ((zq CX0 P w K mg base N x (jb st) f cdv A outer s H E).wish xe) F.body (.ss (jm st))
structure LkL(P:ay)(w:aD)(K:k96)(mg:k99)(base:aE)(x:aq)(F:Fi):Prop where
 ex:∃(tx:Tx)(N ps:List aq)(e:Ex),Z0 K x=a8 tx/\LamScope N ps tx.2.2/\N.length=F.n/\F.nn=F.n/\F.body=.ret e /\
  (∀(cl:List (aq×aj)) (pm:ai) (c:aj) (ctv:ai) (us:List ai),us.length=ps.length->eU (W.kla_fn "<lambda>" (jx x) tx.1 tx.2.1 tx.2.2 cl pm (.ref c) ctv) ⟨us,[]⟩=pure (ps.zip us)) /\
  ∀(a c:aj)(cl:List (aq×aj)) (A:aF) (outer:List d9) (s:ao) (H:Hp),Tr (Uv P w K mg base N (jx x) tx.2.2 a (.ref c) cl A outer s H) e (.e tx.2.1)
structure LkD(P:ay)(w:aD)(K:k96)(mg:k99)(base:aE)(x:aq)(F:Fi):Prop where
 ex:∃(g:aq)(p:Dx)(st:aS)(f:aj)(fd:aL)(N ps:List aq),x=dq g/\F.body=.dx p/\Fun K g g st f fd/\FnScope N ps (jb st)/\ps.length=F.n/\N.length=F.nn/\0<ps.length/\ps.length<=N.length/\Binds K fd ps []/\mg g=a8 (.ref f) /\
  ∀(cdv:ai)(A:aF)(outer:List d9)(s:ao)(H:Hp)(E:XK)(xe:k97),MD ((zq CX0 P w K mg base N g (jb st) f cdv A outer s H E).wish xe) p (jm st)
def LkF(P:ay)(w:aD)(K:k96)(mg:k99)(base:aE)(f:aq)(F:Fi):Prop:=(F.lam=a9->(Lk P w K mg base f F/\f.cps.toList.getLast?≠a8 62/\f.cps.toList.head?≠a8 64/\f.cps.toList.head?≠a8 35)\/LkD P w K mg base f F)/\(F.lam=ah->∃x,f=jx x/\LkL P w K mg base x F)
structure Tb(P:ay)(w:aD)(K:k96)(mg:k99)(base:aE)(G:aq->Option D):Prop where
 bt:∀x∈O5,mg x=ae
 gl:∀x d,Ye x=a9->G x=a8 d->∃u v,mg x=a8 u/\RelV v u/\∀H,Enc K H d v
 ea:Oq K=ah
 ec:∀x d,G (bang x)=a8 d->x∈vz/\∃o,W.nsIn K ax x=a8 (a8 o)
 el:G "?" = a8 (.bl ah)->∀c∈vz,∃v,W.nsIn K ax c=a8 (a8 v)
 kin:K.In base
 ns:base.Ns ax mg
 kd:∀x l,G (bang x)=a8 (.lst l)->KindsP P w K mg base "_law_kinds" x l
 fn:∀f d,G (qm f)=a8 d->∃fa,mg f=a8 (.ref fa)/\W.keepIn K (.ref fa)=ah
 lm:∀x∈Zz,∀f cdv,mg x=a8 (.ref f)->M4 K f cdv->∃c Pt,cdv=.ref c/\W.codeHdIn K c Pt=ah/\W.tabIn K x=a8 (c,Pt)
section
variable{P:ay}{w:aD}{K:k96}{mg:k99}{base:aE}{fu:Nat}{G:aq->Option D}{T:aq->Option Fi}
def Rz{N:List aq}{ds:List D}{F:Fi}(h1:ds.length=F.n)(h2:N.length=F.nn):j5 (qi N ds)=enter F ds:=by unfold j5 qi enter;rw[Xo,Xf,cE,h1,h2];rfl
def O4(y:aq):(bang y).cps.toList.head?=a8 33:=by unfold bang;show(("!":aq).cps++y.cps).toList.head?=a8 33;rw[Tc];rfl
def jdq(y:aq):(dq y).cps.toList.head?=a8 35:=by unfold dq;show(("#":aq).cps++y.cps).toList.head?=a8 35;rw[Tc];rfl
def jhg{x y:aq}(h:dq x=dq y):x=y:=by unfold dq at h;have h:(⟨("#":aq).cps++x.cps⟩:aq)=⟨("#":aq).cps++y.cps⟩:=h;have h:=congrArg ka h;have e:x.cps=y.cps:=eG h rfl;cases x;cases y;cases e;rfl
def j2p{N:List aq}{a:aj}{ds:List D}{F:Fi}{d:D}(h1:ds.length+1=F.n)(h2:N.length=F.nn):j5 (startM N a ds)=(enter F (d::ds)).set 0 (.exc rfN):=by
 have e:N.length-(ds.length+1)=F.nn-F.n:=by omega
 unfold startM;rw[jh];unfold j5 qi enter;rw[Xo,Xf,cE];simp only[X5,c7,Xy,xx,e];rfl
def je3 (y:aq):bang y ≠ "?":=λh=>by have:=O4 y;rw[h]at this;exact absurd this (by decide)
def j30(y:aq):(qm y).cps.toList.head?=a8 63:=by unfold qm;show(("??":aq).cps++y.cps).toList.head?=a8 63;rw[Tc];rfl
def jjb (y:aq):qm y ≠ "?":=λh=>by
 have e:((qm y).cps.toList.drop 1).head?=a8 63:=by unfold qm;show((("??":aq).cps++y.cps).toList.drop 1).head?=a8 63;rw[Tc];rfl
 rw[h]at e;exact absurd e (by decide)
def jfa{x y:aq}(h:qm x=qm y):x=y:=by unfold qm at h;have h:(⟨("??":aq).cps++x.cps⟩:aq)=⟨("??":aq).cps++y.cps⟩:=h;have h:=congrArg ka h;have e:x.cps=y.cps:=eG h rfl;cases x;cases y;cases e;rfl
def j3p(x y:aq):bang x≠qm y:=λh=>by have:=O4 x;rw[h,j30]at this;exact absurd this (by decide)
def Oz{x y z:aq}(h:x++z=y++z):x=y:=by have h:(⟨x.cps++z.cps⟩:aq)=⟨y.cps++z.cps⟩:=h;have h:=congrArg ka h;have e:x.cps=y.cps:=Array.append_inj_left' h rfl;cases x;cases y;cases e;rfl
def j93{x y:aq}(h:jx x=jx y):x=y:=Oz (Oz h)
def Im(x:aq):(jx x).cps.toList.getLast?=a8 62:=by unfold jx;show(((x ++ ".<locals>.").cps)++("<lambda>":aq).cps).toList.getLast?=a8 62;rw[Tc,iX];rfl
def j4k(x:aq):jx x∉Zz:=λh=>by
 have e:=Im x
 revert e
 unfold Zz at h;rcases xr.mp h with h|h
 .rw[h];decide
 rcases xr.mp h with h|h
 .rw[h];decide
 rcases xr.mp h with h|h
 .rw[h];decide
 .rw[xm.mp h];decide
def jf4{fu:Nat}{Γ:aq->List D->Rc}{G:aq->Option D}{e:Ex}{ρ:En}{d:D}(h:fin (run fu Γ G (.ret e) ρ)=.val d):∃r,ev Γ G e ρ=a8 (.v r)/\r.d=d:=by
 rw[jbc]at h;cases z:ev Γ G e ρ with
 |none=>rw[z]at h;cases y:er Γ G e ρ<;>(rw[y]at h;cases h)
 |some w =>
  cases w with
  |v r =>
   rw[z]at h;cases r with
   |o l=>cases h
   |e d=>cases h;exact⟨_,rfl,rfl⟩
   |w l=>cases h;exact⟨_,rfl,rfl⟩
   |t d=>cases h;exact⟨_,rfl,rfl⟩
  |a l=>rw[z]at h;cases y:er Γ G e ρ<;>(rw[y]at h;cases h)
  |i l=>rw[z]at h;cases y:er Γ G e ρ<;>(rw[y]at h;cases h)
def Yc (t:Tb P w K mg base G) {X:Cx} {n:Nat} (h1:X.prog=P) (h2:X.w=w) (h3:X.K=K) (h4:X.mg=mg) (h5:X.base=base) (hn:12<=n) (hr:Room n X.A) (nd:X.N.Nodup) (po:i5 (aB X.prog X.w) X.A X.env X.xe) (hlm:∀x∈Zz,X.env.qual=x ++ ".<locals>."->∃c P,X.env.code=.ref c/\W.codeHdIn K c P=ah/\W.tabIn K x=a8 (c,P)) (hfr:∃(env0:d9)(out0:List d9)(L:aj),X.stack=env0::out0/\env0.frame=a8 L/\X.env.frame=a8 L:=by exact⟨_,_,_,rfl,rfl,rfl⟩):Cok X G:=by subst h1 h2 h3 h4 h5;exact⟨by have:=hr.un;omega,(λ_=>by have:=hr.un;omega),(λ_=>by have:=hr.dp;omega),t.bt,t.gl,nd,po,t.ea,t.ec,t.el,t.kin,t.ns,t.kd,t.fn,(λ_=>hr.gd),hfr,hlm⟩
def Rg (t:Tb P w K mg base G) {g:aq} {f:aj} {cdv:ai} {env:d9} (hm:mg g=a8 (.ref f)) (hcv:M4 K f cdv) (hq:env.qual=g ++ ".<locals>.") (hc:env.code=cdv):∀x∈Zz,env.qual=x ++ ".<locals>."->∃c P,env.code=.ref c/\W.codeHdIn K c P=ah/\W.tabIn K x=a8 (c,P):=λx hx e=>by have eg:=Oz (hq.symm.trans e);subst eg;rw[hc];exact t.lm _ hx f cdv hm hcv
noncomputable def lv:Nat->Nat
 |0=>12
 |n+1=>lv n+2
theorem Ys:∀n,12<=lv n+1
 |0=>by decide
 |n+1=>by have:=Ys n;unfold lv;omega
theorem Bk:∀ns:zo,intsOf (ns.map D.int)=a8 ns
 |[]=>rfl
 |n::ns=>by rw[X5,intsOf,Bk ns];rfl
theorem Dg(hT:∀x F,T x=a8 F->LkF P w K mg base x F)(t:Tb P w K mg base G):∀(n:Nat)(x:aq)(ds:List D),
  ∃(f:aj)(fd:aL)(ps:List aq),match evP fu G T n x ds with
   |.val d=>FnOk P w K mg base CX0 (lv n) f fd ps (spP K λds' d'=>ds'=ds/\d'=d)/\mg x=a8 (.ref f)/\W.keepIn K (.ref f)=ah/\Binds K fd ps []/\Dfl K x fd ps
   |.fresh l=>FnOk P w K mg base CX0 (lv n) f fd ps (spF K λds' l'=>ds'=ds/\l'=l)/\mg x=a8 (.ref f)/\W.keepIn K (.ref f)=ah/\Binds K fd ps []/\Dfl K x fd ps
   |.err y=>FnOk P w K mg base (CX1 P w) (lv n) f fd ps (spX K mg λds' z=>ds'=ds/\z=y)/\mg x=a8 (.ref f)/\W.keepIn K (.ref f)=ah/\Binds K fd ps []
   |.lval d=>∀y,x=jx y->j09 P w K mg base (lv n) y λds' d'=>ds'=ds/\d'=d
   |.mval _ _=>True
   |.merr _=>True
   |.dval d ks' ns'=>∀g ks ns ds',x=dq g->ds=.dct ks (ns.map D.int)::ds'->FnOk P w K mg base CX0 (lv n) f fd ps (spD K λks2 ns2 ds2 d2 ks2' ns2'=>ks2=ks/\ns2=ns/\ds2=ds'/\d2=d/\ks2'=ks'/\ns2'=ns')/\mg g=a8 (.ref f)/\W.keepIn K (.ref f)=ah/\Binds K fd ps []
   |.no=>True
 |0,x,ds=>⟨0,W.fnOf x x { posonlyargs:=[],args:=[],vararg:=ae,kwonlyargs:=[],kw_defaults:=[],kwarg:=ae,defaults:=[] } [] { kind:=.function,names:=[],isGenerator:=a9,isCoroutine:=a9 } .none .none .none .none ae .none .none,[],trivial⟩
 |n+1,x,ds=>by
  have ih:=Dg hT t n;cases hF:T x with
  |none =>
   obtain⟨f,fd,ps,_⟩:=ih x ds;refine⟨f,fd,ps,?_⟩;have e:evP fu G T (n+1) x ds=.no:=by simp only[evP,hF]
   rw[e];trivial
  |some F =>
   have gok:∀{X:Cx},X.prog=P->X.w=w->X.K=K->X.mg=mg->X.base=base->Room (lv n+1) X.A->Gok X (evP fu G T n):=λ{X} h1 h2 h3 h4 h5 hr g ds'=>by
    subst h1 h2 h3 h4 h5;obtain⟨f',fd',ps',q⟩:=ih g ds';cases z:evP fu G T n g ds' with
    |val d=>rw[z]at q;exact⟨lv n,f',fd',ps',q.1,hr,q.2.1,q.2.2.1,q.2.2.2⟩
    |fresh l=>rw[z]at q;exact⟨lv n,f',fd',ps',q.1,hr,q.2.1,q.2.2.1,q.2.2.2⟩
    |err y=>rw[z]at q;exact⟨lv n,f',fd',ps',q.1,hr.mono (Pn _),q.2.1,q.2.2.1,q.2.2.2⟩
    |lval d=>rw[z]at q;exact λy hy=>⟨lv n,hr.mono (Pn _),q y hy⟩
    |mval _ _=>trivial
    |merr _=>trivial
    |dval d ks ns=>rw[z]at q;exact λg' ks ns ds'' h1 h2=>let ⟨a,b⟩:=q g' ks ns ds'' h1 h2;⟨⟨lv n,f',fd',ps',a,hr,b⟩⟩
    |no=>trivial
   cases hlam:F.lam with
   |true =>
    obtain⟨f,fd,ps,_⟩:=ih x ds;refine⟨f,fd,ps,?_⟩;by_cases hl:ds.length=F.n
    .have e:evP fu G T (n+1) x ds=j4j (fin (run fu (evP fu G T n) G F.body (enter F ds))):=by simp only[evP,hF,if_pos hl,hlam,if_true]
     rw[e];obtain⟨y,ey,L⟩:=(hT x F hF).2 hlam;obtain⟨tx,N,ps,ex,htx,hsc,hN,hnn,hbd,hba,htr⟩:=L.ex;cases ho:fin (run fu (evP fu G T n) G F.body (enter F ds)) with
     |val d =>intro y' hy';have eyy:y=y':=j93 (ey.symm.trans hy');subst eyy;refine jga (k:=lv n+1) htx hsc (λds' d' h=>by rw[h.1,hl,hN]) hba λa c cl A outer s H hcl hr ds' d' ⟨e1,e2⟩=>?_;subst e1 e2;have ab:j5 (qi N ds')=enter F ds':=Rz hl (by rw[hN,hnn]);rw[hbd,<-ab]at ho;obtain⟨r,er,ed⟩:=jf4 ho;exact ed▸(sound (htr a c cl A outer s H) (Yc t rfl rfl rfl rfl rfl (Ys _) hr hsc.nd bH λz hz hq=>absurd (Oz hq▸hz) (j4k y)) (gok rfl rfl rfl rfl rfl hr) (qi N ds') r er).toT
     |fresh l=>trivial
     |err z=>trivial
     |lval z=>trivial
     |mval z k=>trivial
     |merr z=>trivial
     |dval z ks ns=>trivial
     |no=>trivial
    .have e:evP fu G T (n+1) x ds=.no:=by simp only[evP,hF,if_neg hl]
     rw[e];trivial
   |false =>
   rcases(hT x F hF).1 hlam with ⟨L,hlast,hhead,hhead2⟩|L
   rotate_left
   .obtain⟨g0,p,st,f,fd,N,ps,hxg,hbody,hfun,hsc,hps,hN,hp0,hpN,hb,hm,hmd⟩:=L.ex;refine⟨f,fd,ps,?_⟩;by_cases hl:ds.length=F.n
    .have e:evP fu G T (n+1) x ds=fin (run fu (evP fu G T n) G F.body (enter F ds)):=by simp only[evP,hF,if_pos hl,hlam,ph,if_false]
     rw[e,hbody,run];cases ho:dxS (enter F ds)[0]? λks ns=>Yh (evP fu G T n) G p ks ns ((enter F ds).set 0 (.exc rfN)) with
     |next ρ' =>
      exfalso;unfold dxS at ho
      repeat' split at ho
      all_goals cases ho
     |brk _=>trivial
     |cnt _=>trivial
     |no=>trivial
     |err y ρ' =>
      exfalso;unfold dxS at ho
      repeat' split at ho
      all_goals cases ho
     |ret r =>
      have sh:∃d ks' ns',r=.dval d ks' ns':=by
       unfold dxS at ho
       repeat' split at ho
       all_goals (cases ho)
       exact⟨_,_,_,rfl⟩
      obtain⟨d,ks',ns',er⟩:=sh;subst er;intro g ks ns ds' h1 h2;have eg:g0=g:=jhg (hxg.symm.trans h1);subst eg;have hl2:ds'.length+1=ps.length:=by rw[h2]at hl;simp only[xx]at hl;omega
      have z:Yh (evP fu G T n) G p ks ns ((enter F ds).set 0 (.exc rfN))=a8 (d,ks',ns'):=by
       have e0:(enter F ds)[0]?=a8 (.val (.dct ks (ns.map D.int))):=by rw[h2];rfl
       rw[e0]at ho;unfold dxS at ho;simp only[Bk]at ho;split at ho
       .rename_i d2 ks2 ns2 z;cases ho;exact z
       .cases ho
      refine⟨jlz (n:=lv n+1) hfun hsc (λks2 ns2 ds2 d2 ks2' ns2' h=>by rw[h.2.2.1,hl2]) λcdv A outer s H E hcv hr a ks2 ns2 ds2 d2 ks2' ns2' h=>?_,hm,hfun.kp,hb⟩;obtain⟨rfl,rfl,rfl,rfl,rfl,rfl⟩:=h;have ck:=Yc t (X:=(zq CX0 P w K mg base N g0 (jb st) f cdv A outer s H E).nox) rfl rfl rfl rfl rfl (Ys _) hr hsc.nd bH (Rg t hm hcv rfl rfl);refine hmd cdv A outer s H E _ (evP fu G T n) G ck (gok rfl rfl rfl rfl rfl hr) _ a _ _ _ _ _ ⟨dOb,?_⟩ (j2c _ _ _) ?_
      .unfold startM;exact Jb (by unfold qi;rw[Xd,xf,xx];omega)
      .rw[j2p (F:=F) (d:=.dct ks2 (ns2.map D.int)) nofun hN,<-h2];exact z
    .have e:evP fu G T (n+1) x ds=.no:=by simp only[evP,hF,if_neg hl]
     rw[e];trivial
   obtain⟨st,f,fd,N,ps,hfun,hsc,hps,hN,hb,hdf,hm,hts⟩:=L.ex;refine⟨f,fd,ps,?_⟩;by_cases hl:ds.length=F.n
   .have e:evP fu G T (n+1) x ds=fin (run fu (evP fu G T n) G F.body (enter F ds)):=by simp only[evP,hF,if_pos hl,hlam,ph,if_false]
    have ab:j5 (qi N ds)=enter F ds:=Rz hl hN;cases ho:run fu (evP fu G T n) G F.body (enter F ds) with
    |next ρ' =>rw[e,ho];refine⟨K4 (k:=lv n+1) hfun hsc (λds' d' h=>by rw[h.1,hl,hps]) λcdv A outer s H E hcv hr ds' d' ⟨e1,e2⟩=>?_,hm,hfun.kp,hb,hdf⟩;subst e1 e2;refine Wg (fu:=fu) (hts cdv A outer s H E _) (Yc t rfl rfl rfl rfl rfl (Ys _) hr hsc.nd bH (Rg t hm hcv rfl rfl)) (gok rfl rfl rfl rfl rfl hr) (qi N ds') _ ?_;rw[ab,ho];exact λ_ _=>rfl
    |ret r =>
     rw[e,ho];cases r with
     |no=>trivial
     |lval d=>exact λy hy=>absurd (hy▸Im y) hlast
     |mval _ _=>trivial
     |merr _=>trivial
     |dval d ks ns=>exact λg _ _ _ hy=>absurd (hy▸jdq g) hhead2
     |err y =>refine⟨j73 (k:=lv n+1) hfun hsc (λds' d' h=>by rw[h.1,hl,hps]) λcdv A outer s H E hcv hr ds' y' ⟨e1,e2⟩=>?_,hm,hfun.kp,hb⟩;subst e1 e2;refine Wg (X:=zq (CX1 P w) P w K mg base N x (jb st) f cdv A outer s H E) (fu:=fu) (hts cdv A outer s H E (zq (CX1 P w) P w K mg base N x (jb st) f cdv A outer s H E).xe) (Yc t rfl rfl rfl rfl rfl (Ys _) hr hsc.nd iv (Rg t hm hcv rfl rfl)) (gok rfl rfl rfl rfl rfl hr) (qi N ds') _ ?_;rw[ab,ho];intro z hz;cases z<;>cases hz
     |val d =>
      refine⟨K4 (k:=lv n+1) hfun hsc (λds' d' h=>by rw[h.1,hl,hps]) λcdv A outer s H E hcv hr ds' d' ⟨e1,e2⟩=>?_,hm,hfun.kp,hb,hdf⟩;subst e1 e2;refine Wg (fu:=fu) (hts cdv A outer s H E _) (Yc t rfl rfl rfl rfl rfl (Ys _) hr hsc.nd bH (Rg t hm hcv rfl rfl)) (gok rfl rfl rfl rfl rfl hr) (qi N ds') _ ?_;rw[ab,ho];intro y hy;cases y with
      |val d=>cases hy;rfl
      |fresh l=>cases hy
     |fresh l =>
      refine⟨j9g (k:=lv n+1) hfun hsc (λds' d' h=>by rw[h.1,hl,hps]) λcdv A outer s H E hcv hr ds' d' ⟨e1,e2⟩=>?_,hm,hfun.kp,hb,hdf⟩;subst e1 e2;refine Wg (fu:=fu) (hts cdv A outer s H E _) (Yc t rfl rfl rfl rfl rfl (Ys _) hr hsc.nd bH (Rg t hm hcv rfl rfl)) (gok rfl rfl rfl rfl rfl hr) (qi N ds') _ ?_;rw[ab,ho];intro y hy;cases y with
      |val d=>cases hy
      |fresh l=>cases hy;rfl
    |err y ρ' =>rw[e,ho];refine⟨j73 (k:=lv n+1) hfun hsc (λds' d' h=>by rw[h.1,hl,hps]) λcdv A outer s H E hcv hr ds' y' ⟨e1,e2⟩=>?_,hm,hfun.kp,hb⟩;subst e1 e2;refine Wg (X:=zq (CX1 P w) P w K mg base N x (jb st) f cdv A outer s H E) (fu:=fu) (hts cdv A outer s H E (zq (CX1 P w) P w K mg base N x (jb st) f cdv A outer s H E).xe) (Yc t rfl rfl rfl rfl rfl (Ys _) hr hsc.nd iv (Rg t hm hcv rfl rfl)) (gok rfl rfl rfl rfl rfl hr) (qi N ds') _ ?_;rw[ab,ho];exact λ_ _=>rfl
    |brk _=>rw[e,ho];trivial
    |cnt _=>rw[e,ho];trivial
    |no=>rw[e,ho];trivial
   .have e:evP fu G T (n+1) x ds=.no:=by simp only[evP,hF,if_neg hl]
    rw[e];trivial
end
noncomputable def Gof(gs:List (aq×D))(q:Bool)(xs:List (aq×List D))(fs:List aq)(x:aq):Option D :=
 if Ye x=ah then(if x = "?" then(if q=ah then a8 (.bl ah)else ae) else((xs.find? λp=>bang p.1==x).map λp=>.lst p.2).or (if (fs.any λf=>qm f==x)=ah then a8 .non else ae))else gs.lookup x
def jac{x y:aq}(h:bang x=bang y):x=y:=by unfold bang at h;have h:(⟨("!":aq).cps++x.cps⟩:aq)=⟨("!":aq).cps++y.cps⟩:=h;have h:=congrArg ka h;have e:x.cps=y.cps:=eG h rfl;cases x;cases y;cases e;rfl
def j2o(x:aq):Ye (bang x)=ah:=by unfold Ye;rw[O4];rfl
def j7t(x:aq):Ye (qm x)=ah:=by unfold Ye;rw[j30];rfl
def j1j{gs:List (aq×D)}{q:Bool}{xs:List (aq×List D)}{fs:List aq}{x:aq}{d:D}(h:Gof gs q xs fs (bang x)=a8 d):∃p∈xs,p.1=x/\d=.lst p.2:=by
 unfold Gof at h;rw[if_pos (j2o x),if_neg (je3 x)]at h;have hn:(fs.any λf=>qm f==bang x)=a9:=by rw[List.any_eq_false];intro f _ e;exact j3p x f (beq_iff_eq.mp e).symm
 rw[hn,if_neg (by decide),Option.or_none]at h;obtain⟨p,hp,rfl⟩:=Xl.mp h;have z:=List.find?_some (p:=λp:aq×List D=>bang p.1==bang x) hp;exact⟨p,List.mem_of_find?_eq_some hp,jac (beq_iff_eq.mp z),rfl⟩
def jgv{gs:List (aq×D)}{q:Bool}{xs:List (aq×List D)}{fs:List aq}{x:aq}{d:D}(h:Gof gs q xs fs (qm x)=a8 d):x∈fs:=by
 unfold Gof at h;rw[if_pos (j7t x),if_neg (jjb x)]at h;have hn:(xs.find? λp=>bang p.1==qm x)=ae:=by rw[List.find?_eq_none];intro p _ e;exact j3p p.1 x (beq_iff_eq.mp e)
 rw[hn,Option.map_none,Option.none_or]at h;split at h
 .rename_i z;obtain⟨f,hf,e⟩:=List.any_eq_true.mp z;exact jfa (beq_iff_eq.mp e)▸hf
 .cases h
def jip{P:ay}{w:aD}{K:k96}{mg:k99}{base:aE}{gs:List (aq×D)}{q:Bool}{xs:List (aq×List D)}{fs:List aq}(bt:∀x∈O5,mg x=ae)
  (gl:∀x d,gs.lookup x=a8 d->∃u v,mg x=a8 u/\RelV v u/\∀H,Enc K H d v) (ea:Oq K=ah) (hx:∀p∈xs,p.1∈vz/\∃o,W.nsIn K ax p.1=a8 (a8 o))
  (el:q=ah->∀c∈vz,∃v,W.nsIn K ax c=a8 (a8 v)) (kin:K.In base) (ns:base.Ns ax mg) (fn:∀f∈fs,∃fa,mg f=a8 (.ref fa)/\W.keepIn K (.ref fa)=ah) (kd:∀p∈xs,KindsP P w K mg base "_law_kinds" p.1 p.2) (lm:∀x∈Zz,∀f cdv,mg x=a8 (.ref f)->M4 K f cdv->∃c Pt,cdv=.ref c/\W.codeHdIn K c Pt=ah/\W.tabIn K x=a8 (c,Pt)):Tb P w K mg base (Gof gs q xs fs):=by
 refine⟨bt,λx d hb h=>?_,ea,λx d h=>?_,λh=>el ?_,kin,ns,λx l h=>?_,λf d h=>fn f (jgv h),lm⟩
 .unfold Gof at h;rw[if_neg (by rw[hb];decide)]at h;exact gl x d h
 .obtain⟨p,hp,rfl,_⟩:=j1j h;exact hx p hp
 .unfold Gof at h;rw[if_pos (by decide),if_pos rfl]at h;split at h
  .rename_i z;exact z
  .cases h
 .obtain⟨p,hp,rfl,e⟩:=j1j h;cases e;exact kd p hp
def j03(K:k96):Sp:=λvs H Q _=>∃(a:aj)(ns:zo),vs=[.ref a]/\TabOk K H/\SqL K H a (ns.map V.int)/\ns.length<=63/\∀H':Hp,j0 H H'->Q (.bl ah) H'
def j2g{K:k96}{H:Hp}{a:aj}{ns:zo}(h:SqL K H a (ns.map V.int)):j4 K H [.lst (ns.map D.int)] [.ref a] :=
 ⟨_,[],rfl,⟨a,_,rfl,h,j4.ints ns⟩,rfl⟩
def jg9{P:ay}{w:aD}{K:k96}{mg:k99}{base:aE}{fu:Nat}{G:aq->Option D}{T:aq->Option Fi}{n:Nat}{x p:aq}{fa:aj}{st:aS}{F:Fi}
  (hT:∀x F,T x=a8 F->LkF P w K mg base x F) (t:Tb P w K mg base G)
  (hx:T x=a8 F) (hlam:F.lam=a9) (hm:mg x=a8 (.ref fa)) {fd:aL} (hfun:Fun K x x st fa fd) (N:List aq) (hsc:FnScope N [p] (jb st)) (h1:F.n=1) (hN:N.length=F.nn)
  (hts:∀(cdv:ai)(A:aF)(outer:List d9)(s:ao)(H:Hp)(E:XK)(xe:k97),Ts ((zq CX0 P w K mg base N x (jb st) fa cdv A outer s H E).wish xe) F.body (.ss (jm st)))
  (hlaw:∀ns:zo,ns.length<=63->evP fu G T (n+1) x [.lst (ns.map D.int)]=.val (.bl ah)):FnOk P w K mg base CX0 (lv (n+1)) fa fd [p] (j03 K):=by
 have S:FnOk P w K mg base CX0 (lv (n+1)) fa fd [p] (spP K λds d=>∃ns:zo,ns.length<=63/\ds=[.lst (ns.map D.int)]/\d=.bl ah):=by
  refine K4 (k:=lv n+1) hfun hsc (λds d ⟨ns,_,h,_⟩=>by rw[h];rfl) λcdv A outer s H E hcv hr ds d ⟨ns,hns,e1,e2⟩=>?_;subst e1 e2;have e:=hlaw ns hns;simp only[evP,hx,h1,hlam,ph,if_false,xx,tu,if_true]at e;have ab:j5 (qi N [D.lst (ns.map D.int)])=enter F [D.lst (ns.map D.int)]:=Rz (by rw[h1];rfl) hN;have g:Gok (zq CX0 P w K mg base N x (jb st) fa cdv A outer s H E).nox (evP fu G T n):=λg ds'=>by
   obtain⟨f',fd',ps',q⟩:=Dg (fu:=fu) hT t n g ds';cases z:evP fu G T n g ds' with
   |val d=>rw[z]at q;exact⟨lv n,f',fd',ps',q.1,hr,q.2.1,q.2.2.1,q.2.2.2⟩
   |fresh l=>rw[z]at q;exact⟨lv n,f',fd',ps',q.1,hr,q.2.1,q.2.2.1,q.2.2.2⟩
   |err y=>rw[z]at q;exact⟨lv n,f',fd',ps',q.1,hr.mono (Pn _),q.2.1,q.2.2.1,q.2.2.2⟩
   |lval d=>rw[z]at q;exact λy hy=>⟨lv n,hr.mono (Pn _),q y hy⟩
   |mval _ _=>trivial
   |merr _=>trivial
   |dval d ks ns=>rw[z]at q;exact λg' ks ns ds'' h1 h2=>let ⟨a,b⟩:=q g' ks ns ds'' h1 h2;⟨⟨lv n,f',fd',ps',a,hr,b⟩⟩
   |no=>trivial
  refine Wg (fu:=fu) (hts cdv A outer s H E _) (Yc t rfl rfl rfl rfl rfl (Ys _) hr hsc.nd bH (Rg t hm hcv rfl rfl)) g (qi N _) _ ?_;rw[ab];cases ho:run fu (evP fu G T n) G F.body (enter F [D.lst (ns.map D.int)]) with
  |ret r =>
   rw[ho]at e;have e:r=.val (.bl ah):=e;subst e;intro y hy;cases y with
   |val d=>cases hy;rfl
   |fresh l=>cases hy
  |next ρ'=>rw[ho]at e;cases e
  |brk _=>rw[ho]at e;cases e
  |cnt _=>rw[ho]at e;cases e
  |err _ _=>rw[ho]at e;cases e
  |no=>rw[ho]at e;cases e
 refine S.imp λvs H Q E ⟨a,ns,hv,tb,hS,hl,k⟩=>?_;subst hv;exact⟨[],_,_,tb,(λa h=>nomatch h),by rw[qp];exact j2g hS,⟨ns,hl,rfl,rfl⟩,λv H' g e=>by cases(show v=.bl ah from e);exact k H' g⟩
noncomputable def j02(K:k96):List (aj×aq):=Zz.filterMap λx=>(W.tabIn K x).map λq=>(q.2,jx x)
noncomputable def tOk(K:k96)(ts:List aj):Bool:=(Zz.all λx=>match W.nsIn K ax x with
  |some ae=>ah
  |_=>match W.tabIn K x with
   |some (c,P)=>W.codeHdIn K c P&&ts.contains P
   |none=>a9)&&W.noTabs K&&decide ((j02 K).map (·.1)).Nodup
def jbo{K:k96}{ts:List aj}{h:aE}(hk:tOk K ts=ah)(X:K.In h)(ht:∀P∈ts,h.get? P=a8 (W.tabObj #[])):jag (j02 K) h:=by
 unfold tOk at hk;rw[Xe,Xe]at hk;refine⟨of_decide_eq_true hk.2,λt hm=>?_⟩;obtain⟨x,hx,e⟩:=Td.mp hm;obtain⟨⟨c,P⟩,e1,e2⟩:=Xl.mp e;subst e2;have z:=Pj.mp hk.1.1 x hx;split at z
 .rename_i y;exfalso;unfold W.tabIn at e1;rw[y]at e1;cases e1
 .rw[e1]at z;have z:(W.codeHdIn K c P&&ts.contains P)=ah:=z;rw[Xe]at z;exact⟨⟨c,W.codeHd_of_K X z.1⟩,ht P (by simpa using z.2)⟩
def jjk{K:k96}{ts:List aj}{h:aE}{mg:k99}(hk:tOk K ts=ah)(X:K.In h)(Gn:h.Ns ax mg):∀x∈Zz,∀f cdv,mg x=a8 (.ref f)->M4 K f cdv->∃c Pt,cdv=.ref c/\W.codeHdIn K c Pt=ah/\W.tabIn K x=a8 (c,Pt):=λx hx f cdv hm hcv=>by
 unfold tOk at hk;rw[Xe,Xe]at hk;have z:=Pj.mp hk.1.1 x hx;split at z
 .rename_i y;rw[W.mg_none_of X Gn y]at hm;cases hm
 .split at z
  .rename_i c P e;rw[Xe]at z;refine⟨c,P,?_,z.1,e⟩;obtain⟨oc,od,fd,sl,e3,e4⟩:=hcv;unfold W.tabIn at e;split at e
   .rename_i f' hf;have e5:=W.mg_of X Gn hf;rw[hm]at e5;cases e5;rw[e3]at e;dsimp only at e;split at e
    .rename_i c' hc;split at e
     .split at e
      .cases e;rw[<-e4];exact hc
      .cases e
     .cases e
    .cases e
   .cases e
  .cases z
def jeo{K:k96}{H:Hp}(hO:Only (j02 K) H):TabOk K H:=λx hx c P e=>hO.2 (P,jx x) (Td.mpr ⟨x,hx,by rw[e];rfl⟩)
def j6e{K:k96}{ts:List aj}(hk:tOk K ts=ah):W.noTabs K=ah:=by unfold tOk at hk;rw[Xe,Xe]at hk;exact hk.1.2
def walkL{l:dP}{q:ay}{loose:List aq}{XP:(aq->Option ai)->aE->Prop}{YP:aD->aE->Prop}{d:DefRec}{K:n5->k96}{k:Nat}{x:aq}{ts:List aj}(hk:k<=200)(hn:l.most=a8 63)(hdf:d.params.defaults=[])
  (hY:∀(w:aD)(h:aE),YP w h->(K w.params).In h/\∀P∈ts,h.get? P=a8 (W.tabObj #[])) (hK:∀w:aD,tOk (K w.params) ts=ah)
  (F:∀(w:aD)(mg:k99)(fa:aj)(h:aE),(K w.params).In h->h.Ns ax mg->mg d.name=a8 (.ref fa)->tOk (K w.params) ts=ah ->
   ∃fd:aL,(∀(s:ao)(u:ai),dJ s fd ⟨[u],[]⟩ [(x,u)])/\∀base:aE,(K w.params).In base->base.Ns ax mg->FnOk l.prog w (K w.params) mg base CX0 k fa fd [x] (j03 (K w.params))) :
  ja q loose XP YP l.row.toRowW d [] (λf vs=>jA f vs) :=
 L2.walk_of (n:=63) (k:=k) (x:=x) (CX:=λ_=>CX0) (sp:=λw=>j03 (K w.params)) (ts:=λw=>j02 (K w.params)) hn (by decide) hdf
  (Room.mono (k:=200) ⟨rfl,by decide,by decide,rfl⟩ hk) (λw h Y=>⟨(hY w h Y).1,jbo (hK w) (hY w h Y).1 (hY w h Y).2⟩) (λw=>j6e (hK w)) (λw mg fa h X G m=>F w mg fa h X G m (hK w)) (λw H a ns hl hO hS=>⟨a,ns,rfl,jeo hO,hS,hl,λH' g=>⟨rfl,g⟩⟩) λ_ _ _ _ _ z=>z
def Lf(K:k96)(x:aq)(st:aS):Prop:=∃(f:aj)(oc:ai)(od:Option aj)(kV dc pm:ai)(an:Option aj)(cd ct:ai)(sl:Array (Option ai)),W.nsIn K ax x=a8 (a8 (.ref f)) /\
 K.lookup f=a8 ⟨oc,od,.func (W.fnOf x x (zx st) (jm st) (jb st) .none kV dc pm an cd ct),sl⟩/\W.codeIn K cd x=ah/\W.keepIn K (.ref f)=ah
def Lfd(K:k96)(x:aq)(st:aS):Prop:=∃(f:aj)(oc:ai)(od:Option aj)(kV dc pm:ai)(an:Option aj)(cd ct:ai)(sl:Array (Option ai)) (dt:aj) (n:Nat) (ts:Array (Option ai)),W.nsIn K ax x=a8 (a8 (.ref f)) /\
 K.lookup f=a8 ⟨oc,od,.func (W.fnOf x x (zx st) (jm st) (jb st) (.ref dt) kV dc pm an cd ct),sl⟩/\W.codeIn K cd x=ah/\W.keepIn K (.ref f)=ah/\K.lookup dt=a8 ⟨.type "tuple",ae,.seq #[.none] n,ts⟩
def TrT(P:ay)(w:aD)(K:k96)(mg:k99)(base:aE)(x:aq)(N:List aq)(st:aS)(b:Sx):Prop :=
 ∀(f:aj)(cdv:ai)(A:aF)(outer:List d9)(s:ao)(H:Hp)(E:XK) (xe:k97),Ts ((zq CX0 P w K mg base N x (jb st) f cdv A outer s H E).wish xe) b (.ss (jm st))
noncomputable def lamT(st:aS):Tx:=(Nk (jm st)).getD ({ posonlyargs:=[],args:=[],vararg:=ae,kwonlyargs:=[],kw_defaults:=[],kwarg:=ae,defaults:=[] },.Name "" ⟨0,0,0,0⟩,{ kind:=.function,names:=[],isGenerator:=a9,isCoroutine:=a9 })
def TrL(P:ay)(w:aD)(K:k96)(mg:k99)(base:aE)(x:aq)(N:List aq)(t:Tx)(e:Ex):Prop :=
 ∀(a c:aj)(cl:List (aq×aj)) (A:aF) (outer:List d9) (s:ao) (H:Hp),Tr (Uv P w K mg base N (jx x) t.2.2 a (.ref c) cl A outer s H) e (.e t.2.1)
def jd1{sc:b8}(x:aq)(h:sc.names.lookup x=a8 .free):x∈v5 sc:=by unfold v5;rw[List.mem_reverse];exact X8.mpr ⟨(x,.free),Xp.mpr ⟨lookup_mem h,rfl⟩,rfl⟩
noncomputable def bOk(K:k96):Bool:=O5.all λx=>match W.nsIn K ax x with
 |some ae=>ah
 |_=>a9
section
variable{P:ay}{w:aD}{K:k96}{mg:k99}{base h:aE}{x:aq}{st:aS}{N ps:List aq}{F:Fi}
def jk9(X:K.In h)(Gn:h.Ns ax mg)(hb:bOk K=ah):∀x∈O5,mg x=ae:=λx hx=>by
 have z:=Pj.mp hb x hx;split at z
 .rename_i e;exact W.mg_none_of X Gn e
 .cases z
def j47(L:Lf K x st)(X:K.In h)(Gn:h.Ns ax mg):∃fa,mg x=a8 (.ref fa)/\W.keepIn K (.ref fa)=ah:=by obtain⟨f,oc,od,kV,dc,pm,an,cd,ct,sl,a,l,c,k⟩:=L;exact⟨f,W.mg_of X Gn a,k⟩
def q9(L:Lf K x st)(X:K.In h)(Gn:h.Ns ax mg)(t:TrT P w K mg base x N st F.body)(ps:List aq)(sc:FnScope N ps (jb st))(h1:ps.length=F.n)(h2:N.length=F.nn)
  (hb:∀(kV doc pm:ai)(an:Option aj)(cdv ct:ai)(us:List ai),us.length=ps.length->eU (W.fnOf x x (zx st) (jm st) (jb st) .none kV doc pm an cdv ct) ⟨us,[]⟩=pure (ps.zip us)) (hd:x∉j4t):Lk P w K mg base x F:=by
 obtain⟨f,oc,od,kV,dc,pm,an,cd,ct,sl,a,l,c,k⟩:=L;exact⟨st,f,_,N,ps,Wo l c k,sc,h1,h2,(Wo l c k).binds hb,λz=>absurd z hd,W.mg_of X Gn a,t f⟩
def jg8(L:Lfd K x st)(X:K.In h)(Gn:h.Ns ax mg)(t:TrT P w K mg base x N st F.body)(ps:List aq)(sc:FnScope N ps (jb st))(h1:ps.length=F.n)(h2:N.length=F.nn)(h3:0<ps.length)
  (hb:∀(dt:aj)(n:Nat)(ts:Array (Option ai)) (kV doc pm:ai) (an:Option aj) (cdv ct:ai) (s:ao),K.In s.heap->K.lookup dt=a8 ⟨.type "tuple",ae,.seq #[.none] n,ts⟩ ->
   (∀us:List ai,us.length=ps.length->dJ s (W.fnOf x x (zx st) (jm st) (jb st) (.ref dt) kV doc pm an cdv ct) ⟨us,[]⟩ (ps.zip us)) /\
   (∀us:List ai,us.length+1=ps.length->dJ s (W.fnOf x x (zx st) (jm st) (jb st) (.ref dt) kV doc pm an cdv ct) ⟨us,[]⟩ (ps.zip (us++[.none]))) /\
   ∀(us:List ai)(v:ai),us.length+1=ps.length->dJ s (W.fnOf x x (zx st) (jm st) (jb st) (.ref dt) kV doc pm an cdv ct) ⟨us,[("prices",v)]⟩ (ps.zip (us++[v]))):Lk P w K mg base x F:=by
 obtain⟨f,oc,od,kV,dc,pm,an,cd,ct,sl,dt,n,ts,a,l,c,k,td⟩:=L;refine⟨st,f,_,N,ps,Wo l c k,sc,h1,h2,λs us hK hl=>?_,λ_=>⟨λs us hK hl=>?_,jjq h3 λs us v hK hl=>(hb dt n ts kV dc pm an cd ct s hK td).2.2 us v hl⟩,W.mg_of X Gn a,t f⟩
 .rw[Xn]at hl ⊢;exact(hb dt n ts kV dc pm an cd ct s hK td).1 us hl
 .exact(hb dt n ts kV dc pm an cd ct s hK td).2.1 us (by rw[Xd]at hl;exact hl)
def Rh(L:Lf K x st):Z0 K x=Nk (jm st):=by obtain⟨f,oc,od,kV,dc,pm,an,cd,ct,sl,a,l,c,k⟩:=L;unfold Z0;rw[a];dsimp only;rw[l]
def lkF(L:Lk P w K mg base x F)(h:F.lam=a9)(hn:x.cps.toList.getLast?≠a8 62)(hh:x.cps.toList.head?≠a8 64)(hh2:x.cps.toList.head?≠a8 35:=by decide):LkF P w K mg base x F:=⟨λ_=>.inl ⟨L,hn,hh,hh2⟩,λz=>by rw[h]at z;cases z⟩
def j6q{e:Ex}{q:aq}(hq:q=jx x)(h:Z0 K x=Nk (jm st))(ht:Nk (jm st)=a8 (lamT st))(tr:TrL P w K mg base x N (lamT st) e)(ps:List aq)(sc:LamScope N ps (lamT st).2.2)(h1:N.length=F.n)(h2:F.nn=F.n)(hb:F.body=.ret e)(hl:F.lam=ah)
  (ha:∀(cl:List (aq×aj)) (pm:ai) (c:aj) (ctv:ai) (us:List ai),us.length=ps.length->eU (W.kla_fn "<lambda>" (jx x) (lamT st).1 (lamT st).2.1 (lamT st).2.2 cl pm (.ref c) ctv) ⟨us,[]⟩=pure (ps.zip us)):LkF P w K mg base q F :=
 ⟨λz=>by(rw[hl]at z;cases z),λ_=>⟨x,hq,⟨lamT st,N,ps,e,h.trans ht,sc,h1,h2,hb,ha,tr⟩⟩⟩
def us1{us:List ai}(h:us.length=1):∃a,us=[a]:=by match us,h with|[a],_=>exact⟨a,rfl⟩
def us2{us:List ai}(h:us.length=2):∃a b,us=[a,b]:=by match us,h with|[a,b],_=>exact⟨a,b,rfl⟩
def us3{us:List ai}(h:us.length=3):∃a b c,us=[a,b,c]:=by match us,h with|[a,b,c],_=>exact⟨a,b,c,rfl⟩
def us4{us:List ai}(h:us.length=4):∃a b c d,us=[a,b,c,d]:=by match us,h with|[a,b,c,d],_=>exact⟨a,b,c,d,rfl⟩
def us5{us:List ai}(h:us.length=5):∃a b c d e,us=[a,b,c,d,e]:=by match us,h with|[a,b,c,d,e],_=>exact⟨a,b,c,d,e,rfl⟩
end
def lf_mk{K:k96}{x:aq}{st:aS}{f:aj}{oc:ai}{od:Option aj}{kV dc pm:ai}{an:Option aj}{cd ct:ai}{sl:Array (Option ai)}(a:W.nsIn K ax x=a8 (a8 (.ref f)))
  (l:K.lookup f=a8 ⟨oc,od,.func (W.fnOf x x (zx st) (jm st) (jb st) .none kV dc pm an cd ct),sl⟩) (c:W.codeIn K cd x=ah) (k:W.keepIn K (.ref f)=ah):Lf K x st:=⟨f,oc,od,kV,dc,pm,an,cd,ct,sl,a,l,c,k⟩
def lfd_mk{K:k96}{x:aq}{st:aS}{f:aj}{oc:ai}{od:Option aj}{kV dc pm:ai}{an:Option aj}{cd ct:ai}{sl:Array (Option ai)}{dt:aj}{n:Nat}{ts:Array (Option ai)}(a:W.nsIn K ax x=a8 (a8 (.ref f)))
  (l:K.lookup f=a8 ⟨oc,od,.func (W.fnOf x x (zx st) (jm st) (jb st) (.ref dt) kV dc pm an cd ct),sl⟩) (c:W.codeIn K cd x=ah) (k:W.keepIn K (.ref f)=ah) (t:K.lookup dt=a8 ⟨.type "tuple",ae,.seq #[.none] n,ts⟩):Lfd K x st:=⟨f,oc,od,kV,dc,pm,an,cd,ct,sl,dt,n,ts,a,l,c,k,t⟩
def TrD(P:ay)(w:aD)(K:k96)(mg:k99)(base:aE)(x:aq)(N:List aq)(st:aS)(p:Dx):Prop :=
 ∀(f:aj)(cdv:ai)(A:aF)(outer:List d9)(s:ao)(H:Hp)(E:XK) (xe:k97),MD ((zq CX0 P w K mg base N x (jb st) f cdv A outer s H E).wish xe) p (jm st)
section
variable{P:ay}{w:aD}{K:k96}{mg:k99}{base h:aE}{x g:aq}{st:aS}{N ps:List aq}{F:Fi}
def j1d{p:Dx}(hx:x=dq g)(L:Lf K g st)(X:K.In h)(Gn:h.Ns ax mg)(t:TrD P w K mg base g N st p)(ps:List aq)(sc:FnScope N ps (jb st))(hF:F.body=.dx p)(hl:F.lam=a9)(h1:ps.length=F.n)(h2:N.length=F.nn)(h3:0<ps.length)(h4:ps.length<=N.length)
  (hb:∀(kV doc pm:ai)(an:Option aj)(cdv ct:ai)(us:List ai),us.length=ps.length->eU (W.fnOf g g (zx st) (jm st) (jb st) .none kV doc pm an cdv ct) ⟨us,[]⟩=pure (ps.zip us)):LkF P w K mg base x F:=by
 obtain⟨f,oc,od,kV,dc,pm,an,cd,ct,sl,a,l,c,k⟩:=L;exact⟨λ_=>.inr (⟨g,p,st,f,_,N,ps,hx,hF,Wo l c k,sc,h1,h2,h3,h4,(Wo l c k).binds hb,W.mg_of X Gn a,t f⟩),λz=>by rw[hl]at z;cases z⟩
end
end L2
end
section
namespace L2
open PySem (Str sizeLine argBest)
def Jt{n:Nat}(h:n<=1000000):n<=av:=Xg h (by decide)
def lt_size{n:Nat}(h:n<=1000000):n<av:=cF h (by decide)
noncomputable def Cw(o:So)(f:En->So):So:=match o with
 |.next ρ=>f ρ
 |o=>o
noncomputable def ifS(c:Option Bool)(f g:En->So)(ρ:En):So:=match c with
 |some ah=>f ρ
 |some a9=>g ρ
 |none=>.no
noncomputable def j4z(is:List Nat)(f:En->So)(d:D)(ρ:En):So:=match z9 is d ρ with
 |some ρ2=>f ρ2
 |none=>.no
noncomputable def jav(is:List Nat)(w:Option W)(f:En->So)(ρ:En):So:=match w with
 |some (.i ds)=>Q3 (j4z is f) ds ρ
 |_=>.no
section
variable{fu:Nat}{Γ:aq->List D->Rc}{G:aq->Option D}{ρ:En}{i j:Nat}{e c k:Ex}{a b:Sx}{is:List Nat}
def jc1:run fu Γ G .nop ρ=.next ρ:=(rfl)
def jbz:run fu Γ G (.seq a b) ρ=Cw (run fu Γ G a ρ) (run fu Γ G b):=(rfl)
def jby:run fu Γ G (.set i e) ρ=orE (By i (ev Γ G e ρ) ρ) (er Γ G e ρ) ρ:=(rfl)
def jc2:run fu Γ G (.mov i j) ρ=j1a i j ρ[j]? ρ:=(rfl)
def j8e:run fu Γ G (.expr e) ρ=orE (j1l (ev Γ G e ρ) ρ) (er Γ G e ρ) ρ:=(rfl)
def jc0:run fu Γ G (.ret e) ρ=orE (retS (ev Γ G e ρ)) (er Γ G e ρ) ρ:=(rfl)
def j8o{ρ':En}{x:Option aq}:orE (.next ρ') x ρ=.next ρ':=(rfl)
def j36{r:Rc}{x:Option aq}:orE (.ret r) x ρ=.ret r:=(rfl)
def j89:run fu Γ G (.retV i) ρ=Oa ρ[i]?:=(rfl)
def jc3:run fu Γ G (.ife c a b) ρ=ifS (truth (ev Γ G c ρ)) (run fu Γ G a) (run fu Γ G b) ρ:=(rfl)
def j8c:run fu Γ G (.loop is e a) ρ=jav is (ev Γ G e (frz e ρ)) (run fu Γ G a) (frz e ρ):=(rfl)
def jc5:run fu Γ G (.app i e) ρ=O6 i ρ[i]? (ev Γ G e ρ) ρ:=(rfl)
def jc4:run fu Γ G (.ext i e) ρ=K6 i ρ[i]? (ev Γ G e ρ) ρ:=(rfl)
def j0q{p:Dx}:run fu Γ G (.dx p) ρ=dxS ρ[0]? λks ns=>Yh Γ G p ks ns (ρ.set 0 (.exc rfN)):=(rfl)
def j2x{x:Nat}{g:aq}{e:Ex}:run fu Γ G (.lmk x g e) ρ=j8x (decide (x<ρ.length)&&noOwn ρ) (callD Γ g (ev Γ G e (ρ.set x .un)) [] []):=(rfl)
def jeq{d:D}:stOf (a8 (.v (.e d)))=a8 d:=(rfl)
def j8d:run fu Γ G (.keep i) ρ=Dj i ρ[i]? ρ:=(rfl)
def j6v{l:List D}:Dj i (a8 (.own l)) ρ=.next (ρ.set i (.val (.lst l))):=(rfl)
def j8a{x:aq}:run fu Γ G (.retL x is) ρ=Dc x (Qh ρ is):=(rfl)
def jca{x:aq}{ds:List D}:Dc x (a8 ds)=.ret (.val (.fn x ds)):=(rfl)
noncomputable def jhn(s:Option Sv)(v:Option (List D)):Option (List D):=match s,v with
 |some (.val d),a8 ds=>a8 (d::ds)
 |_,_=>ae
def j3t:Qh ρ []=a8 []:=(rfl)
def j27:Qh ρ (i::is)=jhn ρ[i]? (Qh ρ is):=(rfl)
def jhm{d:D}{ds:List D}:jhn (a8 (.val d)) (a8 ds)=a8 (d::ds):=(rfl)
def j8b{f x:aq}{a b:Ex}:run fu Γ G (.retC f x a b is) ρ=De Γ f x (Qh ρ is) (ev Γ G a ρ) (ev Γ G b ρ):=(rfl)
def jcb{f x:aq}{ds:List D}{d d':D}:De Γ f x (a8 ds) (a8 (.v (.e d))) (a8 (.v (.e d')))=j04 (Γ f [d,d',.fn x ds]):=(rfl)
def jcc{d:D}(h:noFn d=ah):j04 (.val d)=.ret (.val d):=if_pos h
def j5r{x t y:Nat}{it e1 e2:Ex}{ds:List D}{r:List zo×zo}(hc:x<ρ.length/\t<ρ.length/\y<ρ.length/\x≠t/\x≠y/\t≠y)(hi:ev Γ G it (ρ.set x .un)=a8 (.i ds))(hd:Vz (λρ=>stOf (ev Γ G e1 ρ)) (λρ=>stOf (ev Γ G e2 ρ)) x t y ds (ρ.set x .un) [] []=a8 r) :
  run fu Γ G (.nmake x t y it e1 e2) ρ=.ret (.val (.dct r.1 (r.2.map D.int))):=by rw[j3q,if_pos hc,hi];dsimp only;rw[hd]
end
section
variable{f g:En->So}{ρ:En}{i j:Nat}{d:D}{l m:List D}{r:Rc}{x:Rk}
def j5o:Cw (.next ρ) f=f ρ:=(rfl)
def j0p:Cw (.ret r) f=.ret r:=(rfl)
def jjw:ifS (a8 ah) f g ρ=f ρ:=(rfl)
def jjx:ifS (a8 a9) f g ρ=g ρ:=(rfl)
def jet:By i (a8 (.v (.o l))) ρ=.next (ρ.set i (.own l)):=(rfl)
def jeu:By i (a8 (.v (.e d))) ρ=.next (ρ.set i (.val d)):=(rfl)
def jf6:retS (a8 (.v (.o l)))=.ret (.fresh l):=(rfl)
def j5u:retS (a8 (.v (.e d)))=.ret (.val d):=(rfl)
def jf5:retS (a8 (.v (.t d)))=.ret (.val d):=(rfl)
def jc9:Oa (a8 (.own l))=.ret (.fresh l):=(rfl)
def jc8:Oa (a8 (.val d))=.ret (.val d):=(rfl)
def jg1(h:i≠j):j1a i j (a8 (.own l)) ρ=.next ((ρ.set j .un).set i (.own l)):=if_neg h
def jgx:j1l (a8 (.v x)) ρ=.next ρ:=(rfl)
def U3:j4z [i] f d ρ=f (ρ.set i (.val d)):=(rfl)
def jcy{is:List Nat}{ds:List D}:jav is (a8 (.i ds)) f ρ=Q3 (j4z is f) ds ρ:=(rfl)
def ji0(h:l.length<=1000000):O6 i (a8 (.own l)) (a8 (.v (.e d))) ρ=.next (ρ.set i (.own (l++[d]))):=by simp[O6,Rk.st,lt_size h]
def jhz(h:l.length<=1000000)(hd:Zd d=ah):O6 i (a8 (.own l)) (a8 (.v (.t d))) ρ=.next (ρ.set i (.own (l++[d]))):=by simp[O6,Rk.st,hd,lt_size h]
def jgw(h:l.length+m.length<=1000000):K6 i (a8 (.own l)) (a8 (.v (.o m))) ρ=.next (ρ.set i (.own (l++m))):=by simp[K6,jr,Jt h]
def j3e:fin (.ret r)=r:=(rfl)
def j9h:fin (.next ρ)=.val .non:=(rfl)
def jo{fu:Nat}{G:aq->Option D}{T:aq->Option Fi}{n:Nat}{f:aq}{ds:List D}{F:Fi}(h:T f=a8 F)(hl:ds.length=F.n)(hla:F.lam=a9:=by rfl):evP fu G T (n+1) f ds=fin (run fu (evP fu G T n) G F.body (enter F ds)):=by simp only[evP,h,if_pos hl,hla,ph,if_false]
def j3g{fu:Nat}{G:aq->Option D}{T:aq->Option Fi}{n:Nat}{f:aq}{ds:List D}{F:Fi}(h:T f=a8 F)(hl:ds.length=F.n)(hla:F.lam=ah:=by rfl):evP fu G T (n+1) f ds=j4j (fin (run fu (evP fu G T n) G F.body (enter F ds))):=by simp only[evP,h,if_pos hl,hla,if_true]
def jgb:j4j (.val d)=.lval d:=(rfl)
end
theorem Ut{f:D->En->So}(W:Nat->En->Prop):∀{ds:List D}{ρ:En}{k:Nat},W k ρ->(∀i d ρ,ds[i]?=a8 d->W (k+i) ρ->∃ρ',f d ρ=.next ρ'/\W (k+i+1) ρ')->∃ρ',Q3 f ds ρ=.next ρ'/\W (k+ds.length) ρ'
 |[],ρ,k,h0,_=>⟨ρ,rfl,h0⟩
 |d::ds,ρ,k,h0,hs=>by
  obtain⟨ρ1,e1,w1⟩:=hs 0 d ρ rfl h0;obtain⟨ρ2,e2,w2⟩:=Ut (f:=f) W (ds:=ds) (k:=k+1) w1 λi d' ρ' hi w=>by have:=hs (i+1) d' ρ' (by simpa using hi) (by rw[show k+(i+1)=k+1+i by omega];exact w);rw[show k+(i+1)+1=k+1+i+1 by omega]at this;exact this
  refine⟨ρ2,?_,by rw[xx,show k+(ds.length+1)=k+1+ds.length by omega];exact w2⟩;rw[Q3,e1];exact e2
def j8w{f:D->En->So}(W:Nat->En){ds:List D}{ρ:En}(h0:ρ=W 0)(hs:∀i d,ds[i]?=a8 d->f d (W i)=.next (W (i+1))):Q3 f ds ρ=.next (W ds.length):=by
 obtain⟨ρ',e,w⟩:=Ut (f:=f) (λi ρ=>ρ=W i) (k:=0) (ds:=ds) (ρ:=W 0) rfl λi d ρ hi w=>⟨W (0+i+1),by rw[w,cg];exact hs i d hi,rfl⟩
 rw[h0,e,w,cg]
def Wx{f:D->En->So}{ds:List D}{ρ:En}{g:En->So}{r:Rc}(W:Nat->En->Prop)(h0:W 0 ρ)(hs:∀i d ρ,ds[i]?=a8 d->W i ρ->∃ρ',f d ρ=.next ρ'/\W (i+1) ρ')(hk:∀ρ',W ds.length ρ'->fin (g ρ')=r) :
  fin (Cw (Q3 f ds ρ) g)=r:=by
 obtain⟨ρ',e,w⟩:=Ut (f:=f) W (k:=0) (ds:=ds) (ρ:=ρ) h0 λi d ρ hi w=>by rw[cg]at w ⊢;exact hs i d ρ hi w
 rw[e];rw[cg]at w;exact hk ρ' w
def j5n{f:D->En->So}{ds:List D}{ρ:En}{g:En->So}{Q:En->Prop}(W:Nat->En->Prop)(h0:W 0 ρ)(hs:∀i d ρ,ds[i]?=a8 d->W i ρ->∃ρ',f d ρ=.next ρ'/\W (i+1) ρ')
  (hk:∀ρ',W ds.length ρ'->∃ρ2,g ρ'=.next ρ2/\Q ρ2):∃ρ2,Cw (Q3 f ds ρ) g=.next ρ2/\Q ρ2:=by
 obtain⟨ρ',e,w⟩:=Ut (f:=f) W (k:=0) (ds:=ds) (ρ:=ρ) h0 λi d ρ hi w=>by rw[cg]at w ⊢;exact hs i d ρ hi w
 rw[e];rw[cg]at w;exact hk ρ' w
noncomputable def jb0(d:Option D):Option W:=d.map λd=>.v (.e d)
noncomputable def j99(i:Option Int):Option W:=i.map λk=>.v (.e (.int k))
noncomputable def jgq(a:Option W):Option W:=match a with
 |some (.v x)=>a8 (.v (.e (.bl x.d.isNon)))
 |_=>ae
noncomputable def jae(k:Option Bool)(f:En->Option W)(ρ:En):Option W:=match k with
 |some a9=>a8 (.v (.e (.bl a9)))
 |some ah=>blW (truth (f ρ))
 |none=>ae
noncomputable def orW(k:Option Bool)(f:En->Option W)(ρ:En):Option W:=match k with
 |some ah=>a8 (.v (.e (.bl ah)))
 |some a9=>blW (truth (f ρ))
 |none=>ae
noncomputable def jfz(k:Option Bool):Option W:=k.map λk=>.v (.e (.bl (!k)))
noncomputable def stW(a:Option W):Option W:=match a with
 |some (.v x)=>x.st.map λd=>.v (.e d)
 |_=>ae
noncomputable def j98(k:Option Bool)(f g:En->Option W)(ρ:En):Option W:=match k with
 |some ah=>stW (f ρ)
 |some a9=>stW (g ρ)
 |none=>ae
noncomputable def slW(a:Option W)(l h:Option (Option Int)):Option W:=match a,l,h with
 |some (.v x),a8 l,a8 h=>match x.sq with
  |some (ah,ds)=>a8 (.v (.o (cutD ds l h)))
  |some (a9,ds)=>if HT.sIx ds.length 0 l=0/\HT.sIx ds.length ds.length h=ds.length then ae else a8 (.v (.e (.tup (cutD ds l h))))
  |none=>match x.d with
   |.str z=>if jr z.length=ah then a8 (.v (.e (.str (bS z l h))))else ae
   |_=>ae
 |_,_,_=>ae
noncomputable def Jz(is:List Nat)(c e:En->Option W)(ρ:En)(d:D):Option (Option D):=match z9 is d ρ with
 |none=>ae
 |some ρ2=>match c ρ2 with
  |some (.a [])=>match e ρ2 with
   |some (.v x)=>x.st.map a8
   |_=>ae
  |some (.a [y])=>match y.d with
   |.bl ah=>match e ρ2 with
    |some (.v x)=>x.st.map a8
    |_=>ae
   |.bl a9=>a8 ae
   |_=>ae
  |_=>ae
noncomputable def j4u(is:List Nat)(w:Option W)(c e:En->Option W)(z:Bool)(ρ:En):Option W:=match w with
 |some (.i ds)=>if Dq is ρ=ah/\jr ds.length=ah then(Qc (Jz is c e ρ) ds).bind λl=>if (z && !za l)=ah then ae else a8 (.v (.o l))else ae
 |_=>ae
section
variable{Γ:aq->List D->Rc}{G:aq->Option D}{ρ:En}{a b c e:Ex}{op:Bop}{cp:Cop}{x f:aq}{i:Nat}{d:D}
def jh7:ev Γ G (.lit d) ρ=a8 (.v (.e d)):=(rfl)
def jgz:ev Γ G (.var i) ρ=Cg ρ[i]?:=(rfl)
def jdh:ev Γ G (.glob x) ρ=jb0 (G x):=(rfl)
def jhc:ev Γ G (.bin op a b) ρ=V8 op (ev Γ G a ρ) (ev Γ G b ρ):=(rfl)
def jh5:ev Γ G (.neg a) ρ=j19 (ev Γ G a ρ):=(rfl)
def jha:ev Γ G (.cmp cp a b) ρ=Ka cp (ev Γ G a ρ) (ev Γ G b ρ):=(rfl)
def jh9:ev Γ G (.isN a) ρ=jgq (ev Γ G a ρ):=(rfl)
def jhd:ev Γ G (.and a b) ρ=jae (truth (ev Γ G a ρ)) (ev Γ G b) ρ:=(rfl)
def jk4:ev Γ G (.or a b) ρ=orW (truth (ev Γ G a ρ)) (ev Γ G b) ρ:=(rfl)
def jh3:ev Γ G (.not a) ρ=jfz (truth (ev Γ G a ρ)):=(rfl)
def jh8:ev Γ G (.ite c a b) ρ=j98 (truth (ev Γ G c ρ)) (ev Γ G a) (ev Γ G b) ρ:=(rfl)
def jh4:ev Γ G .nil ρ=a8 (.a []):=(rfl)
def jdk:ev Γ G (.cons a b) ρ=consW (ev Γ G a ρ) (ev Γ G b ρ):=(rfl)
def jh0:ev Γ G (.tup a) ρ=Uz (ev Γ G a ρ):=(rfl)
def jh6:ev Γ G (.lst a) ρ=Vk (ev Γ G a ρ):=(rfl)
def jk5:ev Γ G (.ix a b) ρ=ixW (ev Γ G a ρ) (ev Γ G b ρ):=(rfl)
def jk3:ev Γ G (.sl a b c) ρ=slW (ev Γ G a ρ) (Qx (ev Γ G b ρ)) (Qx (ev Γ G c ρ)):=(rfl)
def jdg{sep:aq}:ev Γ G (.join sep a) ρ=Ol sep (ev Γ G a ρ):=(rfl)
def jdf:ev Γ G (.lset a) ρ=Oj (ev Γ G a ρ):=(rfl)
def j9n:ev Γ G (.callV i a) ρ=Wq Γ ρ[i]? (ev Γ G a ρ):=(rfl)
def ja1{cs:List D}{u v:D}(h:Jd [u,v]=ah):Wq Γ (a8 (.val (.fn x cs))) (a8 (.a [.e u,.e v]))=(Γ (jx x) (cs++[u,v])).lv:=if_pos h
def ja0{cs:List D}{u v w:D}(h:Jd [u,v,w]=ah):Wq Γ (a8 (.val (.fn x cs))) (a8 (.a [.e u,.e v,.e w]))=(Γ (jx x) (cs++[u,v,w])).lv:=if_pos h
def jlp:(Rc.lval d).lv=a8 (.v (.e d)):=(rfl)
def jdj:ev Γ G (.dget a b) ρ=Ou (ev Γ G a ρ) (ev Γ G b ρ):=(rfl)
def j9m:ev Γ G (.dvals a) ρ=Mw (ev Γ G a ρ):=(rfl)
def j9v{ks:List zo}{ds:List D}:Mw (a8 (.v (.e (.dct ks ds))))=a8 (.v (.e (.tup ds))):=(rfl)
def jdd:ev Γ G (.minT a) ρ=Og (ev Γ G a ρ):=(rfl)
noncomputable def rcV:Rc->Option W
 |.val d=>a8 (.v (.e d))
 |_=>ae
noncomputable def j7p(Γ:aq->List D->Rc)(f:aq)(a:Option W):Option W:=match a with
 |some (.a rs)=>match zg rs with
  |some ds=>rcV (Γ f (ds++[.non]))
  |none=>ae
 |_=>ae
def j9o{f:aq}:ev Γ G (.callD f a) ρ=j7p Γ f (ev Γ G a ρ):=(rfl)
def jj8{d:D}:rcV (.val d)=a8 (.v (.e d)):=(rfl)
def ja3{f:aq}{x:D}:j7p Γ f (a8 (.a [.e x]))=rcV (Γ f [x,.non]):=(rfl)
def jdi:ev Γ G (.enum a) ρ=Ot (ev Γ G a ρ):=(rfl)
def jdm:ev Γ G (.call f a) ρ=Qm Γ f (ev Γ G a ρ):=(rfl)
def jhb{f:Bf}:ev Γ G (.blt f a) ρ=vh f (ev Γ G a ρ):=(rfl)
def jde{m:Mf}:ev Γ G (.meth m a b) ρ=Oh m (ev Γ G a ρ) (ev Γ G b ρ):=(rfl)
def jdl{is:List Nat}:ev Γ G (.comp is e a c) ρ=j4u is (ev Γ G a (frz a ρ)) (ev Γ G c) (ev Γ G e) (Jh a ρ) (frz a ρ):=(rfl)
def jh2:ev Γ G (.seq a) ρ=N5 (ev Γ G a ρ):=(rfl)
def j9l:ev Γ G (.range a) ρ=Wh (ev Γ G a ρ):=(rfl)
def jgy:ev Γ G (.zip a b) ρ=Cd (ev Γ G a ρ) (ev Γ G b ρ):=(rfl)
end
section
variable{x y:Rk}{d:D}{i j k:Int}{l m:List D}{b:Bool}{f g:En->Option W}{ρ:En}{xs:List Rk}{op:Bop}{cp:Cop}
def jeh:Cg (a8 (.val d))=a8 (.v (.e d)):=(rfl)
def jei:Cg (a8 (.own l))=a8 (.v (.w l)):=(rfl)
def jd9:jb0 (a8 d)=a8 (.v (.e d)):=(rfl)
def jgr:j99 (a8 i)=a8 (.v (.e (.int i))):=(rfl)
def jka:blW (a8 b)=a8 (.v (.e (.bl b))):=(rfl)
def jhy:V8 op (a8 (.v (.e (.int i)))) (a8 (.v (.e (.int j))))=j99 (binI op i j):=by simp only[V8,Rx,Rk.d,j99,rkW];cases binI op i j<;>rfl
def jab:binI .add i j=a8 (i+j):=(rfl)
def ja7:binI .sub i j=a8 (i-j):=(rfl)
def ja9(h:(-18446744073709551616<i/\i<18446744073709551616)\/(-18446744073709551616<j/\j<18446744073709551616)):binI .mul i j=a8 (i*j):=if_pos h
def j7r(h:0<j/\j<18446744073709551616):binI .fdiv i j=a8 (i/j):=if_pos h
def jaa(h:0<j):binI .mod i j=a8 (i%j):=if_pos h
def ja8(h:0<=j/\j<=1000000/\i.natAbs<18446744073709551616):binI .shl i j=a8 (i*2^j.toNat):=if_pos h
def jht(h:l.length+m.length<=1000000):V8 .add (a8 (.v (.e (.tup l)))) (a8 (.v (.e (.tup m))))=a8 (.v (.e (.tup (l++m)))):=by simp[V8,Rx,Rk.d,Rk.sq,jr,Jt h,rkW]
def jj5(h:-9223372036854775808<=k/\k<9223372036854775808)(h2:l.length*k.toNat<=1000000):V8 .mul (a8 (.v (.o l))) (a8 (.v (.e (.int k))))=a8 (.v (.o (ak k.toNat l).flatten)):=by simp only[V8,Rx,Rk.d,Rk.sq,Rk.lw];rw[if_pos ⟨h.1,h.2,decide_eq_true (Jt h2)⟩];rfl
def j5v(h:1<=k/\k<=1000000):V8 .mul (a8 (.v (.e (.tup [d])))) (a8 (.v (.e (.int k))))=a8 (.v (.e (.tup (ak k.toNat d)))):=by simp only[V8,Rx,Rk.d,Rk.sq];rw[if_pos ⟨h.1,by omega,rfl,decide_eq_true (Jt (by simp only[xx,tu];omega))⟩];simp only[rkW,Option.map,List.flatten_replicate_singleton]
def jg0:j19 (a8 (.v (.e (.int i))))=a8 (.v (.e (.int (-i)))):=(rfl)
def jho:Ka cp (a8 (.v x)) (a8 (.v y))=blW (Ny cp x.d y.d):=(rfl)
def d_e:(Rk.e d).d=d:=(rfl)
def jhp:Ny cp (.int i) (.int j)=cmpI cp i j:=by cases cp<;>rfl
def j7c(h:i<j):cmpI .lt i j=a8 ah:=by simp[cmpI,h]
def j7d(h:j<=i):cmpI .lt i j=a8 a9:=by simp[cmpI];omega
def j7e(h:j<i):cmpI .gt i j=a8 ah:=by simp[cmpI,h]
def j7f(h:i<=j):cmpI .gt i j=a8 a9:=by simp[cmpI];omega
def j7g(h:i<j):cmpI .ge i j=a8 a9:=by simp[cmpI];omega
def j7h(h:i=j):cmpI .eq i j=a8 ah:=by simp[cmpI,h]
def j7i(h:i≠j):cmpI .eq i j=a8 a9:=by simp[cmpI,h]
def j7b(h:i=j):cmpI .ne i j=a8 a9:=by simp[cmpI,h]
def jdw:cmpI .gt i j=a8 (decide (j<i)):=(rfl)
def Kd:cmpI .eq i j=a8 (decide (i=j)):=(rfl)
def Kc:cmpI .ne i j=a8 (!decide (i=j)):=(rfl)
def jgp:jgq (a8 (.v x))=a8 (.v (.e (.bl x.d.isNon))):=(rfl)
def jbm:truth (a8 (.v (.e (.bl b))))=a8 b:=(rfl)
def ji2:jae (a8 a9) f ρ=a8 (.v (.e (.bl a9))):=(rfl)
def ji1:jae (a8 ah) f ρ=blW (truth (f ρ)):=(rfl)
def jjg:orW (a8 ah) f ρ=a8 (.v (.e (.bl ah))):=(rfl)
def jjh:orW (a8 a9) f ρ=blW (truth (f ρ)):=(rfl)
def jfy:jfz (a8 b)=a8 (.v (.e (.bl (!b)))):=(rfl)
def jiz:stW (a8 (.v (.e d)))=a8 (.v (.e d)):=(rfl)
def jgk:j98 (a8 ah) f g ρ=stW (f ρ):=(rfl)
def jgl:j98 (a8 a9) f g ρ=stW (g ρ):=(rfl)
def jds:consW (a8 (.v x)) (a8 (.a xs))=a8 (.a (x::xs)):=(rfl)
def j5g(h:zg xs=a8 l)(hl:l.length<=1000000):Uz (a8 (.a xs))=a8 (.v (.e (.tup l))):=by simp[Uz,h,jr,Jt hl]
def j6o(h:zg xs=a8 l)(hl:l.length<=1000000):Vk (a8 (.a xs))=a8 (.v (.o l)):=by simp[Vk,h,jr,Jt hl]
def jen:Uz (a8 (.a []))=a8 (.v (.e (.tup []))):=by simp[Uz,zg,jr]
def jem{a:D}:Uz (a8 (.a [.e a]))=a8 (.v (.e (.tup [a]))):=j5g rfl (by simp)
def jel{a b:D}:Uz (a8 (.a [.e a,.e b]))=a8 (.v (.e (.tup [a,b]))):=j5g rfl (by simp)
def jg7:Vk (a8 (.a []))=a8 (.v (.o [])):=by simp[Vk,zg,jr]
def jg6{a:D}:Vk (a8 (.a [.e a]))=a8 (.v (.o [a])):=j6o rfl (by simp)
def jg5{a b c:D}:Vk (a8 (.a [.e a,.e b,.e c]))=a8 (.v (.o [a,b,c])):=j6o rfl (by simp)
noncomputable def Dm(o:Option D):Option W:=o.map λd=>.v (.e d)
theorem j0k:∀xs:List D,zg (xs.map Rk.e)=a8 xs
 |[]=>rfl
 |x::xs=>by rw[X5,zg,j0k xs];rfl
def jg3(xs:List D)(h:xs.length<=1000000):Vk (a8 (.a (xs.map Rk.e)))=a8 (.v (.o xs)):=by simp[Vk,j0k,jr,Jt h]
def jg4{a b c d:D}:Vk (a8 (.a [.e a,.e b,.e c,.e d]))=a8 (.v (.o [a,b,c,d])):=jg3 [a,b,c,d] (by simp)
def j3c:Dm (a8 d)=a8 (.v (.e d)):=(rfl)
def jgi:ixW (a8 (.v (.e (.lst l)))) (a8 (.v (.e (.int i))))=Dm (atI l i):=(rfl)
def jgh:ixW (a8 (.v (.e (.tup l)))) (a8 (.v (.e (.int i))))=Dm (atI l i):=(rfl)
def jju:ixW (a8 (.v (.o l))) (a8 (.v (.e (.int i))))=Dm (atI l i):=(rfl)
def jjs:ixW (a8 (.v (.w l))) (a8 (.v (.e (.int i))))=Dm (atI l i):=(rfl)
noncomputable def jhr(c:Option Nat):Option W:=match c with
 |some c=>a8 (.v (.e (.str ⟨#[c]⟩)))
 |none=>ae
def jhq{c:Nat}:jhr (a8 c)=a8 (.v (.e (.str ⟨#[c]⟩))):=(rfl)
def jjt{z:aq}(h:z.length<=1000000):ixW (a8 (.v (.e (.str z)))) (a8 (.v (.e (.int i))))=jhr (atI z.cps.toList i):=by simp only[ixW,Rk.sq,Rk.d,jr,Jt h,decide_true,if_true];cases atI z.cps.toList i<;>rfl
def jj2{z:aq}{lo hi:Option Int}(h:z.length<=1000000):slW (a8 (.v (.e (.str z)))) (a8 lo) (a8 hi)=a8 (.v (.e (.str (bS z lo hi)))):=by simp only[slW,Rk.sq,Rk.d,jr,Jt h,decide_true,if_true]
def jhu{y z:aq}(h:y.length+z.length<=1000000):V8 .add (a8 (.v (.e (.str y)))) (a8 (.v (.e (.str z))))=a8 (.v (.e (.str (y++z)))):=by simp[V8,Rx,Rk.d,jr,Jt h,rkW]
def jjv{k:Bool}:vh .int (a8 (.a [.e (.bl k)]))=a8 (.v (.e (.int (if k then 1 else 0)))):=(rfl)
def zu{ns:zo}:intsOf (ns.map D.int)=a8 ns:=by
 induction ns with
 |nil=>rfl
 |cons b bs ih=>rw[X5,intsOf,ih];rfl
def j3z{ns:List aq}:strsOf (ns.map D.str)=a8 ns:=by
 induction ns with
 |nil=>rfl
 |cons b bs ih=>rw[X5,strsOf,ih];rfl
def jix{ns:zo}:vh .sum (a8 (.a [.o (ns.map D.int)]))=a8 (.v (.e (.int ns.sum))):=by simp only[vh,Zr,Rk.d,zu];rfl
def jep{ns:zo}:vh .sum (a8 (.a [.e (.lst (ns.map D.int))]))=a8 (.v (.e (.int ns.sum))):=by simp only[vh,Zr,Rk.d,zu];rfl
def j3b{sep:aq}{ts:List aq}(h:fP sep ts=ah):Ol sep (a8 (.v (.o (ts.map D.str))))=a8 (.v (.e (.str (f7 sep ts)))):=by simp only[Ol,Rk.d,j3z,h,if_true]
def j8h{i j:Int}(h:-4611686018427387904<=i/\i<4611686018427387904/\-4611686018427387904<=j/\j<4611686018427387904):Wh (a8 (.a [.e (.int i),.e (.int j)]))=a8 (.i (upto i (j-i).toNat)):=if_pos h
def j9s:Ot (a8 (.v (.e (.lst l))))=a8 (.i (Jl l)):=(rfl)
def j9r:Ot (a8 (.v (.e (.tup l))))=a8 (.i (Jl l)):=(rfl)
def ja5:Qx (a8 (.a []))=a8 ae:=(rfl)
def ja4:Qx (a8 (.a [.e (.int i)]))=a8 (a8 i):=(rfl)
variable{lo hi:Option Int}
def j5k(h:¬(HT.sIx l.length 0 lo=0/\HT.sIx l.length l.length hi=l.length)):slW (a8 (.v (.e (.tup l)))) (a8 lo) (a8 hi)=a8 (.v (.e (.tup (cutD l lo hi)))):=if_neg h
variable{Γ:aq->List D->Rc}{fn:aq}
noncomputable def rcW(r:Rc):Option W:=match r with
 |.val d=>a8 (.v (.e d))
 |.fresh l=>a8 (.v (.o l))
 |_=>ae
def jj6:rcW (.val d)=a8 (.v (.e d)):=(rfl)
def jj7:rcW (.fresh l)=a8 (.v (.o l)):=(rfl)
def U0(h:zg xs=a8 l):Qm Γ fn (a8 (.a xs))=rcW (Γ fn l):=by simp only[Qm,h];cases Γ fn l<;>rfl
def je1{a:D}:Qm Γ fn (a8 (.a [.e a]))=rcW (Γ fn [a]):=U0 rfl
def je0{a b:D}:Qm Γ fn (a8 (.a [.e a,.e b]))=rcW (Γ fn [a,b]):=U0 rfl
def jdz{a b c:D}:Qm Γ fn (a8 (.a [.e a,.e b,.e c]))=rcW (Γ fn [a,b,c]):=U0 rfl
def j9z:Qm Γ fn (a8 (.a [.o l]))=rcW (Γ fn [.lst l]):=U0 rfl
noncomputable def rcT(r:Rc):Option W:=match r with
 |.val d=>a8 (.v (.t d))
 |.fresh l=>if za l=ah then a8 (.v (.o l))else ae
 |_=>ae
def jj9:rcT (.val d)=a8 (.v (.t d)):=(rfl)
def jdy(h:zg xs=ae):Qm Γ fn (a8 (.a xs))=rcT (Γ fn (xs.map Rk.d)):=by simp only[Qm,h];cases Γ fn (xs.map Rk.d)<;>rfl
def j9y{a b:D}:Qm Γ fn (a8 (.a [.w m,.e a,.e b]))=rcT (Γ fn [.lst m,a,b]):=jdy rfl
def jjo:vh .len (a8 (.a [.e (.lst l)]))=a8 (.v (.e (.int l.length))):=(rfl)
def jjn:vh .len (a8 (.a [.e (.tup l)]))=a8 (.v (.e (.int l.length))):=(rfl)
def jjm:vh .len (a8 (.a [.w l]))=a8 (.v (.e (.int l.length))):=(rfl)
def jjj{ns:zo}(h:ns≠[]):vh .max (a8 (.a [.o (ns.map D.int)]))=a8 (.v (.e (.int (qz ns)))):=by
 have e:ns.isEmpty=a9:=by cases ns with|nil=>exact absurd rfl h|cons _ _=>rfl
 simp only[vh,Zr,Rk.d,zu,e,if_true];rfl
def j5f{ks:List zo}:Wt (ks.map λk=>D.tup (k.map D.int))=a8 ks:=by
 induction ks with
 |nil=>rfl
 |cons k ks ih=>rw[X5,Wt,ih];simp only[tupI,zu]
def jcu{ks:List zo}{k:zo}(h:ks[aU (zy ks) (ks.length-1)]?=a8 k):Og (a8 (.v (.o (ks.map λk=>D.tup (k.map D.int)))))=a8 (.v (.t (.tup (k.map D.int)))):=by simp only[Og,Rk.d,j5f,h];rfl
def K9{ks:List zo}{ds:List D}{k:zo}{d:D}(h:zp ks ds k=a8 d):Ou (a8 (.v (.e (.dct ks ds)))) (a8 (.v (.e (.tup (k.map D.int)))))=a8 (.v (.e d)):=by simp only[Ou,Rk.d,tupI,zu,h];rfl
def jbl:vh .tuple (a8 (.a [.o l]))=a8 (.v (.e (.tup l))):=(rfl)
def jbk:vh .tuple (a8 (.a [.w l]))=a8 (.v (.e (.tup l))):=(rfl)
def j2m{bs:List Bool}:boolsOf (bs.map D.bl)=a8 bs:=by
 induction bs with
 |nil=>rfl
 |cons b bs ih=>rw[X5,boolsOf,ih];rfl
def jkd{bs:List Bool}:vh .any (a8 (.a [.o (bs.map D.bl)]))=a8 (.v (.e (.bl (bs.any id)))):=by simp only[vh,Zr,Rk.d,j2m];rfl
def j3m(h:D.depL l<=90)(h2:d.dep<=90):Oh .count (a8 (.v (.w l))) (a8 (.a [.e d]))=a8 (.v (.e (.int (l.countP λe=>deq e d)))):=by simp[Oh,j4g,Rk.d,h,h2,rkW]
def jbw:N5 (a8 (.v (.e (.lst l))))=a8 (.i l):=(rfl)
def jbv:N5 (a8 (.v (.e (.tup l))))=a8 (.i l):=(rfl)
def jev:N5 (a8 (.v (.o l)))=a8 (.i l):=(rfl)
def j8i(h:-4611686018427387904<=i/\i<4611686018427387904):Wh (a8 (.a [.e (.int i)]))=a8 (.i (upto 0 i.toNat)):=if_pos h
def qt{is:List Nat}{c e:En->Option W}{z:Bool}{ds l:List D}(hf:Dq is ρ=ah)(hl:ds.length<=1000000)(h:Qc (Jz is c e ρ) ds=a8 l)(hz:z=a9\/za l=ah):j4u is (a8 (.i ds)) c e z ρ=a8 (.v (.o l)):=by simp only[j4u,hf,jr,Jt hl,decide_true,and_self,if_true,h,l6];rcases hz with z|z<;>simp[z]
def zr{i:Nat}{c e:En->Option W}(hc:c (ρ.set i (.val d))=a8 (.a [])){d':D}(he:e (ρ.set i (.val d))=a8 (.v (.e d'))):Jz [i] c e ρ d=a8 (a8 d'):=by simp[Jz,z9,hc,he,Rk.st]
def j81{i:Nat}{c e:En->Option W}{b:Bool}{d':D}(hc:c (ρ.set i (.val d))=a8 (.a [.e (.bl b)]))(he:b=ah->e (ρ.set i (.val d))=a8 (.v (.e d'))):Jz [i] c e ρ d=a8 (if b=ah then a8 d' else ae):=by
 cases b with
 |true=>simp[Jz,z9,hc,he rfl,Rk.st,Rk.d]
 |false=>simp[Jz,z9,hc,Rk.d]
def j2r{i j:Nat}{c e:En->Option W}{a b:D}(hc:c ((ρ.set i (.val a)).set j (.val b))=a8 (.a [])){d':D}(he:e ((ρ.set i (.val a)).set j (.val b))=a8 (.v (.e d'))):Jz [i,j] c e ρ (.tup [a,b])=a8 (a8 d'):=by simp[Jz,z9,hc,he,Rk.st]
def Bq{i j:Nat}{c e:En->Option W}{a b:D}{k:Bool}{d':D}(hc:c ((ρ.set i (.val a)).set j (.val b))=a8 (.a [.e (.bl k)]))(he:k=ah->e ((ρ.set i (.val a)).set j (.val b))=a8 (.v (.e d'))):Jz [i,j] c e ρ (.tup [a,b])=a8 (if k=ah then a8 d' else ae):=by
 cases k with
 |true=>simp[Jz,z9,hc,he rfl,Rk.st,Rk.d]
 |false=>simp[Jz,z9,hc,Rk.d]
def Uw{α:Type}{xs:List α}{n:Nat}{x:α}(h:xs[n]?=a8 x):atI xs (n:Int)=a8 x:=je4 h
end
section
def jd5:D.isNon .non=ah:=(rfl)
end
section
noncomputable abbrev j9(r:zo):D:=.tup (r.map .int)
noncomputable abbrev jn(rs:List zo):List D:=rs.map j9
def qb{α:Type}{f:D->Option (Option D)}{h g:α->D}{L:List α}(q:∀x∈L,f (h x)=a8 (a8 (g x))):Qc f (L.map h)=a8 (L.map g):=by
 induction L with
 |nil=>rfl
 |cons x L ih=>rw[X5,Qc,q x (xq ..),ih λy hy=>q y (xg _ hy)];rfl
def Ze{α:Type}{f:D->Option (Option D)}{h g:α->D}{p:α->Bool}{L:List α}(q:∀x∈L,f (h x)=a8 (if p x=ah then a8 (g x)else ae)):Qc f (L.map h)=a8 ((L.filter p).map g):=by
 induction L with
 |nil=>rfl
 |cons x L ih =>
  rw[X5,Qc,q x (xq ..),ih λy hy=>q y (xg _ hy)];by_cases z:p x=ah
  .rw[if_pos z,eD z];rfl
  .rw[if_neg z,iu z]
def take_snoc{α:Type}{l:List α}{i:Nat}{x:α}(h:l[i]?=a8 x):l.take (i+1)=l.take i++[x]:=by rw[su,h];rfl
def Nq{α β:Type}{f:α->β}{l:List α}{i:Nat}{y:β}(h:(l.map f)[i]?=a8 y):∃x,l[i]?=a8 x/\y=f x:=by
 rw[X4]at h;cases e:l[i]? with
 |none=>rw[e]at h;cases h
 |some x=>rw[e]at h;cases h;exact⟨x,rfl,rfl⟩
end
section
variable{fu:Nat}{Γ:aq->List D->Rc}{G:aq->Option D}{ls:List aq}{ρ:En}{i j k:Nat}{e c es m:Ex}{f x y:aq}{b r:Px}
def jcx{n:Int}{ns:zo}(h:ns.length<3999):Oj (a8 (.v (.w (D.int n::ns.map D.int))))=a8 (.v (.e (.int (ddI (n::ns)).length))):=by
 have e:intsOf (D.int n::ns.map D.int)=a8 (n::ns):=zu (ns:=n::ns);have z:(n::ns).length<4000:=by simp;omega
 simp only[Oj,Rk.d,strsOf,e,z,if_true]
end
section
variable{Γ:aq->List D->Rc}{G:aq->Option D}{ρ:En}{a:Ex}
def jh1:True:=trivial
end
end L2
end
section
open PySem (Str)
open L2
noncomputable def jk1:=(k95 (k95 (k95 (k95 (k95 (k95 (k95 @jc1 @jh1) (k95 @jbz (k95 @jby @jc2))) (k95 (k95 @j8e @jc0) (k95 @j89 (k95 @jc3 @j8c)))) (k95 (k95 (k95 @jc5 @jc4) (k95 @jdf (k95 @j8h @j8d))) (k95 (k95 @j6v @j8a) (k95 @jca (k95 @j3t @j27))))) (k95 (k95 (k95 (k95 @jhm @j8b) (k95 @jcb (k95 @j9n @jdj))) (k95 (k95 @j9m @j9v) (k95 @jdd (k95 @jlp @jgb)))) (k95 (k95 (k95 @j9o @ja3) (k95 @jj8 (k95 @j8o @j36))) (k95 (k95 @j5o @j0p) (k95 @jjw (k95 @jjx @jet)))))) (k95 (k95 (k95 (k95 (k95 @jeu @jf6) (k95 @j5u (k95 @jf5 @jc9))) (k95 (k95 @jc8 @jg1) (k95 @jgx (k95 @jcy @ji0)))) (k95 (k95 (k95 @jgw @j3e) (k95 @j9h (k95 @jh7 @jgz))) (k95 (k95 @jdh @jhc) (k95 @jh5 (k95 @jha @jh9))))) (k95 (k95 (k95 (k95 @jhd @jk4) (k95 @jh3 (k95 @jh8 @jh4))) (k95 (k95 @jdk @jh0) (k95 @jh6 (k95 @jk5 @jk3)))) (k95 (k95 (k95 @jdm @jhb) (k95 @jde (k95 @jdl @jh2))) (k95 (k95 @j9l @jgy) (k95 @jeh (k95 @jei @jd9))))))) (k95 (k95 (k95 (k95 (k95 (k95 @jgr @jka) (k95 @jhy (k95 @jab @ja7))) (k95 (k95 @ja9 @j7r) (k95 @jaa (k95 @ja8 @jht)))) (k95 (k95 (k95 @jj5 @jg0) (k95 @jho (k95 @d_e @jhp))) (k95 (k95 @j7c @j7d) (k95 @j7e (k95 @j7f @j7g))))) (k95 (k95 (k95 (k95 @j7h @j7i) (k95 @j7b (k95 @jgp @j5v))) (k95 (k95 @jbm @ji2) (k95 @ji1 (k95 @jjg @jjh)))) (k95 (k95 (k95 @jfy @jiz) (k95 @jgk (k95 @jgl @jds))) (k95 (k95 @jen @jem) (k95 @jel (k95 @jg7 @jg6)))))) (k95 (k95 (k95 (k95 (k95 @jg5 @jg4) (k95 @j3c (k95 @jgi @jgh))) (k95 (k95 @jju @jjs) (k95 @ja5 (k95 @ja4 @jj6)))) (k95 (k95 (k95 @jj7 @jj9) (k95 @je1 (k95 @je0 @jdz))) (k95 (k95 @j9z @jjo) (k95 @jjn (k95 @jjm @jbl))))) (k95 (k95 (k95 (k95 @jbk @jbw) (k95 @jbv (k95 @jev @j8i))) (k95 (k95 @jdg @jdi) (k95 @jkd (k95 @j2x @jeq)))) (k95 (k95 (k95 @jhq @jjt) (k95 @jj2 (k95 @jhu @jjv))) (k95 (k95 @jix @jep) (k95 @j9s (k95 @j9r @jd5))))))))
local macro_rules | `(tactic| walk_at "go")=>`(tactic| try simp (disch:=first | omega | assumption | (simp only [List.length_map,List.length_append,List.length_cons,List.length_nil,List.length_take,List.length_drop,List.length_reverse] <;> omega)) only [jk1,Ud,beq_self_eq_true,frz,Jh,j9f,List.getElem?_cons_zero,List.getElem?_cons_succ,List.set_cons_zero,List.set_cons_succ,List.map_cons,List.map_nil,List.cons_append,List.nil_append,List.replicate,List.length_map,List.length_append,List.length_cons,List.length_nil,Bool.not_true,Bool.not_false,bne_self_eq_false,Nat.reduceSub,Nat.reduceAdd,Int.reduceToNat,Int.reducePow])
local macro_rules | `(tactic| ext)=>`(tactic| walk_at "go")
local macro_rules | `(tactic| erw [$r])=>`(tactic| (rw [$r]; ext)) | `(tactic| erw [$r,$rs,*])=>`(tactic| (rw [$r]; ext; erw [$rs,*]))
namespace KL
noncomputable def Z3:Sx:=(.seq (.ret (.call "all_choices" (.cons (.comp [1] (.ite (.cmp .eq (.var 1) (.glob "NOT_TOLD")) (.glob "ANSWERS") (.tup (.cons (.var 1) .nil))) (.seq (.var 0)) .nil) .nil))) .nop)
noncomputable def fP_rows_in:Fi:=⟨1,2,Z3,a9⟩
noncomputable def J1:Sx:=(.seq (.set 1 (.lst (.cons (.tup .nil) .nil))) (.seq (.loop [2] (.seq (.var 0)) (.seq (.set 3 (.lst .nil)) (.seq (.loop [4] (.seq (.var 1)) (.seq (.ext 3 (.comp [5] (.bin .add (.var 4) (.tup (.cons (.var 5) .nil))) (.seq (.var 2)) .nil)) .nop)) (.seq (.mov 1 3) .nop)))) (.seq (.retV 1) .nop)))
noncomputable def fP_all_choices:Fi:=⟨1,6,J1,a9⟩
noncomputable def U4:Sx:=(.seq (.ife (.cmp .lt (.var 1) (.blt .len (.cons (.var 0) .nil))) (.seq (.ret (.ix (.var 0) (.var 1))) .nop) .nop) (.seq (.set 2 (.bin .add (.lit (.int 70001)) (.bin .mul (.bin .mul (.lit (.int 911)) (.var 1)) (.var 1)))) (.seq (.ife (.cmp .gt (.blt .len (.cons (.var 0) .nil)) (.lit (.int 0))) (.seq (.set 2 (.bin .add (.var 2) (.bin .mul (.bin .mod (.ix (.var 0) (.lit (.int 0))) (.lit (.int 9973))) (.bin .add (.bin .mul (.lit (.int 3)) (.var 1)) (.lit (.int 1)))))) .nop) .nop) (.seq (.retV 2) .nop))))
noncomputable def fL_cell:Fi:=⟨2,3,U4,a9⟩
section
variable{G:aq->Option D}{T:aq->Option Fi}
noncomputable def qx(ns:zo)(k:Nat):Int:=match ns[k]? with
 |some v=>v
 |none=>match ns with
  |[]=>70001+911*k*k
  |v::_=>70001+911*k*k+v%9973*(3*k+1)
def Yd {fu n:Nat} (hT:T "_law_cell" = a8 fL_cell) {ns:zo} {k:Nat} (hk:k<=100):evP fu G T (n+1) "_law_cell" [.lst (ns.map .int),.int k]=.val (.int (qx ns k)):=by
 rw[jo (F:=fL_cell) hT rfl];simp only[fL_cell,U4,enter];by_cases h:k<ns.length
 .have e:atI (ns.map D.int) (k:Int)=a8 (.int ns[k]):=Uw (by simp[h]);have q:qx ns k=ns[k]:=by simp[qx,h]
  ext;simp only[e,j3c,j5u,j36,j0p,j3e,q]
 .cases ns with
  |nil =>ext;simp[qx]
  |cons v r =>
   have e:atI (D.int v::r.map D.int) 0=a8 (.int v):=by simp[atI,ixN]
   have q:qx (v::r) k=70001+911*k*k+v%9973*(3*k+1):=by unfold qx;rw[Xu nofun]
   rw[X5];rw[xx]at h;ext;simp only[e];ext;rw[q]
def j86(f:zo):step [] f=[]:=rfl
def j5j(acc:List zo)(a f:zo):step (acc++[a]) f=step acc f++f.map λx=>a++[x]:=by simp[step]
def j1u(fs:List zo)(f:zo):qy (fs++[f])=step (qy fs) f:=by simp[qy]
def j0j(acc:List zo){f:zo}{k:Nat}(h:f.length<=k):(step acc f).length<=acc.length*k:=by
 unfold step;induction acc with
 |nil=>simp
 |cons a acc ih =>rw[List.flatMap_cons,Xd,xf,xx,lY];omega
def j2j{fs:List zo}{k:Nat}(h:∀f∈fs,f.length<=k):(qy fs).length<=k^fs.length:=by
 have go:∀(fs acc:List zo),(∀f∈fs,f.length<=k)->(fs.foldl step acc).length<=acc.length*k^fs.length:=by
  intro fs;induction fs with
  |nil=>intro acc _;simp
  |cons f fs ih =>intro acc hf;have h1:=ih (step acc f) λg hg=>hf g (xg _ hg);have h2:=j0j acc (hf f (xq ..));rw[T3,xx,cS,g6 (k^fs.length) k,<-Nat.mul_assoc];exact Xg h1 (Nat.mul_le_mul_right _ h2)
 have:=go fs [[]] h;simpa [qy]using this
def j1v{fs:List zo}{r:zo}(h:r∈qy fs):r.length=fs.length:=by
 have go:∀(fs acc:List zo) (k:Nat),(∀a∈acc,a.length=k)->∀r∈fs.foldl step acc,r.length=k+fs.length:=by
  intro fs;induction fs with
  |nil=>intro acc k ha r hr;exact ha r hr
  |cons f fs ih =>
   intro acc k ha r hr;have:=ih (step acc f) (k+1) (λa hm=>by
    obtain⟨b,hb,hx⟩:=List.mem_flatMap.mp hm
    obtain⟨x,_,rfl⟩:=X8.mp hx
    rw[Xd,ha b hb];rfl) r hr
   rw[this,xx];omega
 have:=go fs [[]] 0 (λa ha=>by rw[xm.mp ha];rfl) r h;omega
def Uh {fu n:Nat} (hT:T "all_choices" = a8 fP_all_choices) {fs:List zo} (hf:∀f∈fs,f.length<=3) (hl:fs.length<=6):evP fu G T (n+1) "all_choices" [.lst (jn fs)]=.fresh (jn (qy fs)):=by
 rw[jo (F:=fP_all_choices) hT rfl];simp only[fP_all_choices,J1,enter];ext;have small:∀i,(qy (fs.take i)).length<=729:=λi=>by
  have h:=j2j (fs:=fs.take i) (k:=3) λf hm=>hf f (List.mem_of_mem_take hm);have h2:(fs.take i).length<=6:=by rw[Pa];omega
  exact Xg h (Tj (by decide) h2)
 refine Wx (λi ρ=>∃s2 s4,ρ=[.val (.lst (jn fs)),.own (jn (qy (fs.take i))),s2,.un,s4,.un]) ⟨.un,.un,by simp[qy,jn,j9]⟩ ?_ ?_
 .rintro i d ρ hi ⟨s2,s4,rfl⟩;obtain⟨f,hfi,rfl⟩:=Nq hi;have hf3:f.length<=3:=hf f (Xq hfi);have sm:=small i;simp only[U3];ext;refine j5n (λj ρ=>∃s4,ρ=[.val (.lst (jn fs)),.val (.lst (jn (qy (fs.take i)))),.val (j9 f),.own (jn (step ((qy (fs.take i)).take j) f)),s4,.un]) ⟨s4,by simp[j86]⟩ ?_ ?_
  .rintro j d ρ hj ⟨s4,rfl⟩;obtain⟨a,haj,rfl⟩:=Nq hj;have hs:=j0j ((qy (fs.take i)).take j) hf3;have hs2:((qy (fs.take i)).take j).length<=729:=by rw[Pa];omega
   have ha:a.length<=6:=by have:=j1v (Xq haj);rw[Pa]at this;omega
   simp only[U3];ext;rw[qt (l:=(f.map λx=>j9 (a++[x]))) (by rfl) ?_ ?_ (.inl rfl)]
   .ext;refine⟨_,rfl,.val (j9 a),?_⟩;rw[take_snoc haj,j5j];simp only[jn,Xo,Xf];rfl
   .simp only[xf];omega
   .refine qb λx _=>zr (by ext) ?_;ext;simp
  .rintro ρ' ⟨s4,rfl⟩;ext;refine⟨_,rfl,.val (j9 f),s4,?_⟩;rw[take_snoc hfi,j1u,bZ]
 .rintro ρ' ⟨s2,s4,rfl⟩;ext;rw[bZ]
def j9i(t:Int):(Vl t).length<=3:=by unfold Vl;split<;>simp
def j2b {fu n:Nat} (hT:T "rows_in" = a8 fP_rows_in) (hC:T "all_choices" = a8 fP_all_choices) (gNT:G "NOT_TOLD" = a8 (.int 2)) (gAN:G "ANSWERS" = a8 (.tup [.int 0,.int 1])) {p:zo} (hp:p.length<=6):evP fu G T (n+2) "rows_in" [j9 p]=.fresh (jn (qy (p.map Vl))):=by
 rw[jo (F:=fP_rows_in) hT rfl];simp only[fP_rows_in,Z3,enter];ext;rw[qt (l:=jn (p.map Vl)) (by rfl) ?_ ?_ (.inl rfl)]
 .ext;rw[Uh hC (λf hf=>by obtain⟨t,_,rfl⟩:=X8.mp hf;exact j9i t) (by rw[xf];exact hp)];ext
 .rw[xf];omega
 .rw[jn,Xf];refine qb λt _=>zr (by ext) ?_;by_cases h:t=2
  .ext;simp only[gNT];ext;simp only[gAN];ext;simp[Vl,h]
  .ext;simp only[gNT];ext;simp[Vl,h]
theorem j1k:∀{p r:zo},p.length=r.length->(fits p r=ah ↔ ∀k,k<p.length->p.getD k 0=2\/p.getD k 0=r.getD k 0)
 |[],[],_=>by simp[fits]
 |[],_::_,h=>by simp at h
 |_::_,[],h=>by simp at h
 |t::ts,x::xs,h=>by
  have ih:=j1k (p:=ts) (r:=xs) (by simpa using h);rw[fits,Xe,ih];constructor
  .rintro⟨h1,h2⟩ k hk;cases k with
   |zero=>simpa using h1
   |succ k=>simpa using h2 k (by simpa using hk)
  .intro q;exact⟨by simpa using q 0 (by simp),λk hk=>by simpa using q (k+1) (by simpa using hk)⟩
def Zk(n:Nat):upto 0 n=(aA n).map λ(k:Nat)=>D.int (0+(k:Int)):=rfl
def jfh{m:Nat}(h:m<=6):(1:Int)<=2^m/\(2:Int)^m<=64:=by
 have:m=0\/m=1\/m=2\/m=3\/m=4\/m=5\/m=6:=by omega
 rcases this with e|e|e|e|e|e|e<;>subst e<;>decide
def j3d{p:zo}{k:Nat}(h:k<p.length):atI (p.map D.int) (0+(k:Int))=a8 (.int (p.getD k 0)):=by rw[eP];refine Uw ?_;rw[X4,kh h,kj,kh h];rfl
end
end KL
namespace KV
open PySem
noncomputable def letters:List Nat:=[109,100,107,98,118,113,104,122,99,103,114,110,97,112,120,111,108,115,105,101,102,119,116,121,106,117]
def jcw:("mdkbvqhzcgrnapxolsiefwtyju":aq).cps.toList=letters:=by decide +kernel
noncomputable def lt(n:Int):Nat:=letters.getD n.toNat 0
noncomputable def sL(l:List Nat):aq:=⟨l.toArray⟩
def Jx{l:List Nat}:(sL l).length=l.length:=by simp[sL,mR]
def Mg{l m:List Nat}:sL l++sL m=sL (l++m):=by show(⟨l.toArray++m.toArray⟩:aq)=_;simp[sL]
def Dk:∀l:List Nat,f7 ("":aq) (l.map λc=>(⟨#[c]⟩:aq))=sL l:=by
 intro l;show mS _ _=_;rw[StrLaws.glued_eq_join];induction l with
 |nil=>rfl
 |cons a r ih =>
  cases r with
  |nil=>rfl
  |cons b r =>
   rw[X5,X5,Str.join,<-X5 (f:=λc=>(⟨#[c]⟩:aq)),ih]
   .show(⟨(#[a] ++ #[])++(b::r).toArray⟩:aq)=⟨(a::b::r).toArray⟩
    simp
   .intro z;cases z
def jex{l:List Nat}:(sL l).cps.toList=l:=by simp[sL]
def Do{k n:Nat}:aM ae (a8 (k:Int)) 1 n=aM (a8 ((0:Nat):Int)) (a8 (k:Int)) 1 n:=by
 have e:max (0:Int) (min 0 (n:Int))=0:=by omega
 simp[aM,e]
def Dp{k n:Nat}:aM (a8 (k:Int)) ae 1 n=aM (a8 (k:Int)) (a8 (n:Int)) 1 n:=by
 have e:max (0:Int) (min (n:Int) (n:Int))=n:=by omega
 have e2:¬((n:Int)<0):=by omega
 simp[aM,e,e2]
def j0n{l:List Nat}{a b:Nat}{lo hi:Option Int}(he:aM lo hi 1 (sL l).length=aM (a8 (a:Int)) (a8 (b:Int)) 1 (sL l).length)(hab:a<=b)(hb:b<=l.length):bS (sL l) lo hi=sL ((l.drop a).take (b-a)):=by
 have hb':b<=(sL l).length:=by rw[Jx];exact hb
 have q:=StrLaws.sliced_plain (sL l) hab hb';rw[jex]at q;have e1:=StrLaws.strSliceIndices_plain hab hb';unfold bS;rw[he];by_cases h:((1:Int)==1&&(aM (a8 (a:Int)) (a8 (b:Int)) 1 (sL l).length).length==(sL l).length)=ah
 .rw[if_pos h];rw[e1,Jx,xf,Xj]at h;have:b-a=l.length:=by simpa using h
  have ha:a=0:=by omega
  subst ha;rw[this,f6,bZ]
 .rw[if_neg h,q];rfl
def Ft{l:List Nat}{k:Nat}(h:k<=l.length):bS (sL l) ae (a8 (k:Int))=sL (l.take k):=by rw[j0n (a:=0) (b:=k) Do (Pq _) h];simp
def Fv{l:List Nat}{k:Nat}(h:k<=l.length):bS (sL l) (a8 (k:Int)) ae=sL (l.drop k):=by rw[j0n (a:=k) (b:=l.length) (by rw[Dp,Jx]) h (X3 _),Tq (by rw[cV];omega)]
def Mp {l:List Nat} (h:l.length<=100):fP ("":aq) (l.map λc=>(⟨#[c]⟩:aq))=ah:=by
 unfold fP;rw[dO];have e:∀(r:List Nat)(k:Nat),(r.map λc=>(⟨#[c]⟩:aq)).foldl (λ(x:Nat) (y:aq)=>x+y.length+("":aq).length) k=k+r.length:=by
  intro r;induction r with
  |nil=>intro k;rfl
  |cons a r ih =>intro k;rw[X5,T3,ih,xx];show k+1+0+r.length=_;omega
 show cT _=a9;have:=e l 0;rw[List.foldl_toArray];show cT (du (λ(x:Nat) (y:aq)=>x+y.length+("":aq).length) 0 _)=a9;rw[this];unfold cT;simp;have:=cD;omega
noncomputable def Yu(c:Int):List Nat:=(aA 8).map λ(k:Nat)=>lt (c/(4+5*(k:Int))%26)
noncomputable def Vw(c:Int)(s:Nat):List Nat:=(aA s).map λ(k:Nat)=>lt ((c/32+3*(k:Int)*(k:Int)+(k:Int))%26)
def Zy(c:Int):(Yu c).length=8:=by simp[Yu]
def J2(c:Int)(s:Nat):(Vw c s).length=s:=by simp[Vw]
noncomputable def stN(c:Int)(m:Nat):Nat:=(c/8%(9-(m:Int))).toNat
noncomputable def szN(c:Int):Nat:=(c/4%8).toNat
noncomputable def atN(c:Int):Nat:=(c/512%((szN c:Int)+1)).toNat
noncomputable def wrd(c:Int)(m k:Nat):List Nat :=
 if c%4<2 then(if c%4=0 then(Yu c).take (stN c m+k+1) else(Yu c).drop (8-stN c m-k-1))
 else(Vw c (szN c)).take (atN c)++lt ((c/9+7*(k:Int))%26)::(Vw c (szN c)).drop (atN c)
noncomputable def Ja(c:Int)(m:Nat):List aq:=(aA m).map λ(k:Nat)=>sL (wrd c m k)
def jiy{c:Int}{m:Nat}(h:m<=6):stN c m+m<=8:=by unfold stN;have h1:=Th (c/8) (show(9-(m:Int))≠0 by omega);have h2:=cH (c/8) (show(0:Int)<9-(m:Int)by omega);omega
def jkc(c:Int):atN c<=szN c/\szN c<=7:=by unfold atN;have h1:=Th (c/512) (show((szN c:Int)+1)≠0 by omega);have h2:=cH (c/512) (show(0:Int)<(szN c:Int)+1 by omega);refine⟨by omega,?_⟩;unfold szN;omega
def M5(c:Int)(m:Nat):(Ja c m).length=m:=by simp[Ja]
end KV
open PySem (Str)
open L2
namespace KW
open KL KV PySem
noncomputable def Zt:Sx:=(.seq (.set 2 (.lit (.str "mdkbvqhzcgrnapxolsiefwtyju"))) (.seq (.ife (.cmp .lt (.bin .mod (.var 0) (.lit (.int 4))) (.lit (.int 2))) (.seq (.set 3 (.join "" (.comp [4] (.ix (.var 2) (.bin .mod (.bin .fdiv (.var 0) (.bin .add (.lit (.int 4)) (.bin .mul (.lit (.int 5)) (.var 4)))) (.lit (.int 26)))) (.range (.cons (.lit (.int 8)) .nil)) .nil))) (.seq (.set 5 (.bin .mod (.bin .fdiv (.var 0) (.lit (.int 8))) (.bin .sub (.lit (.int 9)) (.var 1)))) (.seq (.ife (.cmp .eq (.bin .mod (.var 0) (.lit (.int 4))) (.lit (.int 0))) (.seq (.ret (.comp [4] (.sl (.var 3) .nil (.cons (.bin .add (.bin .add (.var 5) (.var 4)) (.lit (.int 1))) .nil)) (.range (.cons (.var 1) .nil)) .nil)) .nop) .nop) (.seq (.ret (.comp [4] (.sl (.var 3) (.cons (.bin .sub (.bin .sub (.bin .sub (.lit (.int 8)) (.var 5)) (.var 4)) (.lit (.int 1))) .nil) .nil) (.range (.cons (.var 1) .nil)) .nil)) .nop)))) .nop) (.seq (.set 6 (.bin .mod (.bin .fdiv (.var 0) (.lit (.int 4))) (.lit (.int 8)))) (.seq (.set 7 (.join "" (.comp [4] (.ix (.var 2) (.bin .mod (.bin .add (.bin .add (.bin .fdiv (.var 0) (.lit (.int 32))) (.bin .mul (.bin .mul (.lit (.int 3)) (.var 4)) (.var 4))) (.var 4)) (.lit (.int 26)))) (.range (.cons (.var 6) .nil)) .nil))) (.seq (.set 8 (.bin .mod (.bin .fdiv (.var 0) (.lit (.int 512))) (.bin .add (.var 6) (.lit (.int 1))))) (.seq (.ret (.comp [4] (.bin .add (.bin .add (.sl (.var 7) .nil (.cons (.var 8) .nil)) (.ix (.var 2) (.bin .mod (.bin .add (.bin .fdiv (.var 0) (.lit (.int 9))) (.bin .mul (.lit (.int 7)) (.var 4))) (.lit (.int 26))))) (.sl (.var 7) (.cons (.var 8) .nil) .nil)) (.range (.cons (.var 1) .nil)) .nil)) .nop))))))
noncomputable def fL_words:Fi:=⟨2,9,Zt,a9⟩
noncomputable def Wr:Sx:=(.seq (.set 3 (.comp [4] (.var 4) (.range (.cons (.blt .len (.cons (.var 0) .nil)) .nil)) (.cons (.cmp .eq (.bin .mod (.bin .fdiv (.var 2) (.bin .shl (.lit (.int 1)) (.var 4))) (.lit (.int 2))) (.lit (.int 1))) .nil))) (.seq (.set 5 (.blt .sum (.cons (.comp [4] (.bin .shl (.ix (.var 0) (.var 4)) (.var 4)) (.seq (.var 3)) .nil) .nil))) (.seq (.set 6 (.blt .sum (.cons (.comp [4,7] (.bin .shl (.var 7) (.var 4)) (.enum (.var 0)) .nil) .nil))) (.seq (.ife (.cmp .eq (.var 1) (.lit (.int 1))) (.seq (.ret (.blt .int (.cons (.cmp .gt (.blt .sum (.cons (.var 0) .nil)) (.bin .mod (.bin .fdiv (.var 2) (.lit (.int 64))) (.blt .len (.cons (.var 0) .nil)))) .nil))) .nop) .nop) (.seq (.ife (.cmp .eq (.var 1) (.lit (.int 2))) (.seq (.set 8 (.bin .mod (.bin .mul (.bin .add (.var 6) (.lit (.int 1))) (.bin .add (.lit (.int 1)) (.bin .mod (.var 2) (.lit (.int 1000003))))) (.lit (.int 2147483629)))) (.seq (.ret (.blt .int (.cons (.cmp .eq (.bin .mod (.bin .fdiv (.var 8) (.lit (.int 32))) (.lit (.int 5))) (.lit (.int 0))) .nil))) .nop)) .nop) (.seq (.ife (.cmp .eq (.var 1) (.lit (.int 3))) (.seq (.set 8 (.bin .mul (.bin .add (.bin .add (.bin .mul (.var 5) (.var 5)) (.bin .mul (.lit (.int 17)) (.var 5))) (.lit (.int 69621))) (.bin .add (.lit (.int 1)) (.bin .mod (.var 2) (.lit (.int 1000003)))))) (.seq (.ret (.bin .mod (.bin .fdiv (.bin .mod (.var 8) (.lit (.int 2147483647))) (.lit (.int 16))) (.lit (.int 2)))) .nop)) .nop) (.seq (.ife (.cmp .eq (.var 1) (.lit (.int 4))) (.seq (.ret (.bin .mod (.bin .add (.blt .sum (.cons (.comp [4] (.ix (.var 0) (.var 4)) (.seq (.var 3)) .nil) .nil)) (.bin .fdiv (.var 2) (.lit (.int 64)))) (.lit (.int 2)))) .nop) .nop) (.seq (.set 8 (.bin .mul (.bin .add (.bin .mul (.var 6) (.var 6)) (.lit (.int 48271))) (.bin .add (.bin .add (.bin .mod (.var 2) (.lit (.int 1000003))) (.var 6)) (.lit (.int 1))))) (.seq (.ret (.bin .mod (.bin .fdiv (.bin .mod (.var 8) (.lit (.int 2147483647))) (.lit (.int 64))) (.lit (.int 2)))) .nop)))))))))
noncomputable def fL_bit:Fi:=⟨3,9,Wr,a9⟩
noncomputable def Qj:Sx:=(.seq (.set 3 (.bin .add (.lit (.int 1)) (.bin .mod (.call "_law_cell" (.cons (.var 0) (.cons (.var 1) .nil))) (.var 2)))) (.seq (.set 4 (.call "_law_words" (.cons (.call "_law_cell" (.cons (.var 0) (.cons (.bin .add (.var 1) (.lit (.int 1))) .nil))) (.cons (.var 3) .nil)))) (.seq (.set 5 (.bin .mod (.bin .fdiv (.call "_law_cell" (.cons (.var 0) (.cons (.var 1) .nil))) (.var 2)) (.lit (.int 5)))) (.seq (.set 6 (.lst .nil)) (.seq (.loop [7] (.range (.cons (.bin .shl (.lit (.int 1)) (.var 3)) .nil)) (.seq (.set 8 (.comp [9] (.bin .mod (.bin .fdiv (.var 7) (.bin .shl (.lit (.int 1)) (.bin .sub (.bin .sub (.var 3) (.var 9)) (.lit (.int 1))))) (.lit (.int 2))) (.range (.cons (.var 3) .nil)) .nil)) (.seq (.app 6 (.call "_law_bit" (.cons (.var 8) (.cons (.var 5) (.cons (.call "_law_cell" (.cons (.var 0) (.cons (.bin .add (.var 1) (.lit (.int 2))) .nil))) .nil))))) .nop))) (.seq (.ret (.tup (.cons (.blt .tuple (.cons (.var 4) .nil)) (.cons (.blt .tuple (.cons (.var 6) .nil)) .nil)))) .nop))))))
noncomputable def fL_question:Fi:=⟨3,10,Qj,a9⟩
section
variable{G:aq->Option D}{T:aq->Option Fi}
def j4h {n:Int} (h:0<=n/\n<26):atI ("mdkbvqhzcgrnapxolsiefwtyju":aq).cps.toList n=a8 (lt n):=by
 obtain⟨k,rfl⟩:∃k:Nat,n=(k:Int):=⟨n.toNat,by omega⟩
 have hk:k<letters.length:=by show k<26;omega
 rw[jcw];refine Uw ?_;unfold lt;rw[kh hk,Xh,kj,kh hk];rfl
def jay:("mdkbvqhzcgrnapxolsiefwtyju":aq).length<=1000000:=by decide +kernel
def j7x {fu n m:Nat} (hT:T "_law_words" = a8 fL_words) {c:Int} (h:¬c%4<2) (hm:m<=10):evP fu G T (n+1) "_law_words" [.int c,.int m]=.fresh ((Ja c m).map D.str):=by
 rw[jo (F:=fL_words) hT rfl];simp only[fL_words,Zt,enter];have ll:=jay;have a:=jkc c;obtain⟨s,hs⟩:∃s:Nat,s=szN c:=⟨_,rfl⟩
 have es:c/4%8=(s:Int):=by rw[hs];unfold szN;omega
 obtain⟨q,hq⟩:∃q:Nat,q=atN c:=⟨_,rfl⟩
 have eq:c/512%((s:Int)+1)=(q:Int):=by rw[hq];unfold atN;have:=Th (c/512) (show((s:Int)+1)≠0 by omega);rw[<-hs];omega
 ext;rw[es,qt (l:=((Vw c s).map λx=>(⟨#[x]⟩:aq)).map D.str) (by rfl) (by rw[vy];omega) ?_ (.inl rfl)];rotate_left
 .rw[Xh,Zk,Vw,Xf,Xf];refine qb λk hk'=>zr (by ext) ?_;have hk:=Xb.mp hk';ext;rw[j4h nofun];ext;simp
 rw[j3b (Mp (by rw[J2];omega)),Dk];have lg:(sL (Vw c s)).length=s:=by rw[Jx,J2]
 ext;rw[eq,qt (l:=(Ja c m).map D.str) (by rfl) (by rw[vy];omega) ?_ (.inl rfl)]
 .ext
 .rw[Xh,Zk,Ja,Xf];refine qb λk hk'=>zr (by ext) ?_;have hk:=Xb.mp hk';ext;rw[j4h nofun];ext;rw[Ft (by rw[J2];omega),Fv (by rw[J2];omega)];have e1:(⟨#[lt ((c/9+7*(0+(k:Int)))%26)]⟩:aq)=sL [lt ((c/9+7*(0+(k:Int)))%26)]:=rfl;have l1:(sL ((Vw c s).take q)).length=q:=by rw[Jx,Pa,J2];omega
  have l2:(sL ((Vw c s).drop q)).length=s-q:=by rw[Jx,cV,J2]
  have l3:(sL [lt ((c/9+7*(0+(k:Int)))%26)]).length=1:=rfl;have l4:(sL ((Vw c s).take q)++sL [lt ((c/9+7*(0+(k:Int)))%26)]).length=q+1:=by rw[Mg,Jx,Xd,Pa,J2,xx,tu];omega
  rw[e1];ext;rw[Mg,Mg];simp only[bK,wrd,h,if_false,<-hs,<-hq,T8,List.singleton_append,eP]
def j3s {fu n m:Nat} (hT:T "_law_words" = a8 fL_words) {c:Int} (hm:1<=m/\m<=6):evP fu G T (n+1) "_law_words" [.int c,.int m]=.fresh ((Ja c m).map D.str):=by
 by_cases h:c%4<2
 .rw[jo (F:=fL_words) hT rfl];simp only[fL_words,Zt,enter];have ll:=jay;ext;rw[qt (l:=((Yu c).map λx=>(⟨#[x]⟩:aq)).map D.str) (by rfl) (by rw[vy];decide) ?_ (.inl rfl)];rotate_left
  .rw[Zk,Yu,Xf,Xf];refine qb λk hk'=>zr (by ext) ?_;have hk:=Xb.mp hk';ext;rw[j4h nofun];ext;simp
  rw[j3b (Mp (by rw[Zy];decide)),Dk];have st:=jiy (c:=c) hm.2;obtain⟨s,hs⟩:∃s:Nat,s=stN c m:=⟨_,rfl⟩
  have es:c/8%(9-(m:Int))=(s:Int):=by rw[hs];unfold stN;have:=Th (c/8) (show(9-(m:Int))≠0 by omega);omega
  have lg:(sL (Yu c)).length=8:=by rw[Jx,Zy]
  by_cases h0:c%4=0
  .ext;rw[es,qt (l:=(Ja c m).map D.str) (by rfl) (by rw[vy];omega) ?_ (.inl rfl)]
   .ext
   .rw[Xh,Zk,Ja,Xf];refine qb λk hk'=>zr (by ext) ?_;have hk:=Xb.mp hk';ext;have e:(s:Int)+(0+(k:Int))+1=((s+k+1:Nat):Int):=by omega
    have hh:wrd c m k=(Yu c).take (stN c m+k+1):=by unfold wrd;rw[if_pos h,if_pos h0]
    rw[e,Ft (by rw[Zy];omega)];simp only[bK,hh,hs]
  .ext;rw[es,qt (l:=(Ja c m).map D.str) (by rfl) (by rw[vy];omega) ?_ (.inl rfl)]
   .ext
   .rw[Xh,Zk,Ja,Xf];refine qb λk hk'=>zr (by ext) ?_;have hk:=Xb.mp hk';ext;have e:8-(s:Int)-(0+(k:Int))-1=((8-s-k-1:Nat):Int):=by omega
    have hh:wrd c m k=(Yu c).drop (8-stN c m-k-1):=by unfold wrd;rw[if_pos h,if_neg h0]
    rw[e,Fv (by rw[Zy];omega)];simp only[bK,hh,hs]
 .exact j7x hT h nofun
theorem j0h:∀{l:zo},(∀x∈l,0<=x/\x<=32)->0<=l.sum/\l.sum<=32*(l.length:Int)
 |[],_=>by simp
 |a::r,h=>by have h1:=h a (xq ..);have h2:=j0h (l:=r) λx hx=>h x (xg _ hx);rw[dS,xx];omega
def p2k{k:Nat}(h:k<=5):0<(2:Int)^k/\(2:Int)^k<=32:=by
 have:k=0\/k=1\/k=2\/k=3\/k=4\/k=5:=by omega
 rcases this with e|e|e|e|e|e<;>subst e<;>decide
noncomputable def Yp(row:zo)(c:Int):List Nat:=(aA row.length).filter λ(k:Nat)=>decide (c/(1*2^(0+(k:Int)).toNat)%2=1)
noncomputable def Uu(row:zo)(c:Int):zo:=(Yp row c).map λ(k:Nat)=>row.getD k 0*2^(0+(k:Int)).toNat
noncomputable def byL(row:zo):zo:=row.zipIdx.map λp=>p.1*2^((p.2:Nat):Int).toNat
def t0k(k:Nat):(0+(k:Int)).toNat=k:=by omega
def j4y{row:zo}(h01:∀x∈row,x=0\/x=1)(k:Nat):row.getD k 0=0\/row.getD k 0=1:=by
 rw[kj];cases h:row[k]? with
 |none=>exact .inl rfl
 |some v=>exact h01 v (Xq h)
def jd2{row:zo}{c:Int}(h01:∀x∈row,x=0\/x=1)(hl:row.length<=6):0<=(Uu row c).sum/\(Uu row c).sum<=192:=by
 have h:=j0h (l:=Uu row c) λx hx=>by
  obtain⟨k,hk,rfl⟩:=X8.mp hx;have hk2:=Xb.mp (Xp.mp hk).1;have p:=p2k (k:=k) nofun
  rw[t0k];rcases j4y h01 k with e|e<;>rw[e]<;>omega
 have l:(Uu row c).length<=6:=by unfold Uu Yp;rw[xf];exact Xg (Te _ _) (by rw[Xj];exact hl)
 omega
def jk8{row:zo}(h01:∀x∈row,x=0\/x=1)(hl:row.length<=6):0<=(byL row).sum/\(byL row).sum<=192:=by
 have h:=j0h (l:=byL row) λx hx=>by
  obtain⟨p,hp,rfl⟩:=X8.mp hx;obtain⟨a,k⟩:=p;have hm:=kE hp;have p:=p2k (k:=k) nofun
  show 0<=a*2^((k:Nat):Int).toNat/\a*2^((k:Nat):Int).toNat<=32;rw[Xh];have:=h01 a (by rw[hm.2.2];exact Xr _);rcases this with e|e<;>rw[e]<;>omega
 have l:(byL row).length<=6:=by unfold byL;rw[xf,dn];exact hl
 omega
def jhx {fu n:Nat} (hT:T "_law_bit" = a8 fL_bit) {row:zo} {kd c:Int} (h01:∀x∈row,x=0\/x=1) (hl:1<=row.length/\row.length<=6):∃b:Int,(b=0\/b=1)/\evP fu G T (n+1) "_law_bit" [.lst (row.map D.int),.int kd,.int c]=.val (.int b):=by
 rw[jo (F:=fL_bit) hT rfl];simp only[fL_bit,Wr,enter];have kb:=jd2 (c:=c) h01 hl.2;have bb:=jk8 h01 hl.2;have sl:(Yp row c).length<=6:=by unfold Yp;exact Xg (Te _ _) (by rw[Xj];exact hl.2)
 have get:∀k:Nat,k∈Yp row c->atI (row.map D.int) (0+(k:Int))=a8 (.int (row.getD k 0)):=λk hk=>j3d (Xb.mp (Xp.mp hk).1);ext;rw[qt (l:=(Yp row c).map λ(k:Nat)=>D.int (0+(k:Int))) (by rfl) (by rw[vy];omega) ?_ (.inl rfl)];rotate_left
 .rw[Xh,Zk,Yp];refine Ze λk hk'=>?_;have hk:=Xb.mp hk';have p:0<(2:Int)^(0+(k:Int)).toNat/\(2:Int)^(0+(k:Int)).toNat<=32:=by rw[t0k];exact p2k nofun
  refine j81 ?_ λ_=>?_
  .ext;simp only[Kd];ext
  .ext
 ext;rw[qt (l:=(Uu row c).map D.int) (by rfl) (by rw[xf];omega) ?_ (.inr (Qi _))];rotate_left
 .rw[Uu,Xf];refine qb λk hk'=>zr (by ext) ?_;have b:=j4y h01 k;have hk:=Xb.mp (Xp.mp hk').1;ext;rw[get k hk'];ext;rfl
 ext;rw[qt (l:=(byL row).map D.int) (by rfl) (by simp only[Jl,xf,dn];omega) ?_ (.inl rfl)];rotate_left
 .rw[byL,Xf,Jl,List.zipIdx_map,Xf];refine qb λq hq=>?_;obtain⟨a,k⟩:=q;have hm:=kE hq;have h1:=h01 a (by rw[hm.2.2];exact Xr _);show Jz _ _ _ _ (D.tup [.int (k:Int),.int a])=_;refine j2r (by ext) ?_;ext;rfl
 ext;generalize (Uu row c).sum=kept at *;generalize (byL row).sum=byr at *;by_cases k1:kd=1
 .refine⟨if decide (c/64%(row.length:Int)<row.sum)=ah then 1 else 0,by split<;>simp,?_⟩;ext;simp only[jdw];ext
 .by_cases k2:kd=2
  .refine⟨if decide ((byr+1)*(1+c%1000003)%2147483629/32%5=0)=ah then 1 else 0,by split<;>simp,?_⟩;ext;simp only[Kd];ext
  .by_cases k3:kd=3
   .refine⟨(kept*kept+17*kept+69621)*(1+c%1000003)%2147483647/16%2,by omega,?_⟩;ext
   .by_cases k4:kd=4
    .refine⟨(((Yp row c).map λ(k:Nat)=>row.getD k 0).sum+c/64)%2,by omega,?_⟩;ext;rw[qt (l:=((Yp row c).map λ(k:Nat)=>row.getD k 0).map D.int) (by rfl) (by rw[xf];omega) ?_ (.inr (Qi _))]
     .ext
     .rw[Xf];refine qb λk hk'=>zr (by ext) ?_;ext;rw[get k hk'];ext;rfl
    .refine⟨(byr*byr+48271)*(c%1000003+byr+1)%2147483647/64%2,by omega,?_⟩;ext
noncomputable def Kg(fu:Nat)(G:aq->Option D)(T:aq->Option Fi)(n:Nat)(row:zo)(kd c:Int):Int:=match evP fu G T (n+1) "_law_bit" [.lst (row.map D.int),.int kd,.int c] with
 |.val (.int b)=>b
 |_=>0
def j20 {fu n:Nat} (hT:T "_law_bit" = a8 fL_bit) {row:zo} {kd c:Int} (h01:∀x∈row,x=0\/x=1) (hl:1<=row.length/\row.length<=6):(Kg fu G T n row kd c=0\/Kg fu G T n row kd c=1)/\evP fu G T (n+1) "_law_bit" [.lst (row.map D.int),.int kd,.int c]=.val (.int (Kg fu G T n row kd c)):=by obtain⟨b,hb,e⟩:=jhx (fu:=fu) (n:=n) (G:=G) hT h01 hl (kd:=kd) (c:=c);unfold Kg;rw[e];exact⟨hb,rfl⟩
def jb4(m:Nat)(z:Int):∀x∈ju 2 m z,x=0\/x=1:=by
 intro x hx;obtain⟨i,hi⟩:=List.mem_iff_getElem?.mp hx;have hl:i<m:=by have:=(X6.mp hi).1;rw[zf]at this;exact this
 rw[Vp 2 hl]at hi;cases hi;omega
noncomputable def Yr(ns:zo)(a most:Nat):Nat:=(1+qx ns a%(most:Int)).toNat
noncomputable def Uj(fu:Nat)(G:aq->Option D)(T:aq->Option Fi)(n:Nat)(ns:zo)(a most:Nat):zo :=
 (aA (2^Yr ns a most)).map λ(k:Nat)=>Kg fu G T n (ju 2 (Yr ns a most) (k:Int)) (qx ns a/(most:Int)%5) (qx ns (a+2))
def Ls{ns:zo}{a most:Nat}(h:1<=most/\most<=6):1<=Yr ns a most/\Yr ns a most<=most:=by unfold Yr;have h1:=Th (qx ns a) (show(most:Int)≠0 by omega);have h2:=cH (qx ns a) (show(0:Int)<most by omega);omega
def je5 {fu n:Nat} (hB:T "_law_bit" = a8 fL_bit) {ns:zo} {a most:Nat} (hm:1<=most/\most<=6):∀x∈Uj fu G T n ns a most,x=0\/x=1:=by intro x hx;obtain⟨k,_,rfl⟩:=X8.mp hx;have mb:=Ls (ns:=ns) (a:=a) hm;exact(j20 hB (jb4 _ _) (by rw[zf];omega)).1
def Ew {fu n:Nat} (hC:T "_law_cell" = a8 fL_cell) (hW:T "_law_words" = a8 fL_words) (hB:T "_law_bit" = a8 fL_bit) (hT:T "_law_question" = a8 fL_question) {ns:zo} {a most:Nat} (ha:a<=50) (hm:1<=most/\most<=6) :
  evP fu G T (n+2) "_law_question" [.lst (ns.map D.int),.int a,.int most]=.val (.tup [.tup ((Ja (qx ns (a+1)) (Yr ns a most)).map D.str),.tup ((Uj fu G T n ns a most).map D.int)]):=by
 rw[jo (F:=fL_question) hT rfl];simp only[fL_question,Qj,enter];have mb:=Ls (ns:=ns) (a:=a) hm;obtain⟨m,em⟩:∃m:Nat,m=Yr ns a most:=⟨_,rfl⟩
 have em2:1+qx ns a%(most:Int)=(m:Int):=by rw[em];unfold Yr;have h1:=Th (qx ns a) (show(most:Int)≠0 by omega);omega
 rw[<-em]at mb;have p2:=jfh (m:=m) nofun
 have pc:((2^m:Nat):Int)=(2:Int)^m:=by simp
 have e3:(1*2^m:Int).toNat=2^m:=by rw[fg,<-pc];exact Xh _
 have c0:evP fu G T (n+1) "_law_cell" [.lst (ns.map D.int),.int a]=.val (.int (qx ns a)):=Yd hC nofun
 have c1:evP fu G T (n+1) "_law_cell" [.lst (ns.map D.int),.int ((a:Int)+1)]=.val (.int (qx ns (a+1))):=Yd hC (k:=a+1) nofun
 have c2:evP fu G T (n+1) "_law_cell" [.lst (ns.map D.int),.int ((a:Int)+2)]=.val (.int (qx ns (a+2))):=Yd hC (k:=a+2) nofun
 have wl:(Ja (qx ns (a+1)) m).length=m:=M5 _ _;ext;rw[c0];ext;rw[em2,c1];ext;erw[j3s hW nofun,c0,Xh];rw[e3];rw[j8w (λi=>[.val (.lst (ns.map D.int)),.val (.int a),.val (.int most),.val (.int m),.own ((Ja (qx ns (a+1)) m).map D.str),.val (.int (qx ns a/(most:Int)%5)),.own (((Uj fu G T n ns a most).take i).map D.int),if i=0 then .un else .val (.int ((i:Int)-1)),if i=0 then .un else .own ((ju 2 m ((i:Int)-1)).map D.int),.un]) (by simp)]
 .ext;rw[vy,Tq (by simp[Uj,<-em]),<-em]
 .intro i d hi;obtain⟨h1,rfl⟩:=j7y hi;have hz:=jb4 m (0+(i:Int));have hlz:=zf 2 m (0+(i:Int));obtain⟨hb,eb⟩:=j20 (fu:=fu) (n:=n) (G:=G) hB hz nofun (kd:=qx ns a/(most:Int)%5) (c:=qx ns (a+2))
  have lt64:2^m<=64:=by omega
  have al:(Uj fu G T n ns a most).length=2^m:=by simp[Uj,<-em]
  have ag:(Uj fu G T n ns a most)[i]?=a8 (Kg fu G T n (ju 2 m (0+(i:Int))) (qx ns a/(most:Int)%5) (qx ns (a+2))):=by unfold Uj;rw[<-em,X4,P0 h1,eP];rfl
  simp only[U3];ext;rw[qt (l:=(ju 2 m (0+(i:Int))).map D.int) (by rfl) (by rw[vy];omega) ?_ (.inl rfl)];rotate_left
  .have ed:ju 2 m (0+(i:Int))=(aA m).map λ(k:Nat)=>(0+(i:Int))/2^(m-k-1)%2:=by
    refine S5 λk=>?_;by_cases hk:k<m
    .rw[Vp 2 hk,X4,P0 hk];rfl
    .rw[Xu (by rw[zf];omega),Xu (by simp;omega)]
   rw[Xh,Zk,ed,Xf];refine qb λk hk'=>zr (by ext) ?_;have hk:=Xb.mp hk';have et:((m:Int)-(0+(k:Int))-1).toNat=m-k-1:=by omega
   have p:=p2k (k:=m-k-1) nofun
   rw[<-et]at p;ext;rw[et,fg];rfl
  ext;rw[c2];ext;rw[j9y,eb];ext;rw[jhz (by simp only[xf,Pa];omega) rfl];ext;rw[su,ag];simp
end
end KW
section
namespace K48
open PySem PySem.Spec PyProof.Rows L2
noncomputable def top(i:Nat):aS:=PySem.Challenge.pw_leastasks_k48_lies_against_none.main.body.getD i (.Pass ⟨0,0,0,0⟩)
noncomputable def Yv:Sx:=(.seq (.expr (.call "refuse_wrong_size" (.cons (.var 0) .nil))) (.seq (.ret (.call "all_choices" (.cons (.bin .mul (.lst (.cons (.glob "ANSWERS") .nil)) (.var 0)) .nil))) .nop))
noncomputable def Rn:Fi:=⟨1,1,Yv,a9⟩
noncomputable def Zh:Sx:=(.seq (.ret (.call "number_of" (.cons (.var 0) (.cons (.blt .len (.cons (.glob "ANSWERS") .nil)) .nil)))) .nop)
noncomputable def Ym:Fi:=⟨1,1,Zh,a9⟩
noncomputable def Z3:Sx:=(.seq (.ret (.call "all_choices" (.cons (.comp [1] (.ite (.cmp .eq (.var 1) (.glob "NOT_TOLD")) (.glob "ANSWERS") (.tup (.cons (.var 1) .nil))) (.seq (.var 0)) .nil) .nil))) .nop)
noncomputable def fP_rows_in:Fi:=⟨1,2,Z3,a9⟩
noncomputable def Y0:Sx:=(.seq (.ret (.call "all_choices" (.cons (.comp [1] (.ite (.cmp .eq (.var 1) (.glob "NOT_TOLD")) (.glob "TELLINGS") (.tup (.cons (.var 1) .nil))) (.seq (.var 0)) .nil) .nil))) .nop)
noncomputable def W2:Fi:=⟨1,2,Y0,a9⟩
noncomputable def Qn:Sx:=(.seq (.ife (.or (.cmp .lt (.var 1) (.lit (.int 0))) (.or (.cmp .ge (.var 1) (.blt .len (.cons (.var 0) .nil))) (.cmp .ne (.ix (.var 0) (.var 1)) (.glob "NOT_TOLD")))) (.seq (.raise "NoAsk" (.fst (.cons (.lit (.str "nothing can be asked at spot ")) (.cons (.var 1) (.cons (.lit (.str " of ")) (.cons (.var 0) .nil)))))) .nop) .nop) (.seq (.ret (.bin .add (.bin .add (.sl (.var 0) .nil (.cons (.var 1) .nil)) (.tup (.cons (.var 2) .nil))) (.sl (.var 0) (.cons (.bin .add (.var 1) (.lit (.int 1))) .nil) .nil))) .nop))
noncomputable def V2:Fi:=⟨3,3,Qn,a9⟩
noncomputable def vp:Sx:=(.seq (.ife (.or (.cmp .lt (.var 0) (.glob "FEWEST_PLACES")) (.cmp .gt (.var 0) (.glob "MOST_PLACES"))) (.seq (.raise "WrongSize" (.fst (.cons (.lit (.str "there are ")) (.cons (.glob "FEWEST_PLACES") (.cons (.lit (.str " to ")) (.cons (.glob "MOST_PLACES") (.cons (.lit (.str " places, not ")) (.cons (.var 0) .nil)))))))) .nop) .nop) .nop)
noncomputable def Q8:Fi:=⟨1,1,vp,a9⟩
noncomputable def J1:Sx:=(.seq (.set 1 (.lst (.cons (.tup .nil) .nil))) (.seq (.loop [2] (.seq (.var 0)) (.seq (.set 3 (.lst .nil)) (.seq (.loop [4] (.seq (.var 1)) (.seq (.ext 3 (.comp [5] (.bin .add (.var 4) (.tup (.cons (.var 5) .nil))) (.seq (.var 2)) .nil)) .nop)) (.seq (.mov 1 3) .nop)))) (.seq (.retV 1) .nop)))
noncomputable def fP_all_choices:Fi:=⟨1,6,J1,a9⟩
noncomputable def V9:Sx:=(.seq (.set 2 (.lit (.int 0))) (.seq (.loop [3] (.seq (.var 0)) (.seq (.set 2 (.bin .add (.bin .mul (.var 2) (.var 1)) (.var 3))) .nop)) (.seq (.retV 2) .nop)))
noncomputable def Ua:Fi:=⟨2,4,V9,a9⟩
noncomputable def Vb:Sx:=(.seq (.ret (.ix (.ix (.var 0) (.lit (.int 1))) (.call "row_number" (.cons (.var 1) .nil)))) .nop)
noncomputable def Uc:Fi:=⟨2,2,Vb,a9⟩
noncomputable def Zg:Sx:=(.seq (.set 2 (.call "counted_in" (.cons (.var 0) (.cons (.var 1) .nil)))) (.seq (.ife (.cmp .eq (.ix (.var 2) (.lit (.int 1))) (.lit (.int 0))) (.seq (.ret (.lit (.int 0))) .nop) .nop) (.seq (.ife (.cmp .eq (.ix (.var 2) (.lit (.int 0))) (.lit (.int 0))) (.seq (.ret (.lit (.int 1))) .nop) .nop) (.seq (.ret (.lit (.non))) .nop))))
noncomputable def Yl:Fi:=⟨2,3,Zg,a9⟩
noncomputable def Zj:Sx:=(.seq (.set 2 (.comp [3] (.call "answer_to" (.cons (.var 0) (.cons (.var 3) .nil))) (.seq (.call "rows_in" (.cons (.var 1) .nil))) .nil)) (.seq (.ret (.tup (.cons (.meth .count (.var 2) (.cons (.lit (.int 0)) .nil)) (.cons (.meth .count (.var 2) (.cons (.lit (.int 1)) .nil)) .nil)))) .nop))
noncomputable def Yo:Fi:=⟨2,4,Zj,a9⟩
noncomputable def Y4:Sx:=(.seq (.ret (.bin .mul (.tup (.cons (.glob "NOT_TOLD") .nil)) (.blt .len (.cons (.ix (.var 0) (.lit (.int 0))) .nil)))) .nop)
noncomputable def W4:Fi:=⟨1,1,Y4,a9⟩
noncomputable def Ry:Sx:=(.seq (.ife (.cmp .notin (.var 1) (.ix (.var 0) (.lit (.int 0)))) (.seq (.raise "NoPlace" (.fst (.cons (.rpr (.var 1)) (.cons (.lit (.str " is no place of the question")) .nil)))) .nop) .nop) (.seq (.ret (.tix (.ix (.var 0) (.lit (.int 0))) (.var 1))) .nop))
noncomputable def j4o:Fi:=⟨2,2,Ry,a9⟩
noncomputable def Qf:Sx:=(.seq (.ret (.bin .add (.call "row_number" (.cons (.bin .mul (.tup (.cons (.lit (.int 1)) .nil)) (.var 0)) .nil)) (.lit (.int 1)))) .nop)
noncomputable def Zq:Fi:=⟨1,1,Qf,a9⟩
noncomputable def Va:Sx:=(.lmk 2 "number_filled_in" (.cons (.call "state_told" (.cons (.var 0) (.cons (.var 1) (.cons (.lst .nil) .nil)))) (.cons (.var 0) (.cons (.var 1) .nil))))
noncomputable def Ub:Fi:=⟨2,3,Va,a9⟩
noncomputable def Zf:Sx:=(.seq (.expr (.call "refuse_wrong_lies" (.cons (.var 0) (.cons (.var 1) .nil)))) (.seq (.set 3 (.bin .mul (.tup (.cons (.lit (.int 0)) .nil)) (.call "count_of_rows" (.cons (.blt .len (.cons (.ix (.var 0) (.lit (.int 0))) .nil)) .nil)))) (.seq (.loop [4,5] (.seq (.var 2)) (.seq (.set 3 (.call "state_behind" (.cons (.var 3) (.cons (.call "spot_of" (.cons (.var 0) (.cons (.var 4) .nil))) (.cons (.var 5) (.cons (.var 0) (.cons (.var 1) .nil))))))) .nop)) (.seq (.retV 3) .nop))))
noncomputable def Yk:Fi:=⟨3,6,Zf,a9⟩
noncomputable def Qo:Sx:=(.seq (.set 5 (.call "rows_of" (.cons (.blt .len (.cons (.ix (.var 3) (.lit (.int 0))) .nil)) .nil))) (.seq (.keep 5) (.seq (.ret (.blt .tuple (.cons (.comp [6,7] (.ite (.cmp .eq (.ix (.var 6) (.var 1)) (.var 2)) (.var 7) (.call "with_another_lie" (.cons (.var 7) (.cons (.var 4) .nil)))) (.zip (.var 5) (.var 0)) .nil) .nil))) .nop)))
noncomputable def V3:Fi:=⟨5,8,Qo,a9⟩
noncomputable def J7:Sx:=(.seq (.ret (.ite (.or (.cmp .eq (.var 0) (.glob "GONE")) (.cmp .eq (.var 0) (.var 1))) (.glob "GONE") (.bin .add (.var 0) (.lit (.int 1))))) .nop)
noncomputable def Qk:Fi:=⟨2,2,J7,a9⟩
noncomputable def Qd:Sx:=(.seq (.ret (.comp [2,3] (.var 2) (.zip (.call "rows_of" (.cons (.blt .len (.cons (.ix (.var 1) (.lit (.int 0))) .nil)) .nil)) (.var 0)) (.cons (.cmp .ne (.var 3) (.glob "GONE")) .nil))) .nop)
noncomputable def Zn:Fi:=⟨2,4,Qd,a9⟩
noncomputable def Zi:Sx:=(.seq (.set 2 (.comp [3] (.call "answer_to" (.cons (.var 1) (.cons (.var 3) .nil))) (.seq (.call "rows_of_state" (.cons (.var 0) (.cons (.var 1) .nil)))) .nil)) (.seq (.ret (.cmp .le (.lset (.var 2)) (.lit (.int 1)))) .nop))
noncomputable def Yn:Fi:=⟨2,4,Zi,a9⟩
noncomputable def Vf:Sx:=(.dx (.fill 1 4 (.call "is_settled" (.cons (.var 1) (.cons (.var 2) .nil))) "best_ask" (.cons (.var 1) (.cons (.var 2) (.cons (.var 3) .nil)))))
noncomputable def Ql:Fi:=⟨4,5,Vf,a9⟩
noncomputable def Bm:Sx:=(.dx (.minc 4 5 (.call "spots_unlike" (.cons (.call "rows_of_state" (.cons (.var 1) (.cons (.var 2) .nil))) .nil)) "greatest_behind" (.cons (.var 1) (.cons (.var 5) (.cons (.var 2) (.cons (.var 3) .nil))))))
noncomputable def W3:Fi:=⟨4,6,Bm,a9⟩
noncomputable def Yg:Sx:=(.dx (.maxc 5 7 (.comp [6] (.call "state_behind" (.cons (.var 1) (.cons (.var 2) (.cons (.var 6) (.cons (.var 3) (.cons (.var 4) .nil)))))) (.seq (.glob "ANSWERS")) .nil) "number_filled_in" (.cons (.var 7) (.cons (.var 3) (.cons (.var 4) .nil)))))
noncomputable def Qv:Fi:=⟨5,8,Yg,a9⟩
noncomputable def Qp:Sx:=(.seq (.ret (.comp [1,2] (.var 1) (.enum (.ix (.var 0) (.lit (.int 0)))) (.cons (.blt .any (.cons (.comp [3] (.cmp .ne (.ix (.var 3) (.var 1)) (.var 2)) (.seq (.var 0)) .nil) .nil)) .nil))) .nop)
noncomputable def V4:Fi:=⟨1,4,Qp,a9⟩
noncomputable def vq:Sx:=(.seq (.ife (.or (.cmp .lt (.var 1) (.glob "FEWEST_LIES")) (.cmp .gt (.var 1) (.glob "MOST_LIES"))) (.seq (.raise "WrongSize" (.fst (.cons (.glob "FEWEST_LIES") (.cons (.lit (.str " to ")) (.cons (.glob "MOST_LIES") (.cons (.lit (.str " answers may be lies, not ")) (.cons (.var 1) .nil))))))) .nop) .nop) (.seq (.ife (.cmp .gt (.blt .len (.cons (.ix (.var 0) (.lit (.int 0))) .nil)) (.glob "MOST_PLACES_WITH_LIES")) (.seq (.raise "WrongSize" (.fst (.cons (.lit (.str "with lies a question has at most ")) (.cons (.glob "MOST_PLACES_WITH_LIES") (.cons (.lit (.str " places")) .nil))))) .nop) .nop) .nop))
noncomputable def Q9:Fi:=⟨2,2,vq,a9⟩
noncomputable def Z4:Sx:=(.seq (.ife (.isN (.var 1)) (.seq (.ret (.bin .mul (.lst (.cons (.lit (.int 1)) .nil)) (.var 0))) .nop) .nop) (.seq (.ife (.or (.cmp .ne (.blt .len (.cons (.var 1) .nil)) (.var 0)) (.not (.call "all_between" (.cons (.var 1) (.cons (.glob "LEAST_PRICE") .nil))))) (.seq (.raise "WrongPrices" (.fst (.cons (.lit (.str "prices are ")) (.cons (.var 0) (.cons (.lit (.str " numbers from ")) (.cons (.glob "LEAST_PRICE") (.cons (.lit (.str " to ")) (.cons (.glob "GREATEST_NUMBER") .nil)))))))) .nop) .nop) (.seq (.ret (.blt .list (.cons (.var 1) .nil))) .nop)))
noncomputable def Vn:Fi:=⟨2,2,Z4,a9⟩
noncomputable def Vt:Sx:=(.seq (.ret (.blt .all (.cons (.comp [2] (.and (.cmp .ge (.var 2) (.var 1)) (.cmp .le (.var 2) (.glob "GREATEST_NUMBER"))) (.seq (.var 0)) .nil) .nil))) .nop)
noncomputable def K5:Fi:=⟨2,3,Vt,a9⟩
noncomputable def Z2:Sx:=(.seq (.ret (.call "least_table" (.cons (.var 0) (.cons (.call "worst_cost_of_ask" (.cons (.var 0) (.cons (.var 1) .nil))) .nil)))) .nop)
noncomputable def Vm:Fi:=⟨2,2,Z2,a9⟩
noncomputable def vo:Sx:=(.seq (.set 2 (.call "prices_told" (.cons (.blt .len (.cons (.ix (.var 0) (.lit (.int 0))) .nil)) (.cons (.var 1) .nil)))) (.seq (.keep 2) (.seq (.retL "worst_cost_of_ask" [2]) .nop)))
noncomputable def Q7:Fi:=⟨2,3,vo,a9⟩
noncomputable def Z5:Sx:=(.seq (.ret (.dvals (.call "least_numbers" (.cons (.call "all_open" (.cons (.var 0) .nil)) (.cons (.var 0) (.cons (.var 1) .nil)))))) .nop)
noncomputable def Vo:Fi:=⟨2,2,Z5,a9⟩
noncomputable def Qe:Sx:=(.seq (.retC "numbers_within" "least_numbers" (.var 0) (.var 1) [2]) .nop)
noncomputable def Zo:Fi:=⟨3,3,Qe,a9⟩
noncomputable def Jm:Sx:=(.nmake 3 4 5 (.seq (.call "parts_in" (.cons (.var 0) .nil))) (.not (.isN (.call "settled_by" (.cons (.var 1) (.cons (.var 4) .nil))))) (.ite (.var 5) (.lit (.int 0)) (.callV 2 (.cons (.var 3) (.cons (.var 4) .nil)))))
noncomputable def Z6:Fi:=⟨3,6,Jm,a9⟩
noncomputable def Qq:Sx:=(.seq (.ret (.minT (.comp [3,4] (.tup (.cons (.callV 2 (.cons (.var 0) (.cons (.var 1) (.cons (.var 3) .nil)))) (.cons (.var 3) .nil))) (.enum (.var 1)) (.cons (.cmp .eq (.var 4) (.glob "NOT_TOLD")) .nil)))) .nop)
noncomputable def V5:Fi:=⟨3,5,Qq,a9⟩
noncomputable def Jo:Sx:=(.seq (.ret (.comp [3] (.dget (.var 0) (.call "told_further" (.cons (.var 1) (.cons (.var 2) (.cons (.var 3) .nil))))) (.seq (.glob "ANSWERS")) .nil)) .nop)
noncomputable def Z7:Fi:=⟨3,4,Jo,a9⟩
noncomputable def U4:Sx:=(.seq (.ife (.cmp .lt (.var 1) (.blt .len (.cons (.var 0) .nil))) (.seq (.ret (.ix (.var 0) (.var 1))) .nop) .nop) (.seq (.set 2 (.bin .add (.lit (.int 70001)) (.bin .mul (.bin .mul (.lit (.int 911)) (.var 1)) (.var 1)))) (.seq (.ife (.cmp .gt (.blt .len (.cons (.var 0) .nil)) (.lit (.int 0))) (.seq (.set 2 (.bin .add (.var 2) (.bin .mul (.bin .mod (.ix (.var 0) (.lit (.int 0))) (.lit (.int 9973))) (.bin .add (.bin .mul (.lit (.int 3)) (.var 1)) (.lit (.int 1)))))) .nop) .nop) (.seq (.retV 2) .nop))))
noncomputable def fL_cell:Fi:=⟨2,3,U4,a9⟩
noncomputable def Zt:Sx:=(.seq (.set 2 (.lit (.str "mdkbvqhzcgrnapxolsiefwtyju"))) (.seq (.ife (.cmp .lt (.bin .mod (.var 0) (.lit (.int 4))) (.lit (.int 2))) (.seq (.set 3 (.join "" (.comp [4] (.ix (.var 2) (.bin .mod (.bin .fdiv (.var 0) (.bin .add (.lit (.int 4)) (.bin .mul (.lit (.int 5)) (.var 4)))) (.lit (.int 26)))) (.range (.cons (.lit (.int 8)) .nil)) .nil))) (.seq (.set 5 (.bin .mod (.bin .fdiv (.var 0) (.lit (.int 8))) (.bin .sub (.lit (.int 9)) (.var 1)))) (.seq (.ife (.cmp .eq (.bin .mod (.var 0) (.lit (.int 4))) (.lit (.int 0))) (.seq (.ret (.comp [4] (.sl (.var 3) .nil (.cons (.bin .add (.bin .add (.var 5) (.var 4)) (.lit (.int 1))) .nil)) (.range (.cons (.var 1) .nil)) .nil)) .nop) .nop) (.seq (.ret (.comp [4] (.sl (.var 3) (.cons (.bin .sub (.bin .sub (.bin .sub (.lit (.int 8)) (.var 5)) (.var 4)) (.lit (.int 1))) .nil) .nil) (.range (.cons (.var 1) .nil)) .nil)) .nop)))) .nop) (.seq (.set 6 (.bin .mod (.bin .fdiv (.var 0) (.lit (.int 4))) (.lit (.int 8)))) (.seq (.set 7 (.join "" (.comp [4] (.ix (.var 2) (.bin .mod (.bin .add (.bin .add (.bin .fdiv (.var 0) (.lit (.int 32))) (.bin .mul (.bin .mul (.lit (.int 3)) (.var 4)) (.var 4))) (.var 4)) (.lit (.int 26)))) (.range (.cons (.var 6) .nil)) .nil))) (.seq (.set 8 (.bin .mod (.bin .fdiv (.var 0) (.lit (.int 512))) (.bin .add (.var 6) (.lit (.int 1))))) (.seq (.ret (.comp [4] (.bin .add (.bin .add (.sl (.var 7) .nil (.cons (.var 8) .nil)) (.ix (.var 2) (.bin .mod (.bin .add (.bin .fdiv (.var 0) (.lit (.int 9))) (.bin .mul (.lit (.int 7)) (.var 4))) (.lit (.int 26))))) (.sl (.var 7) (.cons (.var 8) .nil) .nil)) (.range (.cons (.var 1) .nil)) .nil)) .nop))))))
noncomputable def fL_words:Fi:=⟨2,9,Zt,a9⟩
noncomputable def Wr:Sx:=(.seq (.set 3 (.comp [4] (.var 4) (.range (.cons (.blt .len (.cons (.var 0) .nil)) .nil)) (.cons (.cmp .eq (.bin .mod (.bin .fdiv (.var 2) (.bin .shl (.lit (.int 1)) (.var 4))) (.lit (.int 2))) (.lit (.int 1))) .nil))) (.seq (.set 5 (.blt .sum (.cons (.comp [4] (.bin .shl (.ix (.var 0) (.var 4)) (.var 4)) (.seq (.var 3)) .nil) .nil))) (.seq (.set 6 (.blt .sum (.cons (.comp [4,7] (.bin .shl (.var 7) (.var 4)) (.enum (.var 0)) .nil) .nil))) (.seq (.ife (.cmp .eq (.var 1) (.lit (.int 1))) (.seq (.ret (.blt .int (.cons (.cmp .gt (.blt .sum (.cons (.var 0) .nil)) (.bin .mod (.bin .fdiv (.var 2) (.lit (.int 64))) (.blt .len (.cons (.var 0) .nil)))) .nil))) .nop) .nop) (.seq (.ife (.cmp .eq (.var 1) (.lit (.int 2))) (.seq (.set 8 (.bin .mod (.bin .mul (.bin .add (.var 6) (.lit (.int 1))) (.bin .add (.lit (.int 1)) (.bin .mod (.var 2) (.lit (.int 1000003))))) (.lit (.int 2147483629)))) (.seq (.ret (.blt .int (.cons (.cmp .eq (.bin .mod (.bin .fdiv (.var 8) (.lit (.int 32))) (.lit (.int 5))) (.lit (.int 0))) .nil))) .nop)) .nop) (.seq (.ife (.cmp .eq (.var 1) (.lit (.int 3))) (.seq (.set 8 (.bin .mul (.bin .add (.bin .add (.bin .mul (.var 5) (.var 5)) (.bin .mul (.lit (.int 17)) (.var 5))) (.lit (.int 69621))) (.bin .add (.lit (.int 1)) (.bin .mod (.var 2) (.lit (.int 1000003)))))) (.seq (.ret (.bin .mod (.bin .fdiv (.bin .mod (.var 8) (.lit (.int 2147483647))) (.lit (.int 16))) (.lit (.int 2)))) .nop)) .nop) (.seq (.ife (.cmp .eq (.var 1) (.lit (.int 4))) (.seq (.ret (.bin .mod (.bin .add (.blt .sum (.cons (.comp [4] (.ix (.var 0) (.var 4)) (.seq (.var 3)) .nil) .nil)) (.bin .fdiv (.var 2) (.lit (.int 64)))) (.lit (.int 2)))) .nop) .nop) (.seq (.set 8 (.bin .mul (.bin .add (.bin .mul (.var 6) (.var 6)) (.lit (.int 48271))) (.bin .add (.bin .add (.bin .mod (.var 2) (.lit (.int 1000003))) (.var 6)) (.lit (.int 1))))) (.seq (.ret (.bin .mod (.bin .fdiv (.bin .mod (.var 8) (.lit (.int 2147483647))) (.lit (.int 64))) (.lit (.int 2)))) .nop)))))))))
noncomputable def fL_bit:Fi:=⟨3,9,Wr,a9⟩
noncomputable def Qj:Sx:=(.seq (.set 3 (.bin .add (.lit (.int 1)) (.bin .mod (.call "_law_cell" (.cons (.var 0) (.cons (.var 1) .nil))) (.var 2)))) (.seq (.set 4 (.call "_law_words" (.cons (.call "_law_cell" (.cons (.var 0) (.cons (.bin .add (.var 1) (.lit (.int 1))) .nil))) (.cons (.var 3) .nil)))) (.seq (.set 5 (.bin .mod (.bin .fdiv (.call "_law_cell" (.cons (.var 0) (.cons (.var 1) .nil))) (.var 2)) (.lit (.int 5)))) (.seq (.set 6 (.lst .nil)) (.seq (.loop [7] (.range (.cons (.bin .shl (.lit (.int 1)) (.var 3)) .nil)) (.seq (.set 8 (.comp [9] (.bin .mod (.bin .fdiv (.var 7) (.bin .shl (.lit (.int 1)) (.bin .sub (.bin .sub (.var 3) (.var 9)) (.lit (.int 1))))) (.lit (.int 2))) (.range (.cons (.var 3) .nil)) .nil)) (.seq (.app 6 (.call "_law_bit" (.cons (.var 8) (.cons (.var 5) (.cons (.call "_law_cell" (.cons (.var 0) (.cons (.bin .add (.var 1) (.lit (.int 2))) .nil))) .nil))))) .nop))) (.seq (.ret (.tup (.cons (.blt .tuple (.cons (.var 4) .nil)) (.cons (.blt .tuple (.cons (.var 6) .nil)) .nil)))) .nop))))))
noncomputable def fL_question:Fi:=⟨3,10,Qj,a9⟩
noncomputable def j52:Sx:=(.seq (.set 1 (.call "_law_question" (.cons (.var 0) (.cons (.lit (.int 0)) (.cons (.ix (.lst (.cons (.lit (.int 2)) (.cons (.lit (.int 2)) (.cons (.lit (.int 3)) .nil)))) (.bin .mod (.call "_law_cell" (.cons (.var 0) (.cons (.lit (.int 39)) .nil))) (.lit (.int 3)))) .nil))))) (.seq (.set 2 (.blt .len (.cons (.ix (.var 1) (.lit (.int 0))) .nil))) (.seq (.set 3 (.ix (.callD "worst_table" (.cons (.var 1) .nil)) (.neg (.lit (.int 1))))) (.seq (.set 4 (.lst .nil)) (.seq (.set 5 (.ix (.lst (.cons (.lit (.int 3)) (.cons (.lit (.int 3)) (.cons (.lit (.int 3)) (.cons (.lit (.int 2)) .nil))))) (.var 2))) (.seq (.ife (.and (.cmp .eq (.var 2) (.lit (.int 3))) (.cmp .eq (.bin .mod (.call "_law_cell" (.cons (.var 0) (.cons (.lit (.int 4)) .nil))) (.lit (.int 16))) (.lit (.int 5)))) (.seq (.set 5 (.lit (.int 3))) .nop) .nop) (.seq (.loop [6] (.range (.cons (.var 5) .nil)) (.seq (.app 4 (.dget (.call "lie_table" (.cons (.var 1) (.cons (.var 6) .nil))) (.bin .mul (.tup (.cons (.lit (.int 0)) .nil)) (.bin .shl (.lit (.int 1)) (.var 2))))) .nop)) (.seq (.ife (.cmp .ne (.ix (.var 4) (.lit (.int 0))) (.var 3)) (.seq (.ret (.lit (.bl a9))) .nop) .nop) (.seq (.loop [6] (.range (.cons (.lit (.int 1)) (.cons (.blt .len (.cons (.var 4) .nil)) .nil))) (.seq (.ife (.or (.cmp .lt (.ix (.var 4) (.var 6)) (.ix (.var 4) (.bin .sub (.var 6) (.lit (.int 1))))) (.cmp .gt (.ix (.var 4) (.var 6)) (.bin .mul (.bin .add (.bin .mul (.lit (.int 2)) (.var 6)) (.lit (.int 1))) (.var 3)))) (.seq (.ret (.lit (.bl a9))) .nop) .nop) .nop)) (.seq (.ret (.lit (.bl ah))) .nop))))))))))
noncomputable def j4p:Fi:=⟨1,7,j52,a9⟩
noncomputable def vm:Ex:=(.bin .add (.ix (.var 0) (.var 3)) (.blt .max (.cons (.call "numbers_behind" (.cons (.var 1) (.cons (.var 2) (.cons (.var 3) .nil)))) .nil)))
noncomputable def Q4:Fi:=⟨4,4,.ret vm,ah⟩
noncomputable def Qa:Ex:=(.ix (.call "cheapest_ask" (.cons (.var 1) (.cons (.var 2) (.cons (.var 0) .nil)))) (.lit (.int 0)))
noncomputable def Zm:Fi:=⟨3,3,.ret Qa,ah⟩
noncomputable def tbl:List (aq×Fi):=("rows_of",Rn)::("row_number",Ym)::("rows_in",fP_rows_in)::("parts_in",W2)::("told_further",V2)::("refuse_wrong_size",Q8)::("all_choices",fP_all_choices)::("number_of",Ua)::("answer_to",Uc)::("settled_by",Yl)::("counted_in",Yo)::("all_open",W4)::("spot_of",j4o)::("count_of_rows",Zq)::("lie_table",Ub)::("state_told",Yk)::("state_behind",V3)::("with_another_lie",Qk)::("rows_of_state",Zn)::("is_settled",Yn)::("#number_filled_in",Ql)::("#best_ask",W3)::("#greatest_behind",Qv)::("spots_unlike",V4)::("refuse_wrong_lies",Q9)::("prices_told",Vn)::("all_between",K5)::("worst_table",Vm)::("worst_cost_of_ask",Q7)::("least_table",Vo)::("least_numbers",Zo)::("numbers_within",Z6)::("cheapest_ask",V5)::("numbers_behind",Z7)::("_law_cell",fL_cell)::("_law_words",fL_words)::("_law_bit",fL_bit)::("_law_question",fL_question)::("law",j4p)::("worst_cost_of_ask.<locals>.<lambda>",Q4)::("least_numbers.<locals>.<lambda>",Zm)::[]
noncomputable def T(x:aq):Option Fi:=tbl.lookup x
noncomputable def gs:List (aq×D):=[("FEWEST_PLACES",.int 1),("MOST_PLACES",.int 6),("ANSWERS",.tup [.int 0,.int 1]),("NOT_TOLD",.int 2),("TELLINGS",.tup [.int 0,.int 1,.int 2]),("FEWEST_LIES",.int 0),("MOST_LIES",.int 2),("MOST_PLACES_WITH_LIES",.int 3),("GONE",.int (-1)),("LEAST_PRICE",.int 1),("GREATEST_NUMBER",.int 1000000)]
noncomputable def xs:List (aq×List D):=[]
noncomputable def qs:List aq:=["state_behind","rows_of_state","number_filled_in"]
noncomputable abbrev G:aq->Option D:=Gof gs a9 xs qs
end K48
end
section
open PySem PySem.Spec PyProof.Rows L2
local macro_rules | `(tactic| walk_at "vis")=>`(tactic| first | exact Or.inl rfl | exact Or.inr (Or.inl rfl) | exact Or.inr (Or.inr rfl))
local macro_rules | `(tactic| walk_at "loc")=>`(tactic| first | exact Or.inl rfl | exact Or.inr rfl)
local macro_rules | `(tactic| walk_at "cap")=>`(tactic| repeat (first | exact rfl | refine ⟨_,_,rfl,by rfl,by rfl,by rfl,by rfl,?_⟩))
local macro_rules | `(tactic| walk_at "ts")=>`(tactic| first
 |exact Tr.int|exact Tr.bl|exact Tr.non|exact Tr.str
 |exact Tr.var (by rfl) (by walk_at "vis") (by decide) (by decide)|exact Tr.glob (by rfl) (by decide) (by decide)
 |refine Tr.bin ?_ ?_|refine Tr.neg ?_|refine Tr.cmp (by rfl) ?_ ?_|refine Tr.bcmp (by rfl) ?_ ?_|refine Tr.isN ?_|refine Tr.bisN ?_|refine Tr.isNN ?_|refine Tr.bisNN ?_
 |refine Tr.and ?_ ?_|refine Tr.or ?_ ?_|refine Tr.one ?_|refine Tr.not ?_
 |refine Tr.wand ?_ ?_|refine Tr.wor ?_ ?_|refine Tr.wand1 ?_|refine Tr.wor1 ?_|refine Tr.bw ?_|refine Tr.bnot ?_
 |refine Tr.ite ?_ ?_ ?_|exact Tr.nil|refine Tr.cons (by rfl) ?_ ?_|refine Tr.tup ?_|refine Tr.lst ?_
 |refine Tr.ix (by intro _ _;rfl) ?_ ?_|exact Tr.oN|refine Tr.oS ?_|refine Tr.sl ?_ ?_ ?_
 |refine Tr.callD (by decide) (by rfl) (by decide) (by rfl) (by rfl) ?_|refine Tr.max (by rfl) (by rfl) ?_|refine Tr.max1 (by rfl) (by rfl) ?_
 |refine Tr.call (by rfl) (by decide) (by rfl) (by rfl) ?_
 |refine Tr.callV (by rfl) (by walk_at "vis") (by decide) (by decide) (by rfl) (by rfl) ?_|refine Tr.dget (by intro _ _;rfl) ?_ ?_|refine Tr.dvals (by rfl) (by rfl) (by rfl) (by rfl) (by rfl) ?_|refine Tr.minT (by rfl) (by rfl) (by rfl) ?_
 |refine Tr.tix (by rfl) (by rfl) (by rfl) (by rfl) ?_ ?_|refine Tr.lset (by rfl) (by rfl) (by rfl) (by rfl) (by rfl) ?_|refine Tr.len (by rfl) ?_|refine Tr.all (by rfl) (by rfl) ?_|refine Tr.any (by rfl) (by rfl) ?_|refine Tr.tuple (by rfl) ?_|refine Tr.list (by rfl) ?_
 |refine Tr.sum (by rfl) (by rfl) ?_|refine Tr.intc (by rfl) ?_|refine Tr.join (by rfl) (by rfl) (by rfl) (by rfl) ?_|refine Tr.lset (by rfl) (by rfl) (by rfl) (by rfl) (by rfl) ?_|refine Tr.enum (by rfl) (by rfl) ?_
 |refine Tr.count (by rfl) (by rfl) (by rfl) ?_ ?_
 |refine Tr.isi1 (by decide) (by decide +kernel) (by rfl) (by rfl) (by decide) (by decide) (by rfl) ?_
 |refine Tr.isi2 (by decide) (by decide) (by decide +kernel) (by decide +kernel) (by rfl) (by rfl) (by rfl) (by decide) (by decide) (by decide) (by decide) (by rfl) ?_
 |exact Tr.c0|refine Tr.c1 ?_
 |refine Tr.comp1 (by rfl) (by rfl) (by rfl) (by rfl) (by rfl) (by intro _;rfl) ?_ ?_ ?_
 |refine Tr.comp2 (by rfl) (by decide) (by rfl) (by rfl) (by rfl) (by rfl) (by rfl) (by rfl) (by intro _;rfl) ?_ ?_ ?_
 |refine Tr.seq ?_|refine Tr.range (by rfl) ?_|refine Tr.zip (by rfl) (by rfl) (by rfl) ?_ ?_
 |exact Tr.p0|refine Tr.pC ?_|refine Tr.pR ?_ ?_|refine Tr.pF (by rfl) ?_ ?_|refine Tr.fst ?_
 |refine Tr.bval (by intro _;rfl) ?_
 |refine Ts.nmake (by rfl) (by rfl) (by rfl) (by rfl) (by walk_at "loc") (by walk_at "loc") (by walk_at "loc") (by exact aV rfl) (by exact aV rfl) (by exact aV rfl) (by decide) (by decide) (by decide) (by decide) (by rfl) (by rfl) (by rfl) (by intro _;rfl) ?_ ?_ ?_
 |exact Ts.retL (by decide) (by rfl) (by rfl) (by rfl) (Eq.trans (by assumption) rfl) (by rfl) (by decide +kernel) (by walk_at "cap")
 |refine Ts.retC (by decide) (by rfl) (by rfl) (by rfl) (Eq.trans (by assumption) rfl) (by rfl) (by decide +kernel) (by walk_at "cap") (by rfl) (by decide) (by rfl) (by rfl) (by rfl) (by rfl) ?_ ?_
 |refine Ts.lmk (by rfl) (by walk_at "loc") (by exact aV rfl) (by decide) (by decide) (by rfl) (by decide) (by rfl) (by rfl) (by rfl) (by rfl) ?_
 |refine' Ts.lend (by rfl) (by decide) (by rfl) (by rfl) (by walk_at "loc") (by walk_at "loc") (by exact aV rfl) (by exact aV rfl) (by intro _;rfl) (by rfl) (by rfl) (by rfl) (by walk_at "vis") (by decide) (by decide) (by rfl) (by rfl) ?_ ?_|refine' Ts.lent (by rfl) (by walk_at "loc") (by walk_at "vis") (by exact aV rfl) (by decide) (by decide) (by rfl) (by rfl) (by rfl) ?_ ?_ ?_ ?_ ?_|refine TMt.set (by rfl) (by walk_at "loc") (by rfl) (by exact aV rfl) ?_ ?_|refine TMt.ife ?_ ?_ ?_ ?_|exact TMt.nil|exact TMs.nil|exact TMs.fail|refine TMs.set (by rfl) (by walk_at "loc") (by rfl) (by exact aV rfl) ?_ ?_|refine TMs.ife ?_ ?_ ?_ ?_|exact⟨rfl,rfl,rfl,λ_ _=>rfl⟩
 |exact Ts.nil|refine Ts.fgt ?_|refine Ts.keep ?_|refine Ts.cons ?_ ?_|exact Ts.pass|exact Ts.doc|exact Ts.fail
 |exact Ts.mov (by rfl) (by rfl) (by walk_at "loc") (by exact aV rfl) (by walk_at "vis") (by decide) (by decide)
 |refine Ts.setC1 (by rfl) (by rfl) (by walk_at "loc") (by exact aV rfl) (by rfl) (by rfl) (by rfl) (by rfl) (by rfl) (by intro _;rfl) ?_ ?_ ?_
 |refine Ts.setC2 (by rfl) (by rfl) (by walk_at "loc") (by exact aV rfl) (by rfl) (by decide) (by rfl) (by rfl) (by rfl) (by rfl) (by rfl) (by rfl) (by intro _;rfl) ?_ ?_ ?_
 |refine Ts.set (by rfl) (by walk_at "loc") (by rfl) (by exact aV rfl) ?_
 |exact Ts.retV (by rfl) (by walk_at "vis") (by decide) (by decide)|refine Ts.ret ?_
 |refine Ts.ife ?_ ?_ ?_|refine Ts.for1 (by rfl) (by rfl) (by walk_at "loc") (by exact aV rfl) (by intro _;rfl) ?_ ?_
 |refine Ts.for2 (by rfl) (by decide) (by rfl) (by rfl) (by walk_at "loc") (by walk_at "loc") (by exact aV rfl) (by exact aV rfl) (by intro _;rfl) ?_ ?_
 |refine Ts.app (by rfl) (by walk_at "vis") (by decide) (by decide) (by rfl) (by rfl) (by rfl) (by rfl) ?_
 |refine Ts.ext (by rfl) (by walk_at "vis") (by decide) (by decide) (by rfl) (by rfl) (by rfl) (by rfl) ?_
 |refine Ts.raise (by rfl) (by rfl) (by decide) (by rfl) ?_
 |refine Ts.expr (by rfl) ?_
 |refine MD.fill (by rfl) (by rfl) (by rfl) (by walk_at "vis") (by walk_at "vis") (by walk_at "loc") (by exact aV rfl) (by decide) (by decide) (by decide) (by decide) (by decide) (by decide) (by with_unfolding_all rfl) (by rfl) (by rfl) (by intro _ _;rfl) (by intro _ _;rfl) (by rfl) (by decide) (by rfl) (by rfl) ?_ ?_ ?_
 |refine MD.minc ?_ ⟨by rfl,by rfl,by walk_at "vis",by decide,by decide,by rfl,by rfl,by rfl,by rfl,by intro _;rfl,by rfl,by decide,by decide,by decide,by intro _ _ _ _ _;walk_at "vis",by intro _ _ _ _ _;rfl,by intro _ _ _ _ _;rfl,by intro _ _ _ _ _;rfl,?_⟩ (by rfl) (by rfl) (by intro _ _ _ _ _;rfl) (by intro _ _ _ _ _;rfl) ?_
 |refine MD.maxc ?_ ⟨by rfl,by rfl,by walk_at "vis",by decide,by decide,by rfl,by rfl,by rfl,by rfl,by intro _;rfl,by rfl,by decide,by decide,by decide,by intro _ _ _ _ _;walk_at "vis",by intro _ _ _ _ _;rfl,by intro _ _ _ _ _;rfl,by intro _ _ _ _ _;rfl,?_⟩ (by rfl) (by rfl)
 |refine SetT.cmp (by rfl) (by rfl) (by walk_at "loc") (by exact aV rfl) (by rfl) (by rfl) (by rfl) (by rfl) (by rfl) (by intro _;rfl) ?_ ?_ ?_
 |refine SetT.e (by rfl) (by walk_at "loc") (by rfl) (by exact aV rfl) ?_
 |exact MP.nop|refine MP.keep (by decide) ?_
 |refine MP.setC (by decide) (by rfl) (by rfl) (by walk_at "loc") (by exact aV rfl) (by rfl) (by rfl) (by rfl) (by rfl) (by rfl) (by intro _;rfl) ?_ ?_ ?_ ?_
 |refine MP.set (by decide) (by rfl) (by walk_at "loc") (by rfl) (by exact aV rfl) ?_ ?_
 |refine MP.ret ?_|refine MP.ifRet ?_ ?_ ?_
 |refine MP.ifAll (by rfl) (by rfl) (by decide) (by rfl) (by rfl) (by walk_at "vis") (by decide) (by decide) (by exact⟨_,rfl⟩) (by intro _;rfl) ?_ ?_
 |refine MP.ifRai (by rfl) (by rfl) (by decide) (by rfl) ?_ ?_ ?_
 |refine MP.takeIf (by decide) (by rfl) (by walk_at "vis") (by decide) (by decide) (by exact⟨_,rfl⟩) (by rfl) (by walk_at "loc") (by rfl) (by exact aV rfl) ?_ ?_ ?_
 |refine MP.take (by decide) (by rfl) (by walk_at "vis") (by decide) (by decide) (by exact⟨_,rfl⟩) (by rfl) (by walk_at "loc") (by rfl) (by exact aV rfl) ?_
 |refine MP.takeE (by rfl) (by walk_at "vis") (by decide) (by decide) (by exact⟨_,rfl⟩) (by rfl) ?_
 |refine MP.callS (by decide) (by exact⟨_,_,_,_,rfl,by rfl,by walk_at "vis",by decide,by decide,by rfl,by decide,by rfl,by rfl⟩) (by rfl) (by walk_at "loc") (by rfl) (by exact aV rfl) ?_ ?_
 |refine MP.ifCal (by exact⟨_,_,_,_,rfl,by rfl,by walk_at "vis",by decide,by decide,by rfl,by decide,by rfl,by rfl⟩) ?_ ?_ ?_
 |refine MP.appC (by decide) (by exact⟨_,_,_,_,rfl,by rfl,by walk_at "vis",by decide,by decide,by rfl,by decide,by rfl,by rfl⟩) (by rfl) (by walk_at "vis") (by decide) (by decide) (by rfl) (by rfl) (by rfl) (by rfl) (by rfl) ?_ ?_
 |refine MP.whlA (by rfl) (by walk_at "vis") (by decide) (by decide) (by exact⟨_,rfl⟩) ?_ ?_
 |intro C s H fp pn xe
 |intro C s H fp pn
 |intro pn xe)
local macro_rules | `(tactic| walk_at "bnd")=>`(tactic| (intro _ _ _ _ _ _ us hl; first | (obtain ⟨_,e⟩:=us1 hl; subst e; rfl) | (obtain ⟨_,_,e⟩:=us2 hl; subst e; rfl) | (obtain ⟨_,_,_,e⟩:=us3 hl; subst e; rfl) | (obtain ⟨_,_,_,_,e⟩:=us4 hl; subst e; rfl) | (obtain ⟨_,_,_,_,_,e⟩:=us5 hl; subst e; rfl)))
local macro_rules | `(tactic| walk_at "bnk")=>`(tactic| (intro _ _ _ _ _ _ _ _ _ _ hK td; refine ⟨fun us hl=>?_,fun us hl=>?_,fun us v hl=>?_⟩; (first | (obtain ⟨_,e⟩:=us1 hl; subst e; exact PySem.W.binds_K hK rfl td rfl rfl rfl) | (obtain ⟨_,_,e⟩:=us2 hl; subst e; exact PySem.W.binds_K hK rfl td rfl rfl rfl)); (first | (obtain ⟨_,e⟩:=us1 (Nat.succ.inj hl); subst e; exact PySem.W.binds_K hK rfl td rfl rfl rfl) | (obtain ⟨_,_,e⟩:=us2 (Nat.succ.inj hl); subst e; exact PySem.W.binds_K hK rfl td rfl rfl rfl)); (first | (obtain ⟨_,e⟩:=us1 (Nat.succ.inj hl); subst e; exact PySem.W.binds_K hK rfl td rfl rfl rfl) | (obtain ⟨_,_,e⟩:=us2 (Nat.succ.inj hl); subst e; exact PySem.W.binds_K hK rfl td rfl rfl rfl))))
local macro_rules | `(tactic| walk_at "sc")=>`(tactic| exact ⟨rfl,rfl,rfl,by decide +kernel,rfl,by decide +kernel,by decide +kernel⟩)
local macro_rules | `(tactic| walk_at "lk")=>`(tactic| first | walk_at "sc" | walk_at "bnd" | decide)
local macro_rules | `(tactic| walk_at "scl")=>`(tactic| exact ⟨rfl,rfl,rfl,by decide +kernel,rfl,by decide +kernel,by decide +kernel,by decide +kernel,jd1⟩)
local macro_rules | `(tactic| walk_at "bndl")=>`(tactic| (intro _ _ _ _ us hl; first | (obtain ⟨_,_,e⟩:=us2 hl; subst e; rfl) | (obtain ⟨_,_,_,e⟩:=us3 hl; subst e; rfl)))
namespace K48
section
variable{P:ay}{w:aD}{K:k96}{mg:k99}{base:aE}
def j29:TrT P w K mg base "rows_of" ["many"] (top 12) Yv:=by
 intro f cdv A outer s H E xe;unfold Yv
 repeat' (walk_at "ts")
def Cm:TrT P w K mg base "row_number" ["row"] (top 13) Zh:=by
 intro f cdv A outer s H E xe;unfold Zh
 repeat' (walk_at "ts")
def j2a:TrT P w K mg base "rows_in" ["part","told"] (top 14) Z3:=by
 intro f cdv A outer s H E xe;unfold Z3
 repeat' (walk_at "ts")
def j0c:TrT P w K mg base "parts_in" ["part","told"] (top 15) Y0:=by
 intro f cdv A outer s H E xe;unfold Y0
 repeat' (walk_at "ts")
def Br:TrT P w K mg base "told_further" ["part","spot","answer"] (top 16) Qn:=by
 intro f cdv A outer s H E xe;unfold Qn
 repeat' (walk_at "ts")
def Wb:TrT P w K mg base "refuse_wrong_size" ["many"] (top 17) vp:=by
 intro f cdv A outer s H E xe;unfold vp
 repeat' (walk_at "ts")
def Fo:TrT P w K mg base "all_choices" ["figures_by_spot","chosen","figures","longer","ahead","figure"] (top 18) J1:=by
 intro f cdv A outer s H E xe;unfold J1
 repeat' (walk_at "ts")
def Ep:TrT P w K mg base "number_of" ["figures","base","number","figure"] (top 19) V9:=by
 intro f cdv A outer s H E xe;unfold V9
 repeat' (walk_at "ts")
def Es:TrT P w K mg base "answer_to" ["question","row"] (top 21) Vb:=by
 intro f cdv A outer s H E xe;unfold Vb
 repeat' (walk_at "ts")
def Ck:TrT P w K mg base "settled_by" ["question","part","counted"] (top 22) Zg:=by
 intro f cdv A outer s H E xe;unfold Zg
 repeat' (walk_at "ts")
def Cq:TrT P w K mg base "counted_in" ["question","part","answers","row"] (top 23) Zj:=by
 intro f cdv A outer s H E xe;unfold Zj
 repeat' (walk_at "ts")
def j0e:TrT P w K mg base "all_open" ["question"] (top 24) Y4:=by
 intro f cdv A outer s H E xe;unfold Y4
 repeat' (walk_at "ts")
def j28:TrT P w K mg base "spot_of" ["question","place"] (top 25) Ry:=by
 intro f cdv A outer s H E xe;unfold Ry
 repeat' (walk_at "ts")
def Bd:TrT P w K mg base "count_of_rows" ["many"] (top 26) Qf:=by
 intro f cdv A outer s H E xe;unfold Qf
 repeat' (walk_at "ts")
def Er:TrT P w K mg base "lie_table" ["question","lies","numbers"] (top 32) Va:=by
 intro f cdv A outer s H E xe;unfold Va
 repeat' (walk_at "ts")
def Cj:TrT P w K mg base "state_told" ["question","lies","told","state","place","answer"] (top 33) Zf:=by
 intro f cdv A outer s H E xe;unfold Zf
 repeat' (walk_at "ts")
def Bs:TrT P w K mg base "state_behind" ["state","spot","answer","question","lies","rows","row","number"] (top 34) Qo:=by
 intro f cdv A outer s H E xe;unfold Qo
 repeat' (walk_at "ts")
def Wu:TrT P w K mg base "with_another_lie" ["number","lies"] (top 35) J7:=by
 intro f cdv A outer s H E xe;unfold J7
 repeat' (walk_at "ts")
def Bb:TrT P w K mg base "rows_of_state" ["state","question","row","number"] (top 36) Qd:=by
 intro f cdv A outer s H E xe;unfold Qd
 repeat' (walk_at "ts")
def Cp:TrT P w K mg base "is_settled" ["state","question","answers","row"] (top 37) Zi:=by
 intro f cdv A outer s H E xe;unfold Zi
 repeat' (walk_at "ts")
noncomputable def Vd:Dx:=(.fill 1 4 (.call "is_settled" (.cons (.var 1) (.cons (.var 2) .nil))) "best_ask" (.cons (.var 1) (.cons (.var 2) (.cons (.var 3) .nil))))
def Wv:TrD P w K mg base "number_filled_in" ["numbers","state","question","lies","settled"] (top 38) Vd:=by
 intro f cdv A outer s H E xe;unfold Vd
 repeat' (walk_at "ts")
noncomputable def Bh:Dx:=(.minc 4 5 (.call "spots_unlike" (.cons (.call "rows_of_state" (.cons (.var 1) (.cons (.var 2) .nil))) .nil)) "greatest_behind" (.cons (.var 1) (.cons (.var 5) (.cons (.var 2) (.cons (.var 3) .nil)))))
def j0d:TrD P w K mg base "best_ask" ["numbers","state","question","lies","spots","spot"] (top 39) Bh:=by
 intro f cdv A outer s H E xe;unfold Bh
 repeat' (walk_at "ts")
noncomputable def Y9:Dx:=(.maxc 5 7 (.comp [6] (.call "state_behind" (.cons (.var 1) (.cons (.var 2) (.cons (.var 6) (.cons (.var 3) (.cons (.var 4) .nil)))))) (.seq (.glob "ANSWERS")) .nil) "number_filled_in" (.cons (.var 7) (.cons (.var 3) (.cons (.var 4) .nil))))
def M7:TrD P w K mg base "greatest_behind" ["numbers","state","spot","question","lies","states","answer","behind"] (top 40) Y9:=by
 intro f cdv A outer s H E xe;unfold Y9
 repeat' (walk_at "ts")
def Bt:TrT P w K mg base "spots_unlike" ["rows","spot","number","row"] (top 41) Qp:=by
 intro f cdv A outer s H E xe;unfold Qp
 repeat' (walk_at "ts")
def Wc:TrT P w K mg base "refuse_wrong_lies" ["question","lies"] (top 42) vq:=by
 intro f cdv A outer s H E xe;unfold vq
 repeat' (walk_at "ts")
def Fg:TrT P w K mg base "prices_told" ["many","prices"] (top 46) Z4:=by
 intro f cdv A outer s H E xe;unfold Z4
 repeat' (walk_at "ts")
def Fp:TrT P w K mg base "all_between" ["numbers","least","number"] (top 47) Vt:=by
 intro f cdv A outer s H E xe;unfold Vt
 repeat' (walk_at "ts")
def Ff:TrT P w K mg base "worst_table" ["question","prices"] (top 49) Z2:=by
 intro f cdv A outer s H E xe;unfold Z2
 repeat' (walk_at "ts")
def Wa (hl:Z0 K "worst_cost_of_ask" = Nk (jm (top 50))):TrT P w K mg base "worst_cost_of_ask" ["question","prices","price_at"] (top 50) vo:=by
 intro f cdv A outer s H E xe;unfold vo
 repeat' (walk_at "ts")
def Fj:TrT P w K mg base "least_table" ["question","cost_of_ask"] (top 51) Z5:=by
 intro f cdv A outer s H E xe;unfold Z5
 repeat' (walk_at "ts")
def Bc (hl:Z0 K "least_numbers" = Nk (jm (top 52))):TrT P w K mg base "least_numbers" ["whole_part","question","cost_of_ask"] (top 52) Qe:=by
 intro f cdv A outer s H E xe;unfold Qe
 repeat' (walk_at "ts")
def M8:TrT P w K mg base "numbers_within" ["whole_part","question","number_unsettled","numbers","part","settled"] (top 53) Jm:=by
 intro f cdv A outer s H E xe;unfold Jm
 repeat' (walk_at "ts")
def Bu:TrT P w K mg base "cheapest_ask" ["numbers","part","cost_of_ask","spot","told"] (top 54) Qq:=by
 intro f cdv A outer s H E xe;unfold Qq
 repeat' (walk_at "ts")
def M9:TrT P w K mg base "numbers_behind" ["numbers","part","spot","answer"] (top 55) Jo:=by
 intro f cdv A outer s H E xe;unfold Jo
 repeat' (walk_at "ts")
def j84:TrT P w K mg base "_law_cell" ["_law_script","_law_k","_law_spare"] (top 57) U4:=by
 intro f cdv A outer s H E xe;unfold U4
 repeat' (walk_at "ts")
def j5h:TrT P w K mg base "_law_words" ["_law_cell_here","_law_many","_law_letters","_law_long","_law_k","_law_start","_law_size","_law_stem","_law_at"] (top 58) Zt:=by
 intro f cdv A outer s H E xe;unfold Zt
 repeat' (walk_at "ts")
def jbn:TrT P w K mg base "_law_bit" ["_law_row","_law_kind","_law_cell_here","_law_some","_law_k","_law_kept","_law_by_row","_law_one","_law_mixed"] (top 59) Wr:=by
 intro f cdv A outer s H E xe;unfold Wr
 repeat' (walk_at "ts")
def j0f:TrT P w K mg base "_law_question" ["_law_script","_law_at","_law_most","_law_many","_law_places","_law_kind","_law_answers","_law_number","_law_row","_law_k"] (top 60) Qj:=by
 intro f cdv A outer s H E xe;unfold Qj
 repeat' (walk_at "ts")
def jal:TrT P w K mg base "law" ["_law_script","_law_question_here","_law_many","_law_last","_law_numbers","_law_most","_law_lies"] (top 61) j52:=by
 intro f cdv A outer s H E xe;unfold j52
 repeat' (walk_at "ts")
def Wd:TrL P w K mg base "worst_cost_of_ask" ["price_at","numbers","part","spot"] (lamT (top 50)) vm:=by
 intro a c cl A outer s H;unfold vm
 repeat' (walk_at "ts")
def Be:TrL P w K mg base "least_numbers" ["cost_of_ask","numbers","part"] (lamT (top 52)) Qa:=by
 intro a c cl A outer s H;unfold Qa
 repeat' (walk_at "ts")
end
set_option maxHeartbeats 0 in
def head {l:dP} {w:aD} {K:k96} {h:aE} {mg:k99} {fa:aj} (X:K.In h) (Gn:h.Ns ax mg) (hfa:mg "law" = a8 (.ref fa))
  (h0:Lf K "rows_of" (top 12))
  (h1:Lf K "row_number" (top 13))
  (h2:Lf K "rows_in" (top 14))
  (h3:Lf K "parts_in" (top 15))
  (h4:Lf K "told_further" (top 16))
  (h5:Lf K "refuse_wrong_size" (top 17))
  (h6:Lf K "all_choices" (top 18))
  (h7:Lf K "number_of" (top 19))
  (h8:Lf K "answer_to" (top 21))
  (h9:Lf K "settled_by" (top 22))
  (h10:Lf K "counted_in" (top 23))
  (h11:Lf K "all_open" (top 24))
  (h12:Lf K "spot_of" (top 25))
  (h13:Lf K "count_of_rows" (top 26))
  (h14:Lf K "lie_table" (top 32))
  (h15:Lf K "state_told" (top 33))
  (h16:Lf K "state_behind" (top 34))
  (h17:Lf K "with_another_lie" (top 35))
  (h18:Lf K "rows_of_state" (top 36))
  (h19:Lf K "is_settled" (top 37))
  (h20:Lf K "number_filled_in" (top 38))
  (h21:Lf K "best_ask" (top 39))
  (h22:Lf K "greatest_behind" (top 40))
  (h23:Lf K "spots_unlike" (top 41))
  (h24:Lf K "refuse_wrong_lies" (top 42))
  (h25:Lf K "prices_told" (top 46))
  (h26:Lf K "all_between" (top 47))
  (h27:Lfd K "worst_table" (top 49))
  (h28:Lf K "worst_cost_of_ask" (top 50))
  (h29:Lf K "least_table" (top 51))
  (h30:Lf K "least_numbers" (top 52))
  (h31:Lf K "numbers_within" (top 53))
  (h32:Lf K "cheapest_ask" (top 54))
  (h33:Lf K "numbers_behind" (top 55))
  (h34:Lf K "_law_cell" (top 57))
  (h35:Lf K "_law_words" (top 58))
  (h36:Lf K "_law_bit" (top 59))
  (h37:Lf K "_law_question" (top 60))
  (h38:Lf K "law" (top 61))
  (bz:bOk K=ah) {ts:List aj} (tz:tOk K ts=ah)
  {gt0:gR} {gt1:gR} {gt3:gR} {gt4:gR} {ga2:aj} {ga2n:Nat} {ga2s:Array (Option ai)} {gt5:gR} {gt7:gR} {gt8:gR} {gt9:gR} {ga6:aj} {ga6n:Nat} {ga6s:Array (Option ai)} {gt10:gR} {gt11:gR} {gt12:gR} {gt13:gR} {gt14:gR} {gt15:gR}
  (gn0:bo K ax "FEWEST_PLACES" = a8 (a8 (.int 1 gt0))) (gn1:bo K ax "MOST_PLACES" = a8 (a8 (.int 6 gt1))) (ga2l:K.lookup ga2=a8 ⟨.type "tuple",ae,.seq #[.int 0 gt3,.int 1 gt4] ga2n,ga2s⟩) (gn2:bo K ax "ANSWERS" = a8 (a8 (.ref ga2))) (gn3:bo K ax "NOT_TOLD" = a8 (a8 (.int 2 gt5))) (ga6l:K.lookup ga6=a8 ⟨.type "tuple",ae,.seq #[.int 0 gt7,.int 1 gt8,.int 2 gt9] ga6n,ga6s⟩) (gn4:bo K ax "TELLINGS" = a8 (a8 (.ref ga6))) (gn5:bo K ax "FEWEST_LIES" = a8 (a8 (.int 0 gt10))) (gn6:bo K ax "MOST_LIES" = a8 (a8 (.int 2 gt11))) (gn7:bo K ax "MOST_PLACES_WITH_LIES" = a8 (a8 (.int 3 gt12))) (gn8:bo K ax "GONE" = a8 (a8 (.int (-1) gt13))) (gn9:bo K ax "LEAST_PRICE" = a8 (a8 (.int 1 gt14))) (gn10:bo K ax "GREATEST_NUMBER" = a8 (a8 (.int 1000000 gt15)))
  (exa:Oq K=ah)
  {fu n:Nat} (hlaw:∀ns:zo,ns.length<=63->evP fu G T (n+1) "law" [.lst (ns.map D.int)]=.val (.bl ah)) :
  ∃fd:aL,(∀(s:ao)(v:ai),dJ s fd ⟨[v],[]⟩ [("_law_script",v)])/\∀base:aE,K.In base->base.Ns ax mg->FnOk l.prog w K mg base CX0 (lv (n+1)) fa fd ["_law_script"] (j03 K):=by
 have hL:=h38;obtain⟨f,oc,od,kV,dc,pm,an,cd,ct,sl,a,lk,c,k⟩:=hL;have e:=hfa.symm.trans (Pz X Gn a);cases e;refine⟨PySem.W.fnOf "law" "law" (zx (top 61)) (jm (top 61)) (jb (top 61)) .none kV dc pm an cd ct,λs v=>.of_eq rfl,λbase hKb hNb=>?_⟩;have hT:∀x F,T x=a8 F->LkF l.prog w K mg base x F:=λx F hx=>by
  have all:∀p∈tbl,LkF l.prog w K mg base p.1 p.2:=by
   intro p hp;simp only[tbl,xr,eB,or_false]at hp;rcases hp with rfl|rfl|rfl|rfl|rfl|rfl|rfl|rfl|rfl|rfl|rfl|rfl|rfl|rfl|rfl|rfl|rfl|rfl|rfl|rfl|rfl|rfl|rfl|rfl|rfl|rfl|rfl|rfl|rfl|rfl|rfl|rfl|rfl|rfl|rfl|rfl|rfl|rfl|rfl|rfl|rfl
   .refine lkF (q9 h0 X Gn j29 ["many"] ?_ rfl rfl ?_ ?_) rfl ?_ ?_<;>walk_at "lk"
   .refine lkF (q9 h1 X Gn Cm ["row"] ?_ rfl rfl ?_ ?_) rfl ?_ ?_<;>walk_at "lk"
   .refine lkF (q9 h2 X Gn j2a ["part"] ?_ rfl rfl ?_ ?_) rfl ?_ ?_<;>walk_at "lk"
   .refine lkF (q9 h3 X Gn j0c ["part"] ?_ rfl rfl ?_ ?_) rfl ?_ ?_<;>walk_at "lk"
   .refine lkF (q9 h4 X Gn Br ["part","spot","answer"] ?_ rfl rfl ?_ ?_) rfl ?_ ?_<;>walk_at "lk"
   .refine lkF (q9 h5 X Gn Wb ["many"] ?_ rfl rfl ?_ ?_) rfl ?_ ?_<;>walk_at "lk"
   .refine lkF (q9 h6 X Gn Fo ["figures_by_spot"] ?_ rfl rfl ?_ ?_) rfl ?_ ?_<;>walk_at "lk"
   .refine lkF (q9 h7 X Gn Ep ["figures","base"] ?_ rfl rfl ?_ ?_) rfl ?_ ?_<;>walk_at "lk"
   .refine lkF (q9 h8 X Gn Es ["question","row"] ?_ rfl rfl ?_ ?_) rfl ?_ ?_<;>walk_at "lk"
   .refine lkF (q9 h9 X Gn Ck ["question","part"] ?_ rfl rfl ?_ ?_) rfl ?_ ?_<;>walk_at "lk"
   .refine lkF (q9 h10 X Gn Cq ["question","part"] ?_ rfl rfl ?_ ?_) rfl ?_ ?_<;>walk_at "lk"
   .refine lkF (q9 h11 X Gn j0e ["question"] ?_ rfl rfl ?_ ?_) rfl ?_ ?_<;>walk_at "lk"
   .refine lkF (q9 h12 X Gn j28 ["question","place"] ?_ rfl rfl ?_ ?_) rfl ?_ ?_<;>walk_at "lk"
   .refine lkF (q9 h13 X Gn Bd ["many"] ?_ rfl rfl ?_ ?_) rfl ?_ ?_<;>walk_at "lk"
   .refine lkF (q9 h14 X Gn Er ["question","lies"] ?_ rfl rfl ?_ ?_) rfl ?_ ?_<;>walk_at "lk"
   .refine lkF (q9 h15 X Gn Cj ["question","lies","told"] ?_ rfl rfl ?_ ?_) rfl ?_ ?_<;>walk_at "lk"
   .refine lkF (q9 h16 X Gn Bs ["state","spot","answer","question","lies"] ?_ rfl rfl ?_ ?_) rfl ?_ ?_<;>walk_at "lk"
   .refine lkF (q9 h17 X Gn Wu ["number","lies"] ?_ rfl rfl ?_ ?_) rfl ?_ ?_<;>walk_at "lk"
   .refine lkF (q9 h18 X Gn Bb ["state","question"] ?_ rfl rfl ?_ ?_) rfl ?_ ?_<;>walk_at "lk"
   .refine lkF (q9 h19 X Gn Cp ["state","question"] ?_ rfl rfl ?_ ?_) rfl ?_ ?_<;>walk_at "lk"
   .exact j1d (g:="number_filled_in") (by decide +kernel) h20 X Gn Wv ["numbers","state","question","lies"] (by walk_at "sc") rfl rfl rfl rfl (by decide) (by decide) (by walk_at "bnd")
   .exact j1d (g:="best_ask") (by decide +kernel) h21 X Gn j0d ["numbers","state","question","lies"] (by walk_at "sc") rfl rfl rfl rfl (by decide) (by decide) (by walk_at "bnd")
   .exact j1d (g:="greatest_behind") (by decide +kernel) h22 X Gn M7 ["numbers","state","spot","question","lies"] (by walk_at "sc") rfl rfl rfl rfl (by decide) (by decide) (by walk_at "bnd")
   .refine lkF (q9 h23 X Gn Bt ["rows"] ?_ rfl rfl ?_ ?_) rfl ?_ ?_<;>walk_at "lk"
   .refine lkF (q9 h24 X Gn Wc ["question","lies"] ?_ rfl rfl ?_ ?_) rfl ?_ ?_<;>walk_at "lk"
   .refine lkF (q9 h25 X Gn Fg ["many","prices"] ?_ rfl rfl ?_ ?_) rfl ?_ ?_<;>walk_at "lk"
   .refine lkF (q9 h26 X Gn Fp ["numbers","least"] ?_ rfl rfl ?_ ?_) rfl ?_ ?_<;>walk_at "lk"
   .exact lkF (jg8 h27 X Gn Ff ["question","prices"] (by walk_at "sc") rfl rfl (by decide) (by walk_at "bnk")) rfl (by decide) (by decide)
   .refine lkF (q9 h28 X Gn (Wa (Rh h28)) ["question","prices"] ?_ rfl rfl ?_ ?_) rfl ?_ ?_<;>walk_at "lk"
   .refine lkF (q9 h29 X Gn Fj ["question","cost_of_ask"] ?_ rfl rfl ?_ ?_) rfl ?_ ?_<;>walk_at "lk"
   .refine lkF (q9 h30 X Gn (Bc (Rh h30)) ["whole_part","question","cost_of_ask"] ?_ rfl rfl ?_ ?_) rfl ?_ ?_<;>walk_at "lk"
   .refine lkF (q9 h31 X Gn M8 ["whole_part","question","number_unsettled"] ?_ rfl rfl ?_ ?_) rfl ?_ ?_<;>walk_at "lk"
   .refine lkF (q9 h32 X Gn Bu ["numbers","part","cost_of_ask"] ?_ rfl rfl ?_ ?_) rfl ?_ ?_<;>walk_at "lk"
   .refine lkF (q9 h33 X Gn M9 ["numbers","part","spot"] ?_ rfl rfl ?_ ?_) rfl ?_ ?_<;>walk_at "lk"
   .refine lkF (q9 h34 X Gn j84 ["_law_script","_law_k"] ?_ rfl rfl ?_ ?_) rfl ?_ ?_<;>walk_at "lk"
   .refine lkF (q9 h35 X Gn j5h ["_law_cell_here","_law_many"] ?_ rfl rfl ?_ ?_) rfl ?_ ?_<;>walk_at "lk"
   .refine lkF (q9 h36 X Gn jbn ["_law_row","_law_kind","_law_cell_here"] ?_ rfl rfl ?_ ?_) rfl ?_ ?_<;>walk_at "lk"
   .refine lkF (q9 h37 X Gn j0f ["_law_script","_law_at","_law_most"] ?_ rfl rfl ?_ ?_) rfl ?_ ?_<;>walk_at "lk"
   .refine lkF (q9 h38 X Gn jal ["_law_script"] ?_ rfl rfl ?_ ?_) rfl ?_ ?_<;>walk_at "lk"
   .exact j6q (by decide +kernel) (Rh h28) rfl Wd ["numbers","part","spot"] (by walk_at "scl") rfl rfl rfl rfl (by walk_at "bndl")
   .exact j6q (by decide +kernel) (Rh h30) rfl Be ["numbers","part"] (by walk_at "scl") rfl rfl rfl rfl (by walk_at "bndl")
  exact all (x,F) (lookup_mem hx)
 have bt:=jk9 X Gn bz;have gl:∀x d,gs.lookup x=a8 d->∃u v,mg x=a8 u/\RelV v u/\∀H,Enc K H d v:=by
  intro x d hx;have hm:=lookup_mem hx;simp only[gs,xr,eB,or_false,Prod.mk.injEq]at hm;rcases hm with ⟨e1,e2⟩|⟨e1,e2⟩|⟨e1,e2⟩|⟨e1,e2⟩|⟨e1,e2⟩|⟨e1,e2⟩|⟨e1,e2⟩|⟨e1,e2⟩|⟨e1,e2⟩|⟨e1,e2⟩|⟨e1,e2⟩
  .subst e1 e2;exact⟨.int 1 gt0,.int 1,Pz X Gn gn0,⟨_,rfl⟩,λ_=>rfl⟩
  .subst e1 e2;exact⟨.int 6 gt1,.int 6,Pz X Gn gn1,⟨_,rfl⟩,λ_=>rfl⟩
  .subst e1 e2;exact⟨.ref ga2,.ref ga2,Pz X Gn gn2,rfl,λH=>⟨ga2,[.int 0,.int 1],rfl,.inr ⟨_,_,_,ga2l,rfl,rfl,rfl,(by show 2<=av;decide),(.cons ⟨_,rfl⟩ (.cons ⟨_,rfl⟩ .nil))⟩,⟨_,_,rfl,rfl,⟨_,_,rfl,rfl,rfl⟩⟩⟩⟩
  .subst e1 e2;exact⟨.int 2 gt5,.int 2,Pz X Gn gn3,⟨_,rfl⟩,λ_=>rfl⟩
  .subst e1 e2;exact⟨.ref ga6,.ref ga6,Pz X Gn gn4,rfl,λH=>⟨ga6,[.int 0,.int 1,.int 2],rfl,.inr ⟨_,_,_,ga6l,rfl,rfl,rfl,(by show 3<=av;decide),(.cons ⟨_,rfl⟩ (.cons ⟨_,rfl⟩ (.cons ⟨_,rfl⟩ .nil)))⟩,⟨_,_,rfl,rfl,⟨_,_,rfl,rfl,⟨_,_,rfl,rfl,rfl⟩⟩⟩⟩⟩
  .subst e1 e2;exact⟨.int 0 gt10,.int 0,Pz X Gn gn5,⟨_,rfl⟩,λ_=>rfl⟩
  .subst e1 e2;exact⟨.int 2 gt11,.int 2,Pz X Gn gn6,⟨_,rfl⟩,λ_=>rfl⟩
  .subst e1 e2;exact⟨.int 3 gt12,.int 3,Pz X Gn gn7,⟨_,rfl⟩,λ_=>rfl⟩
  .subst e1 e2;exact⟨.int (-1) gt13,.int (-1),Pz X Gn gn8,⟨_,rfl⟩,λ_=>rfl⟩
  .subst e1 e2;exact⟨.int 1 gt14,.int 1,Pz X Gn gn9,⟨_,rfl⟩,λ_=>rfl⟩
  .subst e1 e2;exact⟨.int 1000000 gt15,.int 1000000,Pz X Gn gn10,⟨_,rfl⟩,λ_=>rfl⟩
 have qn:∀f∈qs,∃fa,mg f=a8 (.ref fa)/\PySem.W.keepIn K (.ref fa)=ah:=by
  intro f hf;simp only[qs,xr,eB,or_false]at hf;rcases hf with rfl|rfl|rfl
  .exact j47 h16 X Gn
  .exact j47 h18 X Gn
  .exact j47 h20 X Gn
 have tb:Tb l.prog w K mg base G:=jip bt gl exa (λp hp=>nomatch hp) (λz=>by cases z) hKb hNb qn (λp hp=>nomatch hp) (jjk tz X Gn);exact jg9 hT tb (F:=j4p) (by rfl) rfl hfa (Wo lk c k) _ (by walk_at "sc") rfl rfl (jal _) hlaw
end K48
end
open PySem (Str sizeLine argBest)
open L2
namespace K48
open KL KW KV
def j4l:T "_law_cell" = a8 KL.fL_cell:=by rfl
def Np:T "all_choices" = a8 KL.fP_all_choices:=by rfl
def jd8:T "rows_in" = a8 KL.fP_rows_in:=by rfl
def jgu:T "_law_bit" = a8 KW.fL_bit:=by rfl
def gN:G "NOT_TOLD" = a8 (.int 2):=by rfl
def gA:G "ANSWERS" = a8 (.tup [.int 0,.int 1]):=by rfl
def gT:G "TELLINGS" = a8 (.tup [.int 0,.int 1,.int 2]):=by rfl
theorem Vp{b:Int}:∀{m i:Nat}{z:Int},i<m->(ju b m z)[i]?=a8 (z/b^(m-1-i)%b)
 |m+1,0,z,_=>by rw[ju,List.getElem?_cons_zero];simp
 |m+1,i+1,z,h=>by rw[ju,eC,Vp nofun];congr 3;congr 1;omega
def j2d {fu n m:Nat} {z b:Int} (hm:m<=6) (hb:b=2\/b=3) (hz:0<=z/\z<b^m):evP fu G T (n+1) "number_of" [.tup ((ju b m z).map .int),.int b]=.val (.int z):=by
 rw[jo (F:=Ua) (by rfl) rfl];simp only[Ua,V9,enter];ext;have z0:z/b^m=0:=eQ hz.1 hz.2;refine Wx (λi ρ=>∃s3,ρ=[.val (.tup ((ju b m z).map .int)),.val (.int b),.val (.int (z/b^(m-i))),s3]) ⟨.un,by rw[lZ,z0]⟩ ?_ ?_
 .rintro i d ρ hi ⟨s3,rfl⟩;obtain⟨v,hv,rfl⟩:=Nq hi;have hlt:i<m:=by have:=(X6.mp hv).1;rw[zf]at this;exact this
  rw[Vp hlt]at hv;cases hv;simp only[U3];ext;refine⟨_,rfl,?_⟩;have e1:m-i=(m-1-i)+1:=by omega
  have e2:m-(i+1)=m-1-i:=by omega
  have e3:z/b^(m-i)*b+z/b^(m-1-i)%b=z/b^(m-(i+1)):=by rw[e1,e2,<-j9u z b nofun,mh];exact Int.mul_ediv_add_emod _ _
  rw[e3];exact⟨_,rfl⟩
 .rintro ρ' ⟨s3,rfl⟩;ext;simp[zf]
def Ib {n m:Nat} {z:Int} (h:1<=m/\m<=6) (hz:0<=z/\z<2^m):evP 1000 G T (n+2) "row_number" [j9 (ju 2 m z)]=.val (.int z):=by
 rw[jo (F:=Ym) (by rfl) rfl];simp only[Ym,Zh,enter];ext;simp only[gA];ext;have e:evP 1000 G T (n+1) "number_of" [j9 (ju 2 m z),.int 2]=.val (.int z):=j2d h.2 (.inl rfl) hz;have e2:(((0+1+1:Nat):Int))=2:=rfl
 first|rw[e]|(rw[e2,e])
 ext
noncomputable def qD(ws:List aq)(a:zo):D:=.tup [.tup (ws.map D.str),.tup (a.map D.int)]
def j4n{p:zo}{k:Nat}(h:k<p.length):atI (p.map D.int) (k:Int)=a8 (.int (p.getD k 0)):=by
 have:=j3d h
 rwa [eP]at this
def Bp {n m k:Nat} {ws:List aq} {a:zo} (hm:1<=m/\m<=6) (ha:a.length=2^m) (hk:k<2^m):evP 1000 G T (n+3) "answer_to" [qD ws a,j9 (ju 2 m (k:Int))]=.val (.int (a.getD k 0)):=by
 rw[jo (F:=Uc) (by rfl) rfl];simp only[Uc,Vb,enter,qD];have pc:((2^m:Nat):Int)=(2:Int)^m:=by simp
 have i1:atI [D.tup (ws.map D.str),.tup (a.map D.int)] 1=a8 (.tup (a.map D.int)):=rfl;ext;erw[i1,Ib (n:=n) hm nofun,j4n nofun]
def jhl{l:List D}{k:Nat}(h:k<=l.length):cutD l ae (a8 (k:Int))=l.take k:=by unfold cutD;rw[HT.sIx_none,HT.sIx_nat,f6,lZ,kR h]
def jhk{l:List D}{k:Nat}(h:k<=l.length):cutD l (a8 (k:Int)) ae=l.drop k:=by unfold cutD;rw[HT.sIx_none,HT.sIx_nat,kR h,Tq (by rw[cV];omega)]
noncomputable def inL(p:zo)(m:Nat):List Nat:=(aA (2^m)).filter λ(k:Nat)=>fits p (ju 2 m (k:Int))
noncomputable def cnt(a p:zo)(m:Nat)(v:Int):Nat:=(inL p m).countP λ(k:Nat)=>a.getD k 0==v
def Nm{p:zo}{m:Nat}(hp:p.length=m)(hp3:∀t∈p,0<=t/\t<3):qy (p.map Vl)=(inL p m).map λ(k:Nat)=>ju 2 m (k:Int):=by rw[V7,<-Mt hp3,hp,<-N8,kI];rfl
def jd7{p:zo}{m:Nat}(hp:p.length=m)(hp3:∀t∈p,0<=t/\t<3):1<=(inL p m).length/\(inL p m).length<=2^m:=by
 have h1:=congrArg dM (Nm hp hp3);rw[V7,U7,xf]at h1;constructor
 .rw[<-h1];exact Nat.one_le_two_pow
 .unfold inL;exact Xg (Te _ _) (by rw[Xj];exact X3 _)
theorem j3n{a:zo}(h01:∀x∈a,x=0\/x=1):∀L:List Nat,(L.countP λ(k:Nat)=>a.getD k 0==0)+(L.countP λ(k:Nat)=>a.getD k 0==1)=L.length
 |[]=>rfl
 |k::L=>by
  have ih:=j3n h01 L;rw[Tn,Tn,xx]
  try dsimp only
  rcases j4y h01 k with e|e
  .rw[e,if_pos (by decide),if_neg (by decide)];omega
  .rw[e,if_neg (by decide),if_pos (by decide)];omega
def j1s {n m:Nat} {ws:List aq} {a p:zo} (hm:1<=m/\m<=6) (ha:a.length=2^m) (hp:p.length=m) (hp3:∀t∈p,0<=t/\t<3):evP 1000 G T (n+4) "counted_in" [qD ws a,j9 p]=.val (.tup [.int (cnt a p m 0),.int (cnt a p m 1)]):=by
 rw[jo (F:=Yo) (by rfl) rfl];simp only[Yo,Zj,enter];have ri:evP 1000 G T (n+3) "rows_in" [j9 p]=.fresh (jn (qy (p.map Vl))):=j2b (n:=n+1) jd8 Np gN gA nofun
 have as1:∀k:Nat,k<2^m->evP 1000 G T (n+3) "answer_to" [qD ws a,j9 (ju 2 m (k:Int))]=.val (.int (a.getD k 0)):=λk hk=>Bp hm ha hk;have l:=jd7 hp hp3;have p2:=jfh hm.2;have pc:((2^m:Nat):Int)=(2:Int)^m:=by simp
 have cn:∀v:Int,(((inL p m).map λ(k:Nat)=>D.int (a.getD k 0)).countP λe=>deq e (.int v))=cnt a p m v:=λv=>by rw[kJ];rfl
 have dp:D.depL ((inL p m).map λ(k:Nat)=>D.int (a.getD k 0))<=90:=by
  have:=D.depL_of (ds:=(inL p m).map λ(k:Nat)=>D.int (a.getD k 0)) (n:=0) λd hd=>by obtain⟨x,_,rfl⟩:=X8.mp hd;simp[D.dep]
  omega
 ext;rw[ri,Nm hp hp3];ext;rw[qt (l:=(inL p m).map λ(k:Nat)=>D.int (a.getD k 0)) (by rfl) (by simp only[jn,xf];omega) ?_ (.inl rfl)];rotate_left
 .rw[jn,Xf];refine qb λk hk'=>zr (by ext) ?_;have hk:=Xb.mp (Xp.mp hk').1;ext;rw[bK,as1 k hk];ext
 ext;rw[j3m dp (by simp[D.dep]),j3m dp (by simp[D.dep]),cn,cn];ext
def j0o {n m:Nat} {ws:List aq} {a p:zo} (hm:1<=m/\m<=6) (ha:a.length=2^m) (hp:p.length=m) (hp3:∀t∈p,0<=t/\t<3):evP 1000 G T (n+5) "settled_by" [qD ws a,j9 p]=.val (if cnt a p m 1=0 then .int 0 else if cnt a p m 0=0 then .int 1 else .non):=by
 rw[jo (F:=Yl) (by rfl) rfl];simp only[Yl,Zg,enter];have i0:∀x y:D,atI [x,y] 0=a8 x:=λ_ _=>rfl;have i1:∀x y:D,atI [x,y] 1=a8 y:=λ_ _=>rfl;have c:=j1s (n:=n) (ws:=ws) hm ha hp hp3;ext;rw[c];ext;rw[i1];by_cases h1:cnt a p m 1=0
 .ext;rw[if_pos h1]
 .rw[if_neg h1];ext;rw[i0];by_cases h0:cnt a p m 0=0
  .ext;rw[if_pos h0]
  .ext;rw[if_neg h0]
noncomputable def j40(c0 c1:Nat):D:=if c1=0 then .int 0 else if c0=0 then .int 1 else .non
def j5m {n m:Nat} {ws:List aq} {a p:zo} (hm:1<=m/\m<=6) (ha:a.length=2^m) (hp:p.length=m) (hp3:∀t∈p,0<=t/\t<3):evP 1000 G T (n+5) "settled_by" [.tup [.tup (ws.map D.str),.tup (a.map D.int)],j9 p]=.val (j40 (cnt a p m 0) (cnt a p m 1)):=j0o hm ha hp hp3
def jlo{m:Nat}(h:m<=6):1<=3^m/\3^m<=729:=by
 have:m=0\/m=1\/m=2\/m=3\/m=4\/m=5\/m=6:=by omega
 rcases this with e|e|e|e|e|e|e<;>subst e<;>decide
def Iu(p:zo):Jl (p.map D.int)=(aA p.length).map λ(s:Nat)=>D.tup [.int (s:Int),.int (p.getD s 0)]:=by
 refine S5 λi=>?_;rw[Iv,X4,X4];by_cases h:i<p.length
 .rw[P0 h,kh h];simp[h]
 .rw[Xu nofun,Xu (by simp;omega)];rfl
noncomputable def stD(a p:zo)(m:Nat):D:=j40 (cnt a p m 0) (cnt a p m 1)
def Kz {n s:Nat} {p:zo} {v:Int} (hl:p.length<=6) (hs:s<p.length) (h2:p.getD s 0=2):evP 1000 G T (n+1) "told_further" [j9 p,.int s,.int v]=.val (j9 (p.set s v)):=by
 rw[jo (F:=V2) (by rfl) rfl];simp only[V2,Qn,enter];have gi:=j4n hs;rw[h2]at gi;have lp:(p.map D.int).length=p.length:=xf ..;have w1:¬(HT.sIx (p.map D.int).length 0 ae=0/\HT.sIx (p.map D.int).length (p.map D.int).length (a8 (s:Int))=(p.map D.int).length):=by rw[HT.sIx_nat,lp];omega
 have e1:(s:Int)+1=((s+1:Nat):Int):=by omega
 have w2:¬(HT.sIx (p.map D.int).length 0 (a8 ((s+1:Nat):Int))=0/\HT.sIx (p.map D.int).length (p.map D.int).length ae=(p.map D.int).length):=by rw[HT.sIx_nat,lp];omega
 ext;rw[gi];ext;simp only[gN];ext;rw[j5k w1,e1,j5k w2,jhl nofun,jhk nofun];ext;rw[j9,List.set_eq_take_append_cons_drop,if_pos hs];simp
def jdu{a p:zo}{m:Nat}(h01:∀x∈a,x=0\/x=1)(hp:p.length=m)(hp3:∀t∈p,0<=t/\t<3):cnt a p m 0+cnt a p m 1=2^(p.countP λt=>t==2):=by have h:=j3n h01 (inL p m);have h1:=congrArg dM (Nm hp hp3);rw[V7,U7,xf]at h1;unfold cnt;omega
noncomputable def ql(p:zo)(m:Nat):List Nat:=(aA m).filter λ(k:Nat)=>decide (p.getD k 0=2)
def j8p:∀(p:zo),(ql p p.length).length=p.countP λt=>t==2:=by
 intro p;unfold ql;rw[<-List.countP_eq_length_filter];have:∀(p:zo),(aA p.length).countP (λ(k:Nat)=>decide (p.getD k 0=2))=p.countP λt=>t==2:=by
  intro p;induction p with
  |nil=>rfl
  |cons t ts ih =>
   rw[xx,cP,Tn,kJ,Tn,<-ih];congr 1
   try simp only[fv]
   try (by_cases h:t=2<;>simp[h])
 exact this p
noncomputable def Q6(t:Int):zo:=if t=2 then[0,1,2] else[t]
def j0z {n:Nat} {p:zo} (hp:p.length<=6):evP 1000 G T (n+2) "parts_in" [j9 p]=.fresh (jn (qy (p.map Q6))):=by
 rw[jo (F:=W2) (by rfl) rfl];simp only[W2,Y0,enter];ext;rw[qt (l:=jn (p.map Q6)) (by rfl) ?_ ?_ (.inl rfl)]
 .ext;rw[Uh Np (λf hf=>by obtain⟨t,_,rfl⟩:=X8.mp hf;unfold Q6;split<;>simp) (by rw[xf];exact hp)];ext
 .rw[xf];omega
 .rw[jn,Xf];refine qb λt _=>zr (by ext) ?_;by_cases h:t=2
  .ext;simp only[gN];ext;simp only[gT];ext;simp[Q6,h]
  .ext;simp only[gN];ext;simp[Q6,h]
theorem Ra:∀l:zo,Jd (l.map D.int)=ah
 |[]=>rfl
 |_::l=>by rw[X5,Jd,Ra l];rfl
def Nh(ks:List zo)(ns:zo):noFn (.dct ks (ns.map D.int))=ah:=by rw[noFn,Ra]
def j16(l:zo):noFn (.tup (l.map D.int))=ah:=by rw[noFn,Ra]
def at0(a b:D):atI [a,b] 0=a8 a:=rfl
noncomputable def qg:zo->Int
 |[]=>0
 |d::ds=>d*3^ds.length+qg ds
theorem Yw:∀{p:zo},(∀t∈p,0<=t/\t<3)->0<=qg p/\qg p<3^p.length
 |[],_=>⟨by decide,by decide⟩
 |d::ds,h=>by
  obtain⟨h1,h2⟩:=Yw (p:=ds) λt ht=>h t (xg _ ht);have hd:=h d xq;have hp:(0:Int)<3^ds.length:=d6 (by decide);rw[qg,xx,iP];have:d=0\/d=1\/d=2:=by omega
  rcases this with e|e|e<;>subst e<;>exact⟨by omega,by omega⟩
theorem j2q:∀{p:zo}{s:Nat}{c:Int},s<p.length->qg (p.set s c)=qg p+(c-p.getD s 0)*3^(p.length-1-s)
 |d::ds,0,c,_=>by rw[Xy,qg,qg,xx,fv,show ds.length+1-1-0=ds.length by omega,Int.sub_mul];omega
 |d::ds,s+1,c,h=>by have:=j2q (p:=ds) (s:=s) (c:=c) (by simpa using h);rw[Xz,qg,qg,T5,xx,jD,this,show ds.length+1-1-(s+1)=ds.length-1-s by omega];omega
noncomputable def opB(a:zo)(m:Nat)(p:zo):Bool:=(stD a p m).isNon
def Lh{a p:zo}{m:Nat}(h01:∀x∈a,x=0\/x=1)(hp:p.length=m)(hp3:∀t∈p,0<=t/\t<3)(h:opB a m p=ah):ql p m≠[]:=λe=>by
 subst hp;have o:=j8p p;rw[e]at o;have c:=jdu (a:=a) h01 rfl hp3;rw[<-o]at c;unfold opB stD j40 at h;have c:cnt a p p.length 0+cnt a p p.length 1=1:=c;split at h
 .cases h
 .split at h
  .cases h
  .omega
noncomputable def PK(p:zo):List zo:=J6 (p.map Q6)
def Wl{t:Int}{p q:zo}:q∈PK (t::p) ↔ ∃x∈Q6 t,∃r∈PK p,q=x::r:=by
 unfold PK;rw[X5,J6,List.mem_flatMap];constructor
 .rintro⟨x,hx,h⟩;obtain⟨r,hr,e⟩:=X8.mp h;exact⟨x,hx,r,hr,e.symm⟩
 .rintro⟨x,hx,r,hr,e⟩;exact⟨x,hx,X8.mpr ⟨r,hr,e.symm⟩⟩
def j3f{t x:Int}(h:x∈Q6 t):(t=2/\(x=0\/x=1\/x=2))\/(t≠2/\x=t):=by
 unfold Q6 at h;split at h
 .rename_i e;simp only[xr,eB,or_false]at h;exact .inl ⟨e,h⟩
 .rename_i e;exact .inr ⟨e,xm.mp h⟩
theorem j4a:∀{p q:zo},(∀t∈p,0<=t/\t<3)->q∈PK p->q.length=p.length/\∀t∈q,0<=t/\t<3
 |[],q,_,h=>by have e:q=[]:=xm.mp h;rw[e];exact⟨rfl,λt ht=>nomatch ht⟩
 |t::p,q,h3,h=>by
  obtain⟨x,hx,r,hr,e⟩:=Wl.mp h;obtain⟨h1,h2⟩:=j4a (λt ht=>h3 t (xg _ ht)) hr;have ht:=h3 t xq;subst e;refine⟨by rw[xx,xx,h1],λy hy=>?_⟩;rcases xr.mp hy with q|q
  .subst q;rcases j3f hx with ⟨_,z⟩|⟨_,z⟩<;>omega
  .exact h2 y q
theorem j61:∀{p q:zo}{s:Nat}{c:Int},q∈PK p->q.getD s 0=2->(c=0\/c=1)->q.set s c∈PK p
 |[],q,s,c,h,h2,_=>by have e:q=[]:=xm.mp h;rw[e]at h2;simp at h2
 |t::p,q,s,c,h,h2,hc=>by
  obtain⟨x,hx,r,hr,e⟩:=Wl.mp h;subst e;cases s with
  |zero =>
   rw[fv]at h2;rw[Xy];refine Wl.mpr ⟨c,?_,r,hr,rfl⟩;rcases j3f hx with ⟨z,_⟩|⟨z,z2⟩
   .rw[z];unfold Q6;rw[if_pos rfl];rcases hc with q|q<;>rw[q]<;>simp
   .exact absurd (z2▸h2) z
  |succ s =>rw[jD]at h2;rw[Xz];exact Wl.mpr ⟨x,hx,_,j61 hr h2 hc,rfl⟩
theorem Mj:∀{p:zo},(∀t∈p,0<=t/\t<3)->(PK p).Pairwise λx y=>qg x<qg y
 |[],_=>List.pairwise_singleton _ _
 |t::p,h3=>by
  have h3':∀t∈p,0<=t/\t<3:=λt ht=>h3 t (xg _ ht);have ih:=Mj h3';have bd:∀r∈PK p,0<=qg r/\qg r<3^p.length/\r.length=p.length:=λr hr=>by obtain⟨h1,h2⟩:=j4a h3' hr;obtain⟨b1,b2⟩:=Yw h2;rw[h1]at b2;exact⟨b1,b2,h1⟩
  have one:∀c:Int,((PK p).map (c :: ·)).Pairwise λx y=>qg x<qg y:=λc=>by rw[List.pairwise_map];refine ih.imp_of_mem λ{x y} hx hy h=>?_;rw[qg,qg,(bd x hx).2.2,(bd y hy).2.2];omega
  have two:∀{c d:Int},c<d->∀x∈(PK p).map (c :: ·),∀y∈(PK p).map (d :: ·),qg x<qg y:=λ{c d} hcd x hx y hy=>by
   obtain⟨r,hr,rfl⟩:=X8.mp hx;obtain⟨r',hr',rfl⟩:=X8.mp hy;obtain⟨b1,b2,b3⟩:=bd r hr;obtain⟨d1,d2,d3⟩:=bd r' hr';show c*3^r.length+qg r<d*3^r'.length+qg r';rw[b3,d3];have:c*3^p.length+3^p.length<=d*3^p.length:=by have h:=gy (show c+1<=d by omega) (show(0:Int)<=3^p.length by exact iR (d6 (by decide)));rw[Int.add_mul,fg]at h;exact h
   omega
  by_cases e:t=2
  .have ek:PK (t::p)=(PK p).map (0 :: ·)++((PK p).map (1 :: ·)++(PK p).map (2 :: ·)):=by unfold PK;rw[X5,J6,e];simp[Q6]
   rw[ek];refine List.pairwise_append.mpr ⟨one 0,List.pairwise_append.mpr ⟨one 1,one 2,two (by decide)⟩,λx hx y hy=>?_⟩;rcases Xw.mp hy with q|q
   .exact two (by decide) x hx y q
   .exact two (by decide) x hx y q
  .have ek:PK (t::p)=(PK p).map (t :: ·):=by unfold PK;rw[X5,J6];simp[Q6,e]
   rw[ek];exact one t
def j8l{p:zo}(h3:∀t∈p,0<=t/\t<3):(PK p).Nodup:=(Mj h3).imp λh e=>by rw[e]at h;omega
def j8m{p r:zo}{i:Nat}(h3:∀t∈p,0<=t/\t<3)(hi:i<(PK p).length)(hr:r∈PK p)(hv:qg r<qg (PK p)[i]):r∈(PK p).take i:=by
 obtain⟨j,hj,rfl⟩:=T6.mp hr;have hs:=List.pairwise_iff_getElem.mp (Mj h3);have:j<i:=by
  rcases eN j i with q|q
  .exact q
  .rcases Nat.eq_or_lt_of_le q with q|q
   .subst q;omega
   .have:=hs i j hi hj q;omega
 exact T6.mpr ⟨j,by rw[Pa];omega,List.getElem_take⟩
theorem j1o{f:zo->D}:∀{ks:List zo} {q:zo},q∈ks->zp ks (ks.map f) q=a8 (f q)
 |k::ks,q,h=>by
  rw[X5,zp];by_cases e:k=q
  .rw[if_pos e,e]
  .rw[if_neg e];exact j1o ((xr.mp h).resolve_left λz=>e z.symm)
theorem j62:∀{p:zo},(PK p).length<=3^p.length
 |[]=>X3 _
 |t::p=>by
  have ih:=j62 (p:=p);by_cases e:t=2
  .have ek:PK (t::p)=(PK p).map (0 :: ·)++((PK p).map (1 :: ·)++(PK p).map (2 :: ·)):=by unfold PK;rw[X5,J6,e];simp[Q6]
   rw[ek,Xd,Xd,xf,xf,xf,xx,cS];omega
  .have ek:PK (t::p)=(PK p).map (t :: ·):=by unfold PK;rw[X5,J6];simp[Q6,e]
   rw[ek,xf,xx,cS];omega
def j6f{f1 f2:En->Option D}{A B C:D}{L:List zo}{W:zo->Int}{op:zo->Bool}(hm:L.length<=1000000)(nd:L.Nodup)
  (h1:∀(q:zo)(s5:Sv),q∈L->f1 [.val A,.val B,.val C,.un,.val (.tup (q.map D.int)),s5]=a8 (.bl (!op q)))
  (h2:∀(i:Nat)(hi:i<L.length),f2 [.val A,.val B,.val C,.val (.dct (L.take i) (((L.take i).map W).map D.int)),.val (.tup (L[i].map D.int)),.val (.bl (!op L[i]))]=a8 (.int (W L[i]))) :
  ∀(r i:Nat)(s4 s5:Sv),i+r=L.length->Vz f1 f2 3 4 5 (jn (L.drop i)) [.val A,.val B,.val C,.un,s4,s5] (L.take i) ((L.take i).map W)=a8 (L,L.map W):=by
 intro r;induction r with
 |zero =>intro i s4 s5 e;rw[m9]at e;rw[List.drop_of_length_le nofun,Tq nofun];rfl
 |succ r ih =>
  intro i s4 s5 e;have hi:i<L.length:=by omega
  have ed:L.drop i=L[i]::L.drop (i+1):=cq hi;have et:L.take (i+1)=L.take i++[L[i]]:=by rw[su,kh hi];rfl
  have nc:(L.take i).contains L[i]=a9:=by
   have nd:=nd;rw[<-List.take_append_drop i L,ed]at nd;have:=(List.nodup_append.mp nd).2.2;cases z:(L.take i).contains L[i] with
   |false=>rfl
   |true=>exact absurd rfl (this _ (by simpa using z) _ xq)
  have ll:(L.take i).length<av:=lt_size (by rw[Pa];omega);have g:=ih (i+1) (.val (.tup (L[i].map D.int))) (.val (.bl (!op L[i]))) nofun
  rw[et,Xo,X5,de]at g;rw[ed,jn,X5,<-jn,Vz];simp only[j9,zu,Xy,Xz,h1 _ _ (Xr hi),h2 i hi];rw[if_pos ⟨nc,ll⟩];exact g
def j23 {n m:Nat} {ws:List aq} {a:zo} (hm:1<=m/\m<=6) (hw:ws.length=m):evP 1000 G T (n+1) "all_open" [qD ws a]=.val (j9 (ak m 2)):=by
 rw[jo (F:=W4) (by rfl) rfl];simp only[W4,Y4,enter,qD];ext;simp only[gN];ext;rw[at0];ext;rw[hw]
 first|rfl|simp[j9]
noncomputable def rsS(k:Nat)(c:List (List Nat))(s:Nat):List (List Nat):=c++(c.filter λS=>decide (S.length<k)).map (· ++ [s])
noncomputable def rsC(k:Nat)(os:List Nat):List (List Nat):=os.foldl (rsS k) [[]]
noncomputable def rsL(k:Nat)(os:List Nat):List (List Nat):=(rsC k os).drop 1
def jf0{k s:Nat}{c:List (List Nat)}{S:List Nat}(h:S∈rsS k c s):S∈c\/∃R∈c,R.length<k/\S=R++[s]:=by
 rcases Xw.mp h with h|h
 .exact .inl h
 .obtain⟨R,hR,e⟩:=X8.mp h;obtain⟨h1,h2⟩:=Xp.mp hR;exact .inr ⟨R,h1,of_decide_eq_true h2,e.symm⟩
theorem j2y{k:Nat}:∀{os:List Nat}{c:List (List Nat)},(∃r,c=[]::r/\∀S∈r,S≠[])->∃r,os.foldl (rsS k) c=[]::r/\∀S∈r,S≠[]
 |[],c,h=>h
 |s::os,c,⟨r,e,h⟩=>by
  refine j2y (os:=os) (c:=rsS k c s) ⟨r++(c.filter λS=>decide (S.length<k)).map (· ++ [s]),by rw[e];rfl,λS hS=>?_⟩;rcases Xw.mp hS with q|q
  .exact h S q
  .obtain⟨R,_,e⟩:=X8.mp q;rw[<-e];simp
theorem j5s{k:Nat}:∀{os pre:List Nat}{c:List (List Nat)},(∀S∈c,S.Sublist pre/\S.length<=k)->∀S∈os.foldl (rsS k) c,S.Sublist (pre++os)/\S.length<=k
 |[],pre,c,h,S,hS=>by rw[Xn];exact h S hS
 |s::os,pre,c,h,S,hS=>by
  have:=j5s (os:=os) (pre:=pre++[s]) (c:=rsS k c s) (λR hR=>by
   rcases jf0 hR with q|⟨R',h1,h2,e⟩
   .exact⟨(h R q).1.trans (List.sublist_append_left ..),(h R q).2⟩
   .rw[e];exact⟨(h R' h1).1.append (d5 _),by rw[Xd];exact h2⟩) S hS
  rwa [T8]at this
def N7{k:Nat}{os:List Nat}:rsC k os=[]::rsL k os/\∀S∈rsL k os,S≠[]:=by obtain⟨r,e,h⟩:=j2y (k:=k) (os:=os) (c:=[[]]) ⟨[],rfl,λS hS=>nomatch hS⟩;have e':rsC k os=[]::r:=e;unfold rsL;rw[e'];exact⟨rfl,h⟩
def jf2{k:Nat}{os S:List Nat}(h:S∈rsC k os):S.Sublist os/\S.length<=k :=
 j5s (k:=k) (os:=os) (pre:=[]) (c:=[[]]) (λS hS=>by rw[xm.mp hS];exact⟨d5 _,Pq _⟩) S h
def Mi{k:Nat}{os S:List Nat}(h:S∈rsL k os):S.Sublist os/\S.length<=k/\S≠[]:=by obtain⟨e,h2⟩:=N7 (k:=k) (os:=os);have:=jf2 (show S∈rsC k os by rw[e];exact xg _ h);exact⟨this.1,this.2,h2 S h⟩
def jf1{k:Nat}{os:List Nat}(hk:1<=k)(ho:os≠[]):rsL k os≠[]:=λz=>by
 obtain⟨e,_⟩:=N7 (k:=k) (os:=os);have grow:∀{os:List Nat}{c:List (List Nat)},c.length<=(os.foldl (rsS k) c).length:=λ{os}=>by
  induction os with
  |nil=>intro c;exact X3 _
  |cons s os ih=>intro c;exact Xg (by unfold rsS;rw[Xd];omega) (ih (c:=rsS k c s))
 cases os with
 |nil=>exact ho rfl
 |cons s os =>
  have h:=grow (os:=os) (c:=rsS k [[]] s);have l:(rsS k [[]] s).length=2:=by simp[rsS,show 0<k from hk]
  have h':2<=(rsC k (s::os)).length:=by rw[<-l];exact h
  rw[e,z]at h';simp at h'
noncomputable def seF(qs:List zo)(s:Nat):List zo:=qs.map (·.set s 0)++qs.map (·.set s 1)
noncomputable def seL(p:zo)(S:List Nat):List zo:=S.foldl seF [p]
def Beh(p:zo)(S:List Nat)(q:zo):Prop:=q.length=p.length/\∀j,j<p.length->(j∈S->q.getD j 0=0\/q.getD j 0=1)/\(j∉S->q.getD j 0=p.getD j 0)
def Rj{p:zo}{s j:Nat}{c:Int}(hs:s<p.length):(p.set s c).getD j 0=if s=j then c else p.getD j 0:=by
 rw[kj,dN];by_cases e:s=j
 .rw[if_pos e,if_pos e,if_pos hs];rfl
 .rw[if_neg e,if_neg e,kj]
def j9j{p q:zo}(hl:q.length=p.length)(h:∀j,j<p.length->q.getD j 0=p.getD j 0):q=p:=by
 refine List.ext_getElem hl λj h1 h2=>?_;have:=h j h2
 rwa [kj,kj,kh h1,kh h2]at this
theorem j6n{n:Nat}:∀{S:List Nat}{qs:List zo} {q:zo},(∀s∈S,s<n)->(∀p∈qs,p.length=n)->(q∈S.foldl seF qs ↔ ∃p∈qs,Beh p S q)
 |[],qs,q,_,hq=>by refine⟨λh=>⟨q,h,rfl,λj _=>⟨λz=>(nomatch z),λ_=>rfl⟩⟩,λ⟨p,hp,h1,h2⟩=>?_⟩;rw[j9j h1 λj hj=>(h2 j hj).2 (λz=>nomatch z)];exact hp
 |s::S,qs,q,hS,hq=>by
  have hs:=hS s xq;rw[T3,j6n (n:=n) (S:=S) (qs:=seF qs s) (λt ht=>hS t (xg _ ht)) (λp hp=>by
   rcases Xw.mp hp with h|h<;>(obtain⟨r,hr,e⟩:=X8.mp h;rw[<-e,T5];exact hq r hr))]
  constructor
  .rintro⟨p,hp,h1,h2⟩;have:∃r∈qs,∃c:Int,(c=0\/c=1)/\p=r.set s c:=by
    rcases Xw.mp hp with h|h<;>obtain⟨r,hr,e⟩:=X8.mp h
    .exact⟨r,hr,0,.inl rfl,e.symm⟩
    .exact⟨r,hr,1,.inr rfl,e.symm⟩
   obtain⟨r,hr,c,hc,rfl⟩:=this;rw[T5]at h1 h2;have hl:=hq r hr;refine⟨r,hr,h1,λj hj=>⟨λhm=>?_,λhm=>?_⟩⟩
   .by_cases e:j∈S
    .exact(h2 j hj).1 e
    .have ej:j=s:=(xr.mp hm).resolve_right e;rw[(h2 j hj).2 e,Rj nofun,if_pos ej.symm];exact hc
   .rw[(h2 j hj).2 λz=>hm (xg _ z),Rj nofun,if_neg λz=>hm (by rw[z];exact xq)]
  .rintro⟨r,hr,h1,h2⟩;have hl:=hq r hr;have hc:=(h2 s nofun).1 xq;refine⟨r.set s (q.getD s 0),?_,by rw[T5];exact h1,λj hj=>?_⟩
   .rcases hc with e|e<;>rw[e]
    .exact Pu _ (X8.mpr ⟨r,hr,rfl⟩)
    .exact Xc _ (X8.mpr ⟨r,hr,rfl⟩)
   .rw[T5]at hj;refine⟨λhm=>(h2 j hj).1 (xg _ hm),λhm=>?_⟩;rw[Rj nofun];by_cases e:s=j
    .rw[if_pos e,e]
    .rw[if_neg e];exact(h2 j hj).2 λz=>(xr.mp z).elim (λz=>e z.symm) hm
def Lq{p q:zo}{S:List Nat}(hS:∀s∈S,s<p.length):q∈seL p S↔Beh p S q:=by unfold seL;rw[j6n (n:=p.length) hS λr hr=>by rw[xm.mp hr]];exact⟨λ⟨r,hr,h⟩=>by rwa [xm.mp hr]at h,λh=>⟨p,xm.mpr rfl,h⟩⟩
theorem j5p:∀{S:List Nat}{qs:List zo},qs≠[]->S.foldl seF qs≠[]
 |[],_,h=>h
 |s::S,qs,h=>j5p (S:=S) λz=>h (by unfold seF at z;exact List.map_eq_nil_iff.mp (List.append_eq_nil_iff.mp z).1)
theorem Ky:∀{p q:zo},q.length=p.length->(∀j,j<p.length->q.getD j 0<=p.getD j 0)->qg q<=qg p/\((∃j,j<p.length/\q.getD j 0<p.getD j 0)->qg q<qg p)
 |[],[],_,_=>⟨Tg _,λ⟨j,h,_⟩=>absurd h (kQ _)⟩
 |[],_::_,h,_=>by cases h
 |_::_,[],h,_=>by cases h
 |x::p,y::q,hl,h=>by
  have hl':q.length=p.length:=by simpa using hl
  obtain⟨i1,i2⟩:=Ky hl' λj hj=>by have:=h (j+1) (by rw[xx];omega);simpa using this
  have h0:y<=x:=by have:=h 0 (by simp);simpa using this
  have w:(0:Int)<3^p.length:=d6 (by decide);have e:qg (y::q)=y*3^q.length+qg q:=rfl;have e':qg (x::p)=x*3^p.length+qg p:=rfl;rw[e,e',hl'];have hm:y*3^p.length<=x*3^p.length:=gy h0 (iR w);refine⟨by omega,λ⟨j,hj,hlt⟩=>?_⟩;cases j with
  |zero =>
   have hlt:y<x:=by simpa using hlt
   have:=Int.mul_lt_mul_of_pos_right hlt w;omega
  |succ j =>have:=i2 ⟨j,by rw[xx]at hj;omega,by simpa using hlt⟩;omega
def j11{p:zo}{m s:Nat}(h:s∈ql p m):s<m/\p.getD s 0=2:=by obtain⟨h1,h2⟩:=Xp.mp h;exact⟨Xb.mp h1,of_decide_eq_true h2⟩
def Kl{p q:zo}{S:List Nat}(h:Beh p S q)(hp3:∀t∈p,0<=t/\t<3):∀t∈q,0<=t/\t<3:=λt ht=>by
 obtain⟨j,hj,e⟩:=T6.mp ht;have eq:q.getD j 0=t:=by rw[kj,kh hj,e];rfl
 have hj':j<p.length:=by rw[<-h.1];exact hj
 rw[<-eq];by_cases z:j∈S
 .have:=(h.2 j hj').1 z;omega
 .rw[(h.2 j hj').2 z];exact hp3 _ (by rw[kj,kh hj'];exact Xr hj')
def Kh{p q:zo}{S:List Nat}(hne:S≠[])(hS:∀s∈S,s<p.length/\p.getD s 0=2)(h:Beh p S q):qg q<qg p:=by
 refine(Ky h.1 λj hj=>?_).2 ?_
 .by_cases z:j∈S
  .have:=(h.2 j hj).1 z;have:=(hS j z).2;omega
  .rw[(h.2 j hj).2 z];exact Tg _
 .cases S with
  |nil=>exact absurd rfl hne
  |cons s S =>obtain⟨h1,h2⟩:=hS s xq;refine⟨s,h1,?_⟩;have:=(h.2 s h1).1 xq;omega
noncomputable def RpF(k:Nat)(a:zo)(m:Nat):Nat->zo->Int
 |0,_=>0
 |f+1,p=>if opB a m p=ah then 1+J5 ((rsL k (ql p m)).map λS=>qz ((seL p S).map (RpF k a m f)))else 0
noncomputable def Rp(k:Nat)(a:zo)(m:Nat)(p:zo):Int:=RpF k a m (3^m) p
def Nb{k m:Nat}{p:zo}{S:List Nat}(hp:p.length=m)(h:S∈rsL k (ql p m)):∀s∈S,s<p.length/\p.getD s 0=2:=λs hs=>by rw[hp];exact j11 ((Mi h).1.subset hs)
theorem j7u{k m:Nat}{a:zo}:∀{f f':Nat}{p:zo},p.length=m->(∀t∈p,0<=t/\t<3)->qg p<f->f<=f'->RpF k a m f p=RpF k a m f' p
 |0,f',p,_,h3,hv,_=>by have:=(Yw h3).1;omega
 |f+1,0,p,_,_,_,h=>by omega
 |f+1,f'+1,p,hp,h3,hv,h=>by rw[RpF,RpF];congr 3;refine t7 λS hS=>?_;congr 1;have ok:=Nb hp hS;refine t7 λq hq=>?_;have b:=(Lq λs hs=>(ok s hs).1).mp hq;have:=Kh (Mi hS).2.2 ok b;exact j7u (by rw[b.1];exact hp) (Kl b h3) nofun nofun
def O7{k m:Nat}{a p:zo}(h:opB a m p=a9):Rp k a m p=0:=by
 unfold Rp;obtain⟨f,e⟩:∃f,3^m=f+1:=⟨3^m-1,by have:0<3^m:=jB (by decide);omega⟩
 rw[e,RpF,h];rfl
def Ku{k m:Nat}{a p:zo}(hp:p.length=m)(h3:∀t∈p,0<=t/\t<3)(h:opB a m p=ah):Rp k a m p=1+J5 ((rsL k (ql p m)).map λS=>qz ((seL p S).map (Rp k a m))):=by
 obtain⟨f,e⟩:∃f,3^m=f+1:=⟨3^m-1,by have:0<3^m:=jB (by decide);omega⟩
 have hb:=(Yw h3).2;rw[hp]at hb;have hb:qg p<((3^m:Nat):Int):=by simpa using hb
 show RpF k a m (3^m) p=_;have step:RpF k a m (3^m) p=1+J5 ((rsL k (ql p m)).map λS=>qz ((seL p S).map (RpF k a m f))):=by rw[e,RpF,if_pos h]
 rw[step];congr 2;refine t7 λS hS=>?_;congr 1;have ok:=Nb hp hS;refine t7 λq hq=>?_;have b:=(Lq λs hs=>(ok s hs).1).mp hq;have:=Kh (Mi hS).2.2 ok b;exact j7u (by rw[b.1];exact hp) (Kl b h3) nofun nofun
def Kq(m:Nat):∀t∈ak m (2:Int),0<=t/\t<3:=λt ht=>by rw[(List.mem_replicate.mp ht).2];decide
theorem j0r{k:Nat}:∀{os S R:List Nat}{c:List (List Nat)},R∈c->S.Sublist os->R.length+S.length<=k->R++S∈os.foldl (rsS k) c
 |[],S,R,c,hR,hs,_=>by rw[List.sublist_nil.mp hs,Xn];exact hR
 |s::os,S,R,c,hR,hs,hl=>by
  rw[T3];cases hs with
  |cons _ h=>exact j0r (Pu _ hR) h hl
  |cons_cons _ h =>rename_i S';rw[xx]at hl;rw[List.append_cons];exact j0r (Xc _ (X8.mpr ⟨R,Xp.mpr ⟨hR,decide_eq_true nofun⟩,rfl⟩)) h (by rw[Xd,iN];omega)
def jc7{k:Nat}{os S:List Nat}(hs:S.Sublist os)(hl:S.length<=k)(hn:S≠[]):S∈rsL k os:=by have h:=j0r (k:=k) (R:=[]) (c:=[[]]) (xm.mpr rfl) hs (by simpa using hl);have h:S∈rsC k os:=h;rw[N7.1]at h;exact(xr.mp h).resolve_left hn
def jd0{α:Type}{L:List α}{f:α->Int}{q:α}(h:q∈L):f q<=qz (L.map f) :=
 (Rb (ns:=L.map f) λz=>by rw[List.map_eq_nil_iff.mp z]at h;cases h).2 _ (X8.mpr ⟨q,h,rfl⟩)
def jbx{p:zo}{S:List Nat}:seL p S≠[]:=j5p (by simp)
section
variable{k m:Nat}{a p:zo}
def jb5:0<=Rp k a m p:=by
 have h:∀(f:Nat)(p:zo),0<=RpF k a m f p:=λf=>by
  induction f with
  |zero=>intro p;exact Tg _
  |succ f ih =>
   intro p;rw[RpF];split
   .have:0<=J5 ((rsL k (ql p m)).map λS=>qz ((seL p S).map (RpF k a m f))):=by
     by_cases hn:rsL k (ql p m)=[]
     .rw[hn];exact Tg _
     .obtain⟨S,hS,e⟩:=X8.mp (Qt (ns:=(rsL k (ql p m)).map λS=>qz ((seL p S).map (RpF k a m f))) (by simpa using hn)).1;rw[<-e];obtain⟨q,hq⟩:=Tf _ (jbx (p:=p) (S:=S));exact iQ (ih q) (jd0 hq)
    omega
   .exact Tg _
 exact h _ _
def jke{S:List Nat}(hp:p.length=m)(h3:∀t∈p,0<=t/\t<3)(ho:opB a m p=ah)(hS:S∈rsL k (ql p m)):Rp k a m p<=1+qz ((seL p S).map (Rp k a m)):=by rw[Ku hp h3 ho];have:=(Qt (ns:=(rsL k (ql p m)).map λS=>qz ((seL p S).map (Rp k a m))) λz=>by rw[List.map_eq_nil_iff.mp z]at hS;cases hS).2 _ (X8.mpr ⟨S,hS,rfl⟩);omega
def jkf(hk:1<=k)(h01:∀x∈a,x=0\/x=1)(hp:p.length=m)(h3:∀t∈p,0<=t/\t<3)(ho:opB a m p=ah):∃S∈rsL k (ql p m),Rp k a m p=1+qz ((seL p S).map (Rp k a m)):=by have ne:=jf1 hk (Lh h01 hp h3 ho);obtain⟨S,hS,e⟩:=X8.mp (Qt (ns:=(rsL k (ql p m)).map λS=>qz ((seL p S).map (Rp k a m))) (by simpa using ne)).1;exact⟨S,hS,by rw[Ku hp h3 ho,<-e]⟩
def jhw{P:zo->Prop}(h:∀p,p.length=m->(∀t∈p,0<=t/\t<3)->(∀q,q.length=m->(∀t∈q,0<=t/\t<3)->qg q<qg p->P q)->P p):∀p,p.length=m->(∀t∈p,0<=t/\t<3)->P p:=by
 have key:∀(N:Nat)(p:zo),p.length=m->(∀t∈p,0<=t/\t<3)->qg p<N->P p:=λN=>by
  induction N with
  |zero=>intro p _ h3 hv;have:=(Yw h3).1;omega
  |succ N ih=>intro p hp h3 hv;exact h p hp h3 λq hq q3 hl=>ih q hq q3 nofun
 intro p hp h3;exact key ((qg p).toNat+1) p hp h3 (by have:=(Yw h3).1;omega)
def jj3{S:List Nat}(hp:p.length=m)(h3:∀t∈p,0<=t/\t<3)(hS:S∈rsL k (ql p m)){q:zo}(hq:q∈seL p S):q.length=m/\(∀t∈q,0<=t/\t<3)/\qg q<qg p:=by have ok:=Nb hp hS;have b:=(Lq λs hs=>(ok s hs).1).mp hq;exact⟨by rw[b.1,hp],Kl b h3,Kh (Mi hS).2.2 ok b⟩
def jai{s:Nat}(hp:p.length=m)(h3:∀t∈p,0<=t/\t<3)(ho:opB a m p=ah)(hs:s∈ql p m):Rp 1 a m p<=1+qz [Rp 1 a m (p.set s 0),Rp 1 a m (p.set s 1)] :=
 jke hp h3 ho (jc7 (List.singleton_sublist.mpr hs) (X3 _) (by simp))
def j2w{s:Nat}{c:Int}(hc:c=0\/c=1)(h3:∀t∈p,0<=t/\t<3):∀t∈p.set s c,0<=t/\t<3:=λt ht=>by
 rcases List.mem_or_eq_of_mem_set ht with h|h
 .exact h3 t h
 .omega
end
def j2n{n s:Nat}{p:zo}{ks:List zo}{ns:zo}{x y:Int}(hl:p.length<=6)(hs:s<p.length)(h2:p.getD s 0=2)(hx:zp ks (ns.map D.int) (p.set s 0)=a8 (.int x))(hy:zp ks (ns.map D.int) (p.set s 1)=a8 (.int y)) :
  evP 1000 G T (n+2) "numbers_behind" [.dct ks (ns.map D.int),j9 p,.int s]=.fresh ([x,y].map D.int):=by
 have t0:=Kz (n:=n) (v:=0) hl hs h2;have t1:=Kz (n:=n) (v:=1) hl hs h2;simp only[j9]at t0 t1 ⊢;rw[jo (F:=Z7) (by rfl) rfl];simp only[Z7,Jo,enter];ext;simp only[gA];ext;rw[qt (l:=[x,y].map D.int) (by rfl) (by decide) ?_ (.inr (Qi _))]
 .ext
 .rw[Qc,zr (d':=.int x) (by ext) (by ext;rw[t0];ext;rw[K9 hx])];rw[Qc,zr (d':=.int y) (by ext) (by ext;rw[t1];ext;rw[K9 hy])];rfl
def j7a{n s:Nat}{p pr:zo}{ks:List zo}{ns:zo}{x y:Int}(hl:p.length<=6)(hs:s<p.length)(hr:s<pr.length)(h2:p.getD s 0=2)(hx:zp ks (ns.map D.int) (p.set s 0)=a8 (.int x))(hy:zp ks (ns.map D.int) (p.set s 1)=a8 (.int y)) :
  evP 1000 G T (n+3) (jx "worst_cost_of_ask") [.lst (pr.map D.int),.dct ks (ns.map D.int),j9 p,.int s]=.lval (.int (pr.getD s 0+qz [x,y])):=by
 have b:=j2n (n:=n) hl hs h2 hx hy;have g:=j4n hr;rw[j3g (F:=Q4) (by rfl) rfl];simp only[Q4,vm,enter];ext;rw[g,b];ext;rw[show([D.int x,D.int y]:List D)=[x,y].map D.int from rfl,jjj (by simp)];ext
def Bo(l:List zo)(h:∀k∈l,k.length=2):∀k,k<l.length->aU (zy l) k<=k/\∀j,j<=k->(l.getD (aU (zy l) k) []).getD 0 0<=(l.getD j []).getD 0 0:=by
 have two:∀i,i<l.length->∃a b,l.getD i []=[a,b]:=λi hi=>by
  have e:l.getD i []=l[i]:=by rw[kj,kh hi];rfl
  have hm:=h _ (Xr hi);rw[e]
  match l[i],hm with|[a,b],_=>exact⟨a,b,rfl⟩
 intro k;induction k with
 |zero=>exact λ_=>⟨X3 _,λj hj=>by rw[Nat.le_zero.mp hj];exact Tg _⟩
 |succ k ih =>
  intro hk;obtain⟨h1,h2⟩:=ih nofun
  obtain⟨a,b,e1⟩:=two (k+1) hk;obtain⟨c,d,e2⟩:=two (aU (zy l) k) nofun
  rw[aU];cases z:zy l (k+1) (aU (zy l) k) with
  |true =>
   rw[if_pos rfl];refine⟨X3 _,λj hj=>?_⟩;have z:HT.lexLt (l.getD (k+1) []) (l.getD (aU (zy l) k) [])=ah:=z;rw[e1,e2]at z;have z:a<=c:=by
    rw[HT.lexLt]at z;by_cases q:a=c
    .omega
    .rw[if_neg q]at z;have:=of_decide_eq_true z;omega
   rcases eN j (k+1)with q|q
   .have:=h2 j nofun
    rw[e2]at this;rw[e1];exact iQ z this
   .rw[show j=k+1 by omega];exact Tg _
  |false =>
   rw[if_neg xj];refine⟨by omega,λj hj=>?_⟩;have z:HT.lexLt (l.getD (k+1) []) (l.getD (aU (zy l) k) [])=a9:=z;rw[e1,e2]at z;have z:c<=a:=by
    rw[HT.lexLt]at z;by_cases q:a=c
    .omega
    .rw[if_neg q]at z;have:=of_decide_eq_false z;omega
   rcases eN j (k+1)with q|q
   .exact h2 j nofun
   .rw[show j=k+1 by omega,e1,e2];exact z
def Ez{n:Nat}{p pr:zo}{ks:List zo}{ns:zo}{V0 V1:Nat->Int}(hl:p.length<=6)(hr:pr.length=p.length)(ho:ql p p.length≠[])
  (hx:∀s,s<p.length->p.getD s 0=2->zp ks (ns.map D.int) (p.set s 0)=a8 (.int (V0 s))/\zp ks (ns.map D.int) (p.set s 1)=a8 (.int (V1 s))) :
  ∃s:Int,evP 1000 G T (n+4) "cheapest_ask" [.dct ks (ns.map D.int),j9 p,.fn "worst_cost_of_ask" [.lst (pr.map D.int)]]=.val (.tup [.int (J5 ((ql p p.length).map λs=>pr.getD s 0+qz [V0 s,V1 s])),.int s]):=by
 let kk:List zo:=(ql p p.length).map λ(s:Nat)=>[pr.getD s 0+qz [V0 s,V1 s],(s:Int)]
 have kl:kk.length=(ql p p.length).length:=xf ..;have kp:0<(ql p p.length).length:=List.length_pos_iff.mpr ho;obtain⟨b1,b2⟩:=Bo kk (λk hk=>by obtain⟨s,_,e⟩:=X8.mp hk;rw[<-e];rfl) (kk.length-1) nofun
 have hi:aU (zy kk) (kk.length-1)<kk.length:=by omega
 have hk:kk[aU (zy kk) (kk.length-1)]?=a8 (kk.getD (aU (zy kk) (kk.length-1)) []):=by rw[kj,kh hi];rfl
 obtain⟨s0,hs0,e0⟩:=X8.mp (Xq hk);have at':∀{t:Nat},t∈ql p p.length->t<p.length/\p.getD t 0=2:=λ{t} ht=>by obtain⟨h1,h2⟩:=Xp.mp ht;exact⟨Xb.mp h1,of_decide_eq_true h2⟩
 have mn:J5 ((ql p p.length).map λs=>pr.getD s 0+qz [V0 s,V1 s])=pr.getD s0 0+qz [V0 s0,V1 s0]:=by
  refine Ln (X8.mpr ⟨s0,hs0,rfl⟩) λc hc=>?_;obtain⟨t,ht,rfl⟩:=X8.mp hc;obtain⟨j,hj,ej⟩:=T6.mp ht;have q:=b2 j nofun
  rw[<-e0]at q;have e1:kk.getD j []=[pr.getD t 0+qz [V0 t,V1 t],(t:Int)]:=by rw[kj,X4,kh hj,ej];rfl
  rw[e1]at q;exact q
 refine⟨(s0:Int),?_⟩;rw[mn,jo (F:=V5) (by rfl) rfl];simp only[V5,Qq,enter,j9];ext;rw[qt (l:=kk.map λk=>D.tup (k.map D.int)) (by rfl) (by unfold Jl;rw[xf,dn,xf];omega) ?_ (.inl rfl)];rotate_left
 .rw[Iu,Xf];refine Ze λs hs'=>?_;have hs:=Xb.mp hs';refine Bq ?_ λhb=>?_
  .ext;simp only[gN];ext;simp only[Kd];ext
  .have h2:p.getD s 0=2:=of_decide_eq_true hb;obtain⟨h0,h1⟩:=hx s hs h2;have c:=j7a (n:=n) (pr:=pr) hl hs nofun h2 h0 h1;simp only[j9]at c;ext;rw[ja0 (by rw[Jd,Nh,Jd,j16];rfl)];simp only[c7,cB];rw[c];ext;rfl
 ext;rw[jcu hk,<-e0];ext
def j6t{n:Nat}{p pr:zo}{ks:List zo}{ns:zo}{V0 V1:Nat->Int}(hl:p.length<=6)(hr:pr.length=p.length)(ho:ql p p.length≠[])
  (hx:∀s,s<p.length->p.getD s 0=2->zp ks (ns.map D.int) (p.set s 0)=a8 (.int (V0 s))/\zp ks (ns.map D.int) (p.set s 1)=a8 (.int (V1 s))) :
  evP 1000 G T (n+5) (jx "least_numbers") [.fn "worst_cost_of_ask" [.lst (pr.map D.int)],.dct ks (ns.map D.int),j9 p]=.lval (.int (J5 ((ql p p.length).map λs=>pr.getD s 0+qz [V0 s,V1 s]))):=by
 obtain⟨s,e⟩:=Ez (n:=n) hl hr ho hx;rw[j3g (F:=Zm) (by rfl) rfl];simp only[Zm,Qa,enter];ext;erw[e,at0]
def rep1(k:Nat):(ak k [D.int 1]).flatten=(ak k (1:Int)).map D.int:=by
 induction k with
 |zero=>rfl
 |succ k ih=>rw[Xv,T7,ih];rfl
def j5x {n m:Nat} (hm:m<=6):evP 1000 G T (n+1) "prices_told" [.int m,.non]=.fresh ((ak m (1:Int)).map D.int):=by rw[jo (F:=Vn) (by rfl) rfl];simp only[Vn,Z4,enter];ext;rw[Xh,rep1]
def j2h {n m:Nat} {ws:List aq} {a pr:zo} {d:D} (hw:ws.length=m) (hp:evP 1000 G T (n+1) "prices_told" [.int m,d]=.fresh (pr.map D.int)) :
  evP 1000 G T (n+2) "worst_cost_of_ask" [qD ws a,d]=.val (.fn "worst_cost_of_ask" [.lst (pr.map D.int)]):=by
 rw[jo (F:=Q7) (by rfl) rfl];simp only[Q7,vo,enter,qD];ext;rw[at0];ext;rw[hw,hp];ext
theorem j34:∀m:Nat,(PK (ak m 2)).getLast?=a8 (ak m 2)
 |0=>rfl
 |m+1=>by
  have ek:PK (ak (m+1) 2)=((PK (ak m 2)).map (0 :: ·)++(PK (ak m 2)).map (1 :: ·))++(PK (ak m 2)).map (2 :: ·):=by unfold PK;rw[Xv,X5,J6];simp[Q6]
  rw[ek,iX,k8,j34 m,Xv];rfl
def atL{t:zo}{x:Int}(h:t.getLast?=a8 x):atI (t.map D.int) (-1)=a8 (.int x):=by
 have hn:t≠[]:=λe=>by rw[e]at h;cases h
 have hl:0<t.length:=List.length_pos_iff.mpr hn;unfold atI ixN;rw[xf,if_neg (by decide),if_pos nofun];show(t.map D.int)[_]?=_;rw[show(-1+(t.length:Int)).toNat=t.length-1 by omega,X4,<-List.getLast?_eq_getElem?,h];rfl
theorem j5t:∀{os l:List Nat},os.foldl (rsS 1) ([]::l.map λs=>[s])=[]::(l++os).map λs=>[s]
 |[],l=>by rw[Xn];rfl
 |s::os,l=>by
  have e:rsS 1 ([]::l.map λs=>[s]) s=[]::(l++[s]).map λs=>[s]:=by
   have f:(l.map λs=>[s]).filter (λS:List Nat=>decide (S.length<1))=[]:=List.filter_eq_nil_iff.mpr λS hS=>by obtain⟨t,_,rfl⟩:=X8.mp hS;simp
   unfold rsS;rw[eD (by simp),f,Xo];rfl
  rw[T3,e,j5t,T8];rfl
def jc6{os:List Nat}:rsL 1 os=os.map λs=>[s]:=by have:rsC 1 os=[]::os.map λs=>[s]:=j5t (l:=[]);unfold rsL;rw[this];rfl
def jaj{a p:zo}{m:Nat}(h01:∀x∈a,x=0\/x=1)(hp:p.length=m)(h3:∀t∈p,0<=t/\t<3)(h:opB a m p=ah) :
  Rp 1 a m p=J5 ((ql p m).map λs=>(ak m (1:Int)).getD s 0+qz [Rp 1 a m (p.set s 0),Rp 1 a m (p.set s 1)]):=by
 have ne:=Lh h01 hp h3 h;rw[Ku hp h3 h,jc6,Xf];obtain⟨m1,m2⟩:=Qt (ns:=(ql p m).map ((λS=>qz ((seL p S).map (Rp 1 a m))) ∘ λs=>[s])) (by simpa using ne);have one:∀s∈ql p m,(ak m (1:Int)).getD s 0=1:=λs hs=>by rw[kj,cG,if_pos (j11 hs).1];rfl
 refine(Ln ?_ λc hc=>?_).symm
 .obtain⟨s,hs,e⟩:=X8.mp m1;rw[<-e];exact X8.mpr ⟨s,hs,by rw[one s hs];rfl⟩
 .obtain⟨s,hs,rfl⟩:=X8.mp hc;rw[one s hs];have:=m2 _ (X8.mpr ⟨s,hs,rfl⟩);exact Int.add_le_add_left this 1
def j26{n m:Nat}{ws:List aq}{a p:zo}(hw:ws.length=m)(hm:1<=m/\m<=6)(ha:a.length=2^m)(h01:∀x∈a,x=0\/x=1)(hp:p.length=m)(hp3:∀t∈p,0<=t/\t<3) :
  evP 1000 G T (n+6) "numbers_within" [j9 p,qD ws a,.fn "least_numbers" [.fn "worst_cost_of_ask" [.lst ((ak m (1:Int)).map D.int)]]]=.val (.dct (PK p) (((PK p).map (Rp 1 a m)).map D.int)):=by
 rw[jo (F:=Z6) (by rfl) rfl];simp only[Z6,Jm,enter];have pk:evP 1000 G T (n+5) "parts_in" [j9 p]=.fresh (jn (PK p)):=by rw[j0z (n:=n+3) nofun,V7];rfl
 have p3:=jlo hm.2;have pl:=j62 (p:=p);rw[hp]at pl;have pok:∀q∈PK p,q.length=m/\∀t∈q,0<=t/\t<3:=λq hq=>by rw[<-hp];exact j4a hp3 hq
 have hd:=j6f (f1:=λρ=>stOf (ev (evP 1000 G T (n+5)) G (.not (.isN (.call "settled_by" (.cons (.var 1) (.cons (.var 4) .nil))))) ρ))
  (f2:=λρ=>stOf (ev (evP 1000 G T (n+5)) G (.ite (.var 5) (.lit (.int 0)) (.callV 2 (.cons (.var 3) (.cons (.var 4) .nil)))) ρ))
  (A:=j9 p) (B:=qD ws a) (C:=.fn "least_numbers" [.fn "worst_cost_of_ask" [.lst ((ak m (1:Int)).map D.int)]]) (L:=PK p) (W:=Rp 1 a m) (op:=opB a m) nofun (j8l hp3)
  (λq s5 hq=>by
   have sp:evP 1000 G T (n+5) "settled_by" [.tup [.tup (ws.map D.str),.tup (a.map D.int)],j9 q]=.val (stD a q m):=j5m (n:=n) hm ha (pok q hq).1 (pok q hq).2
   simp only[j9]at sp
   simp only[qD]
   ext
   rw[sp]
   ext
   simp only[opB])
  (λi hi=>by
   have hq:=Xr hi
   obtain⟨q1,q2⟩:=pok _ hq
   cases z:opB a m (PK p)[i] with
   |false =>
    simp only[Bool.not_false]
    ext
    rw[O7 z]
   |true =>
    simp only[Bool.not_true]
    have sub:∀(s:Nat)(c:Int),s<(PK p)[i].length->(PK p)[i].getD s 0=2->(c=0\/c=1)->zp ((PK p).take i) (((((PK p).take i).map (Rp 1 a m))).map D.int) ((PK p)[i].set s c)=a8 (.int (Rp 1 a m ((PK p)[i].set s c))):=λs c hs h2 hc=>by
     rw[Xf]
     refine j1o (f:=λq=>D.int (Rp 1 a m q)) (j8m hp3 hi (j61 hq h2 hc) ?_)
     rw[j2q hs,h2]
     have:(0:Int)<3^((PK p)[i].length-1-s):=d6 (by decide)
     rcases hc with e|e<;>subst e<;>omega
    have L:=j6t (n:=n) (p:=(PK p)[i]) (pr:=ak m 1) (ks:=(PK p).take i) (ns:=((PK p).take i).map (Rp 1 a m)) (V0:=λs=>Rp 1 a m ((PK p)[i].set s 0)) (V1:=λs=>Rp 1 a m ((PK p)[i].set s 1))
     nofun (by rw[Pk,q1]) (by rw[q1];exact Lh h01 q1 q2 z) (λs hs h2=>⟨sub s 0 hs h2 (.inl rfl),sub s 1 hs h2 (.inr rfl)⟩)
    have wo:=jaj h01 q1 q2 z
    rw[q1,<-wo]at L
    simp only[j9]at L
    ext
    rw[ja1 (by rw[Jd,Nh,Jd,j16];rfl)]
    simp only[c7,cB]
    rw[L]
    ext)
  (PK p).length 0 .un .un (cg _)
 have hi:ev (evP 1000 G T (n+5)) G (.seq (.call "parts_in" (.cons (.var 0) .nil))) [.val (j9 p),.val (qD ws a),.val (.fn "least_numbers" [.fn "worst_cost_of_ask" [.lst ((ak m (1:Int)).map D.int)]]),.un,.un,.un]=a8 (.i (jn (PK p))):=by ext;rw[pk];ext
 have ru:=j5r (fu:=1000) (Γ:=evP 1000 G T (n+5)) (G:=G) (ρ:=[.val (j9 p),.val (qD ws a),.val (.fn "least_numbers" [.fn "worst_cost_of_ask" [.lst ((ak m (1:Int)).map D.int)]]),.un,.un,.un]) (x:=3) (t:=4) (y:=5) ⟨by simp,by simp,by simp,by decide,by decide,by decide⟩ hi hd;exact congrArg fin ru
def j3r{n m:Nat}{ws:List aq}{a:zo}(hw:ws.length=m)(hm:1<=m/\m<=6)(ha:a.length=2^m)(h01:∀x∈a,x=0\/x=1) :
  evP 1000 G T (n+9) "worst_table" [qD ws a,.non]=.val (.tup (((PK (ak m 2)).map (Rp 1 a m)).map D.int)):=by
 have nm:evP 1000 G T (n+7) "least_numbers" [j9 (ak m 2),qD ws a,.fn "worst_cost_of_ask" [.lst ((ak m (1:Int)).map D.int)]]=.val (.dct (PK (ak m 2)) (((PK (ak m 2)).map (Rp 1 a m)).map D.int)):=by rw[jo (F:=Zo) (by rfl) rfl];simp only[Zo,Qe,enter];ext;rw[j26 (n:=n) hw hm ha h01 (Pk ..) (Kq m),jcc (Nh ..)];ext
 have tb:evP 1000 G T (n+8) "least_table" [qD ws a,.fn "worst_cost_of_ask" [.lst ((ak m (1:Int)).map D.int)]]=.val (.tup (((PK (ak m 2)).map (Rp 1 a m)).map D.int)):=by rw[jo (F:=Vo) (by rfl) rfl];simp only[Vo,Z5,enter];ext;erw[j23 (n:=n+6) hm hw,nm]
 rw[jo (F:=Vm) (by rfl) rfl];simp only[Vm,Z2,enter];ext;erw[j2h (n:=n+6) hw (j5x (n:=n+6) hm.2),tb]
def gF:G "FEWEST_PLACES" = a8 (.int 1):=by rfl
def gM:G "MOST_PLACES" = a8 (.int 6):=by rfl
def j5w {fu n:Nat} {m:Int} (h:1<=m/\m<=6):evP fu G T (n+1) "refuse_wrong_size" [.int m]=.val .non:=by rw[jo (F:=Q8) (by rfl) rfl];simp only[Q8,vp,enter];ext;simp only[gF];ext;simp only[gM];ext
def j2z {fu n m:Nat} (h:1<=m/\m<=6):evP fu G T (n+2) "rows_of" [.int m]=.fresh (jn (zj m)):=by
 rw[jo (F:=Rn) (by rfl) rfl];simp only[Rn,Yv,enter];ext;rw[j5w (n:=n) nofun];ext;simp only[gA];have hrep:(ak (m:Int).toNat [D.tup [.int 0,.int 1]]).flatten=jn (ak m [0,1]):=by
  rw[Xh];have:∀k:Nat,(ak k [D.tup [.int 0,.int 1]]).flatten=jn (ak k [0,1]):=by
   intro k;induction k with
   |zero=>rfl
   |succ k ih=>rw[Xv,T7,ih];rfl
  exact this m
 ext;rw[hrep,Uh Np (λf hf=>by rw[(List.mem_replicate.mp hf).2];decide) (by rw[Pk];omega)];ext;have hc:qy (ak m [0,1])=zj m:=by
  rw[V7];have:∀k:Nat,J6 (ak k [0,1])=zj k:=by
   intro k;induction k with
   |zero=>rfl
   |succ k ih=>rw[Xv,J6,ih,zj];simp
  exact this m
 rw[hc]
noncomputable def bt(m s k:Nat):Int:=(ju 2 m (k:Int)).getD s 0
noncomputable def wal(L c:Int):Int:=if c = -1\/c=L then -1 else c+1
noncomputable def beh(m:Nat)(L:Int)(st:zo)(s:Nat)(x:Int):zo:=(aA (2^m)).map λk=>if bt m s k=x then st.getD k 0 else wal L (st.getD k 0)
noncomputable def lft(m:Nat)(st:zo):List Nat:=(aA (2^m)).filter λk=>decide (st.getD k 0 ≠ -1)
def gG:G "GONE" = a8 (.int (-1)):=by rfl
def j8y {n:Nat} {c L:Int}:evP 1000 G T (n+1) "with_another_lie" [.int c,.int L]=.val (.int (wal L c)):=by
 rw[jo (F:=Qk) (by rfl) rfl];simp only[Qk,J7,enter];by_cases h1:c = -1
 .simp only[wal];rw[if_pos (.inl h1)];ext;simp only[gG];ext
  try simp only[gG]
  ext
 .by_cases h2:c=L
  .simp only[wal];rw[if_pos (.inr h2)];ext;simp only[gG];ext
   try simp only[gG]
   ext
  .simp only[wal];rw[if_neg nofun];ext;simp only[gG];ext
   try simp only[gG]
   ext
def zip_rows{m:Nat}{st:zo}(h:st.length=2^m):Vg (jn (zj m)) (st.map D.int)=(aA (2^m)).map λk=>D.tup [j9 (ju 2 m ((k:Nat):Int)),.int (st.getD k 0)]:=by
 unfold Vg;rw[<-N8];apply S5;intro i;rw[X4,X4];by_cases hi:i<2^m
 .rw[P0 hi];have e1:(jn ((aA (2^m)).map λn=>ju 2 m ((n:Nat):Int)))[i]?=a8 (j9 (ju 2 m (i:Int))):=by unfold jn;rw[X4,X4,P0 hi];rfl
  have e2:(st.map D.int)[i]?=a8 (.int (st.getD i 0)):=by rw[X4,kj,kh nofun];rfl
  rw[i7 (z:=(j9 (ju 2 m (i:Int)),D.int (st.getD i 0))) |>.mpr ⟨e1,e2⟩];rfl
 .rw[Xu (l:=aA (2^m)) (by rw[Xj];omega),Xu (by rw[kF];simp only[jn,xf,Xj];omega)];rfl
def j1z{m s k:Nat}(hs:s<m):atI ((ju 2 m (k:Int)).map D.int) (s:Int)=a8 (.int (bt m s k)):=j4n (by rw[zf];exact hs)
def R9{m:Nat}(h:m<=3):2^m<=8:=Tj (n:=2) (by decide) h
def j21 {n m s:Nat} {ws:List aq} {a st:zo} {x L:Int} (hw:ws.length=m) (hm:1<=m/\m<=3) (hst:st.length=2^m) (hs:s<m):evP 1000 G T (n+4) "state_behind" [j9 st,.int s,.int x,qD ws a,.int L]=.val (j9 (beh m L st s x)):=by
 have rok:evP 1000 G T (n+3) "rows_of" [.int m]=.fresh (jn (zj m)):=j2z (n:=n+1) nofun
 have p8:=R9 hm.2;have lw:((ws.map D.str).length:Int)=(m:Int):=by rw[xf,hw]
 rw[jo (F:=V3) (by rfl) rfl];simp only[V3,Qo,enter,qD];ext;simp only[at0];ext;rw[hw,rok];ext;simp only[j9];rw[show Cd (a8 (.v (.e (.lst (jn (zj m)))))) (a8 (.v (.e (.tup (st.map D.int)))))=a8 (.i (Vg (jn (zj m)) (st.map D.int)))from rfl,zip_rows hst];rw[qt (l:=(beh m L st s x).map D.int) (by rfl) (by rw[xf,Xj];omega) ?_ (.inl rfl)]
 .ext
 .rw[beh,Xf];refine qb λk hk=>j2r (by ext) ?_;by_cases hb:bt m s k=x
  .simp only[bK];rw[if_pos hb];ext;simp only[j9,j1z hs];ext
  .simp only[bK];rw[if_neg hb];ext;simp only[j9,j1z hs];ext;rw[j8y];ext
def Kc{x y:Int}:cmpI .ne x y=a8 (decide (x≠y)):=by unfold cmpI;by_cases h:x=y<;>simp[h]
def jdv{x y:Int}:cmpI .le x y=a8 (decide (x<=y)):=by unfold cmpI;by_cases h:x<=y<;>simp[h]
def Ir {n m:Nat} {ws:List aq} {a st:zo} (hw:ws.length=m) (hm:1<=m/\m<=3) (hst:st.length=2^m):evP 1000 G T (n+4) "rows_of_state" [j9 st,qD ws a]=.fresh (jn ((lft m st).map λk=>ju 2 m ((k:Nat):Int))):=by
 have rok:evP 1000 G T (n+3) "rows_of" [.int m]=.fresh (jn (zj m)):=j2z (n:=n+1) nofun
 have p8:=R9 hm.2;rw[jo (F:=Zn) (by rfl) rfl];simp only[Zn,Qd,enter,qD,j9];ext;simp only[at0];ext;rw[hw,rok];ext;rw[show Cd (a8 (.v (.o (jn (zj m))))) (a8 (.v (.e (.tup (st.map D.int)))))=a8 (.i (Vg (jn (zj m)) (st.map D.int)))from rfl,zip_rows hst];rw[qt (l:=jn ((lft m st).map λk=>ju 2 m ((k:Nat):Int))) (by rfl) (by rw[xf,Xj];omega) ?_ (.inl rfl)]
 .ext
 .unfold jn lft;rw[Xf];refine Ze λk hk=>Bq ?_ λ_=>by(ext;rfl)
  ext;simp only[gG];ext;rw[Kc];rfl
noncomputable def Z8(a:zo)(m:Nat)(st:zo):zo:=(lft m st).map λk=>a.getD k 0
noncomputable def stl(a:zo)(m:Nat)(st:zo):Bool:=!((Z8 a m st).contains 0&&(Z8 a m st).contains 1)
theorem j0s:∀{n:Nat}{p:zo},p.length=n->(∀x∈p,x=0\/x=1)->p∈zj n
 |0,[],_,_=>by simp[zj]
 |0,_::_,h,_=>by simp at h
 |n+1,[],h,_=>by simp at h
 |n+1,x::p,h,hx=>by have ih:=j0s (n:=n) (p:=p) (by simpa using h) λy hy=>hx y (xg _ hy);unfold zj;have:=hx x (xq ..);rcases this with e|e<;>subst e<;>simp[ih]
def jhj:∀n:Fin 9,(zj n.val).all (λns=>decide (decide ((ddI ns).length<=1)=(!(ns.contains 0&&ns.contains 1))))=ah:=by decide +kernel
def jk7{ns:zo}(hl:ns.length<=8)(h:∀x∈ns,x=0\/x=1):decide ((ddI ns).length<=1) = !(ns.contains 0&&ns.contains 1):=by have:=Pj.mp (jhj ⟨ns.length,by omega⟩) ns (j0s rfl h);exact of_decide_eq_true this
def j3a{m:Nat}{st:zo}:(lft m st).length<=2^m:=by unfold lft;exact Xg (Te ..) (by rw[Xj];exact X3 _)
def j6r{m k:Nat}{st:zo}(h:k∈lft m st):k<2^m:=Xb.mp (Xp.mp h).1
def Eu {n m:Nat} {ws:List aq} {a st:zo} (hw:ws.length=m) (hm:1<=m/\m<=3) (ha:a.length=2^m) (h01:∀x∈a,x=0\/x=1) (hst:st.length=2^m) (hne:lft m st≠[]):evP 1000 G T (n+5) "is_settled" [j9 st,qD ws a]=.val (.bl (stl a m st)):=by
 have fs:=Ir (n:=n) (a:=a) hw hm hst;have p8:=R9 hm.2;have ll:=j3a (m:=m) (st:=st);rw[jo (F:=Yn) (by rfl) rfl];simp only[Yn,Zi,enter];ext;rw[fs];ext;rw[qt (l:=(Z8 a m st).map D.int) (by rfl) (by simp only[jn,xf];omega) ?_ (.inl rfl)]
 .ext;obtain⟨x,xs,ex⟩:∃x xs,Z8 a m st=x::xs:=by
   cases e:Z8 a m st with
   |nil=>exact absurd (List.map_eq_nil_iff.mp e) hne
   |cons x xs=>exact⟨x,xs,rfl⟩
  have hx:xs.length<3999:=by have:(Z8 a m st).length=(lft m st).length:=xf ..;rw[ex,xx]at this;omega
  rw[ex,X5,jcx hx,<-ex];ext;have:=jk7 (ns:=Z8 a m st) (by rw[show(Z8 a m st).length=(lft m st).length from xf ..];omega) (λy hy=>by
   obtain⟨k,hk,e⟩:=X8.mp hy
   rw[<-e]
   exact h01 _ (by rw[kj,kh (by have:=j6r hk;omega)];exact Xr _))
  rw[jdv];ext;rw[show stl a m st=decide ((ddI (Z8 a m st)).length<=1)from this.symm];have e1:decide (((ddI (Z8 a m st)).length:Int)<=1)=decide ((ddI (Z8 a m st)).length<=1):=decide_eq_decide.mpr nofun
  rw[e1]
 .unfold jn Z8;rw[Xf,Xf];refine qb λk hk=>zr (by ext) ?_;have as:=Bp (n:=n+1) (ws:=ws) (a:=a) (m:=m) nofun ha (j6r hk);ext;simp only[bK];rw[as];ext
noncomputable def unl(m:Nat)(st:zo):List Nat:=(aA m).filter λs=>(lft m st).any λk=>decide (bt m s k≠bt m s ((lft m st).headD 0))
def j9p{m k:Nat}:Jl ((ju 2 m (k:Int)).map D.int)=(aA m).map λ(s:Nat)=>D.tup [.int (s:Int),.int (bt m s k)]:=by have:=Iu (ju 2 m (k:Int));rw[zf]at this;exact this
def j0a {n m:Nat} {st:zo} (hm:1<=m/\m<=3) (hne:lft m st≠[]):evP 1000 G T (n+1) "spots_unlike" [.lst (jn ((lft m st).map λk=>ju 2 m ((k:Nat):Int)))]=.fresh ((unl m st).map λ(s:Nat)=>D.int (s:Int)):=by
 have p8:=R9 hm.2;have ll:=j3a (m:=m) (st:=st);obtain⟨k0,r,e0⟩:∃k0 r,lft m st=k0::r:=by
  cases e:lft m st with
  |nil=>exact absurd e hne
  |cons k r=>exact⟨k,r,rfl⟩
 have h0:(lft m st).headD 0=k0:=by rw[e0];rfl
 have i0:atI (jn ((lft m st).map λk=>ju 2 m ((k:Nat):Int))) 0=a8 (j9 (ju 2 m (k0:Int))):=by rw[e0];simp[jn,atI,ixN]
 rw[jo (F:=V4) (by rfl) rfl];simp only[V4,Qp,enter];ext;rw[i0];ext
 try simp only[j9]
 ext;rw[j9p];rw[qt (l:=(unl m st).map λ(s:Nat)=>D.int (s:Int)) (by rfl) (by rw[xf,Xj];omega) ?_ (.inl rfl)]
 .ext
 .unfold unl;refine Ze λs hs=>Bq ?_ λ_=>by ext
  have hs':s<m:=Xb.mp hs;ext;rw[qt (l:=((lft m st).map λk=>decide (bt m s k≠bt m s k0)).map D.bl) (by rfl) (by simp only[jn,xf];omega) ?_ (.inl rfl)]
  .ext;rw[h0,lF];rfl
  .unfold jn;rw[Xf,Xf];refine qb λk hk=>zr (by ext) ?_;simp only[bK];ext;simp only[j9,j1z hs'];ext;rw[Kc];ext
def Q5{m s k:Nat}{L x:Int}{st:zo}(hk:k<2^m):(beh m L st s x).getD k 0=if bt m s k=x then st.getD k 0 else wal L (st.getD k 0):=by unfold beh;rw[kj,X4,P0 hk];rfl
def je2{m s:Nat}{L x:Int}{st:zo}:(beh m L st s x).length=2^m:=by unfold beh;rw[xf,Xj]
def q8{m k:Nat}{st:zo}:k∈lft m st↔k<2^m/\st.getD k 0 ≠ -1:=by unfold lft;rw[Xp,Xb,decide_eq_true_eq]
def W7{m s k:Nat}(hs:s<m):bt m s k=0\/bt m s k=1:=by
 have h:bt m s k∈ju 2 m (k:Int):=by unfold bt;rw[kj,kh (by rw[zf];exact hs)];exact Xr _
 have:=Ds (by decide) h;omega
def Zw{m s:Nat}{st:zo}:s∈unl m st↔s<m/\∃k∈lft m st,∃k'∈lft m st,bt m s k≠bt m s k':=by
 unfold unl;rw[Xp,Xb,List.any_eq_true];refine⟨λ⟨h1,k,hk,h2⟩=>⟨h1,k,hk,(lft m st).headD 0,?_,of_decide_eq_true h2⟩,λ⟨h1,k,hk,k',hk',h2⟩=>⟨h1,?_⟩⟩
 .cases e:lft m st with
  |nil=>rw[e]at hk;cases hk
  |cons x r=>exact xq ..
 .by_cases h:bt m s k=bt m s ((lft m st).headD 0)
  .exact⟨k',hk',decide_eq_true λz=>h2 (h.trans z.symm)⟩
  .exact⟨k,hk,decide_eq_true h⟩
def We{a:zo}{m:Nat}{st:zo}(ha:a.length=2^m)(h01:∀x∈a,x=0\/x=1):stl a m st=ah ↔ ∀k∈lft m st,∀k'∈lft m st,a.getD k 0=a.getD k' 0:=by
 have g:∀k∈lft m st,a.getD k 0=0\/a.getD k 0=1:=λk hk=>h01 _ (by
  rw[kj,kh (by have:=(q8.mp hk).1;omega)];exact Xr _)
 unfold stl;rw[dO,Bool.and_eq_false_iff];have c:∀v:Int,(Z8 a m st).contains v=ah ↔ ∃k∈lft m st,a.getD k 0=v:=λv=>by rw[iO];unfold Z8;rw[X8]
 constructor
 .intro h k hk k' hk';rcases h with h|h
  .have n:∀k∈lft m st,a.getD k 0≠0:=λk hk z=>by rw[(c 0).mpr ⟨k,hk,z⟩]at h;cases h
   have:=n k hk;have:=n k' hk';have:=g k hk;have:=g k' hk';omega
  .have n:∀k∈lft m st,a.getD k 0≠1:=λk hk z=>by rw[(c 1).mpr ⟨k,hk,z⟩]at h;cases h
   have:=n k hk;have:=n k' hk';have:=g k hk;have:=g k' hk';omega
 .intro h;cases e0:(Z8 a m st).contains 0 with
  |false=>exact .inl rfl
  |true =>
   refine .inr ?_;cases e1:(Z8 a m st).contains 1 with
   |false=>rfl
   |true =>obtain⟨k,hk,z⟩:=(c 0).mp e0;obtain⟨k',hk',z'⟩:=(c 1).mp e1;have:=h k hk k' hk';omega
def j45:∀m:Fin 4,∀k:Fin 8,∀k':Fin 8,k.val<2^m.val->k'.val<2^m.val->k≠k'->∃s:Fin 3,s.val<m.val/\bt m.val s.val k.val≠bt m.val s.val k'.val:=by decide +kernel
def j5c{a:zo}{m:Nat}{st:zo}(hm:m<=3)(ha:a.length=2^m)(h01:∀x∈a,x=0\/x=1)(h:stl a m st=a9):unl m st≠[]:=λz=>by
 have:stl a m st=ah:=(We ha h01).mpr λk hk k' hk'=>by
  by_cases e:k=k'
  .rw[e]
  .exfalso;have p8:=R9 hm;have b1:=(q8.mp hk).1;have b2:=(q8.mp hk').1;obtain⟨s,h1,h2⟩:=j45 ⟨m,by omega⟩ ⟨k,by omega⟩ ⟨k',by omega⟩ b1 b2 (λq=>e (congrArg Fin.val q));have:s.val∈unl m st:=Zw.mpr ⟨h1,k,hk,k',hk',h2⟩;rw[z]at this;cases this
 rw[h]at this;cases this
structure Vs(m:Nat)(L:Int)(st:zo):Prop where
 len:st.length=2^m
 bd:∀k,k<2^m->-1<=st.getD k 0/\st.getD k 0<=L
 ne:lft m st≠[]
noncomputable def wt(L c:Int):Nat:=if c = -1 then 0 else(L+1-c).toNat
noncomputable def mu(m:Nat)(L:Int)(st:zo):Nat:=((aA (2^m)).map λk=>wt L (st.getD k 0)).sum
theorem j0g{f g:Nat->Nat}:∀{l:List Nat},(∀k∈l,f k<=g k)->(l.map f).sum<=(l.map g).sum
 |[],_=>X3 _
 |k::l,h=>by rw[X5,X5,dS,dS];exact Nat.add_le_add (h k (xq ..)) (j0g λk hk=>h k (xg _ hk))
theorem Fq{f g:Nat->Nat}:∀{l:List Nat},(∀k∈l,f k<=g k)->(∃k∈l,f k<g k)->(l.map f).sum<(l.map g).sum
 |[],_,⟨_,h,_⟩=>by cases h
 |k::l,h,⟨j,hj,hl⟩=>by
  rw[X5,X5,dS,dS];rcases xr.mp hj with e|e
  .subst e;exact Nat.add_lt_add_of_lt_of_le hl (j0g λk hk=>h k (xg _ hk))
  .exact Nat.add_lt_add_of_le_of_lt (h k (xq ..)) (Fq (λk hk=>h k (xg _ hk)) ⟨j,e,hl⟩)
def W9{L c:Int}(hL:0<=L)(h:-1<=c/\c<=L):-1<=wal L c/\wal L c<=L/\wt L (wal L c)<=wt L c/\(c ≠ -1->wt L (wal L c)<wt L c)/\(wal L c ≠ -1->c ≠ -1/\wal L c=c+1):=by
 unfold wal wt;by_cases h1:c = -1
 .subst h1;simp;omega
 .by_cases h2:c=L
  .subst h2;simp[h1];omega
  .rw[if_neg nofun,if_neg nofun,if_neg h1];omega
def Vs.beh{m s:Nat}{L x:Int}{st:zo}(v:Vs m L st)(hL:0<=L)(hs:s∈unl m st)(hx:x=0\/x=1):Vs m L (beh m L st s x)/\mu m L (beh m L st s x)<mu m L st:=by
 obtain⟨hsm,k,hk,k',hk',hne⟩:=Zw.mp hs;have b1:=W7 (k:=k) hsm;have b2:=W7 (k:=k') hsm;obtain⟨i,hi,ei⟩:∃i∈lft m st,bt m s i=x:=by
  by_cases e:bt m s k=x
  .exact⟨k,hk,e⟩
  .exact⟨k',hk',by omega⟩
 obtain⟨j,hj,ej⟩:∃j∈lft m st,bt m s j≠x:=by
  by_cases e:bt m s k=x
  .exact⟨k',hk',by omega⟩
  .exact⟨k,hk,e⟩
 refine⟨⟨je2,λk hk=>?_,λz=>?_⟩,?_⟩
 .rw[Q5 hk];split
  .exact v.bd k hk
  .have:=W9 hL (v.bd k hk);exact⟨this.1,this.2.1⟩
 .have:i∈lft m (K48.beh m L st s x):=q8.mpr ⟨(q8.mp hi).1,by rw[Q5 (q8.mp hi).1,if_pos ei];exact(q8.mp hi).2⟩;rw[z]at this;cases this
 .unfold mu;refine Fq (λk hk=>?_) ⟨j,Xb.mpr (q8.mp hj).1,?_⟩
  .have hk:=Xb.mp hk;rw[Q5 hk];split
   .exact X3 _
   .exact(W9 hL (v.bd k hk)).2.2.1
  .rw[Q5 (q8.mp hj).1,if_neg ej];exact(W9 hL (v.bd j (q8.mp hj).1)).2.2.2.1 (q8.mp hj).2
noncomputable def NF(a:zo)(m:Nat)(L:Int):Nat->zo->Int
 |0,_=>0
 |f+1,st=>if stl a m st=ah then 0 else 1+J5 ((unl m st).map λs=>max (NF a m L f (beh m L st s 0)) (NF a m L f (beh m L st s 1)))
noncomputable def NN(a:zo)(m:Nat)(L:Int)(st:zo):Int:=NF a m L (mu m L st) st
def j56{a:zo}{m:Nat}{L:Int}(hL:0<=L):∀(f g:Nat)(st:zo),Vs m L st->mu m L st<=f->mu m L st<=g->NF a m L f st=NF a m L g st:=by
 have pos:∀st,Vs m L st->0<mu m L st:=λst v=>by
  obtain⟨k,hk⟩:=Tf _ v.ne;obtain⟨k1,k2⟩:=q8.mp hk;unfold mu;have:((aA (2^m)).map λ_=>0).sum<((aA (2^m)).map λk=>wt L (st.getD k 0)).sum:=Fq (λ_ _=>Pq _) ⟨k,Xb.mpr k1,by
   have:=v.bd k k1
   unfold wt;rw[if_neg k2];omega⟩
  omega
 intro f;induction f with
 |zero=>intro g st v h1 h2;have:=pos st v;omega
 |succ f ih =>
  intro g st v h1 h2;cases g with
  |zero=>have:=pos st v;omega
  |succ g =>
   unfold NF;by_cases e:stl a m st=ah
   .rw[if_pos e,if_pos e]
   .rw[if_neg e,if_neg e];congr 2;refine t7 λs hs=>?_;have w0:=v.beh hL hs (x:=0) (.inl rfl);have w1:=v.beh hL hs (x:=1) (.inr rfl);rw[ih g _ w0.1 nofun nofun,ih g _ w1.1 nofun nofun]
def Ws{a:zo}{m:Nat}{L:Int}{st:zo}(h:stl a m st=ah):NN a m L st=0:=by
 unfold NN;cases mu m L st with
 |zero=>rfl
 |succ f=>unfold NF;rw[if_pos h]
def Kv{a:zo}{m:Nat}{L:Int}{st:zo}(hL:0<=L)(v:Vs m L st)(h:stl a m st=a9):NN a m L st=1+J5 ((unl m st).map λs=>max (NN a m L (beh m L st s 0)) (NN a m L (beh m L st s 1))):=by have e:NN a m L st=NF a m L (mu m L st+1) st:=j56 hL _ _ st v (X3 _) (Pn _);rw[e];unfold NF;rw[if_neg (by rw[h];exact xj)];congr 2;refine t7 λs hs=>?_;have w0:=v.beh hL hs (x:=0) (.inl rfl);have w1:=v.beh hL hs (x:=1) (.inr rfl);unfold NN;rw[j56 hL (mu m L st) _ _ w0.1 nofun (X3 _),j56 hL (mu m L st) _ _ w1.1 nofun (X3 _)]
section
variable{a:zo}{m:Nat}{L:Int}
def jbe{s:Nat}{st:zo}(hL:0<=L)(v:Vs m L st)(h:stl a m st=a9)(hs:s∈unl m st):NN a m L st<=1+max (NN a m L (beh m L st s 0)) (NN a m L (beh m L st s 1)):=by rw[Kv hL v h];have:=(Qt (ns:=(unl m st).map λs=>max (NN a m L (beh m L st s 0)) (NN a m L (beh m L st s 1))) (by simp;exact λz=>by rw[z]at hs;cases hs)).2 _ (cu hs);omega
def j55{st:zo}(hm:m<=3)(ha:a.length=2^m)(h01:∀x∈a,x=0\/x=1)(hL:0<=L)(v:Vs m L st)(h:stl a m st=a9):∃s∈unl m st,NN a m L st=1+max (NN a m L (beh m L st s 0)) (NN a m L (beh m L st s 1)):=by rw[Kv hL v h];obtain⟨s,hs,e⟩:=X8.mp (Qt (ns:=(unl m st).map λs=>max (NN a m L (beh m L st s 0)) (NN a m L (beh m L st s 1))) (by simpa using j5c hm ha h01 h)).1;exact⟨s,hs,by rw[<-e]⟩
def j4x{P:zo->Prop}(h:∀st,Vs m L st->(∀st',Vs m L st'->mu m L st'<mu m L st->P st')->P st):∀st,Vs m L st->P st:=by
 have go:∀n st,Vs m L st->mu m L st<n->P st:=λn=>by
  induction n with
  |zero=>intro st v z;omega
  |succ n ih=>intro st v z;exact h st v λst' v' z'=>ih st' v' nofun
 exact λst v=>go _ st v (cj _)
def jbd(hm:m<=3)(ha:a.length=2^m)(h01:∀x∈a,x=0\/x=1)(hL:0<=L):∀st,Vs m L st->0<=NN a m L st :=
 j4x λst v ih=>by
  cases e:stl a m st with
  |true=>rw[Ws e];exact Tg _
  |false =>obtain⟨s,hs,e2⟩:=j55 hm ha h01 hL v e;have w0:=v.beh hL hs (x:=0) (.inl rfl);have:=ih _ w0.1 w0.2;omega
def jed{L':Int}(hm:m<=3)(ha:a.length=2^m)(h01:∀x∈a,x=0\/x=1)(hL:0<=L)(hL':0<=L')(hle:L'<=L):∀st,Vs m L st->∀st',Vs m L' st'->(∀k,k<2^m->st'.getD k 0 ≠ -1->st.getD k 0=st'.getD k 0)->NN a m L' st'<=NN a m L st :=
 j4x λst v ih st' v' R=>by
  have sub:∀k∈lft m st',k∈lft m st:=λk hk=>by obtain⟨k1,k2⟩:=q8.mp hk;exact q8.mpr ⟨k1,by rw[R k k1 k2];exact k2⟩
  have rel:∀s x,∀k,k<2^m->(beh m L' st' s x).getD k 0 ≠ -1->(beh m L st s x).getD k 0=(beh m L' st' s x).getD k 0:=λs x k hk hn=>by
   rw[Q5 hk]at hn ⊢;rw[Q5 hk];by_cases e:bt m s k=x
   .rw[if_pos e]at hn ⊢;rw[if_pos e];exact R k hk hn
   .rw[if_neg e]at hn ⊢;rw[if_neg e];obtain⟨z1,z2⟩:=(W9 hL' (v'.bd k hk)).2.2.2.2 hn;have r:=R k hk z1;rw[r,z2];have b:=(W9 hL' (v'.bd k hk)).2.1;unfold wal;rw[if_neg nofun]
  cases e':stl a m st' with
  |true=>rw[Ws e'];exact jbd hm ha h01 hL st v
  |false =>
   have e:stl a m st=a9:=by
    cases z:stl a m st with
    |false=>rfl
    |true =>have:=(We ha h01).mp z;rw[(We ha h01).mpr λk hk k' hk'=>this k (sub k hk) k' (sub k' hk')]at e';cases e'
   obtain⟨s,hs,e2⟩:=j55 hm ha h01 hL v e;have w0:=v.beh hL hs (x:=0) (.inl rfl);have w1:=v.beh hL hs (x:=1) (.inr rfl);by_cases hu:s∈unl m st'
   .have u0:=v'.beh hL' hu (x:=0) (.inl rfl);have u1:=v'.beh hL' hu (x:=1) (.inr rfl);have:=jbe hL' v' e' hu;have i0:=ih _ w0.1 w0.2 _ u0.1 (rel s 0);have i1:=ih _ w1.1 w1.2 _ u1.1 (rel s 1);omega
   .have hsm:=(Zw.mp hs).1;obtain⟨k0,hk0⟩:=Tf _ v'.ne;have same:∀k∈lft m st',bt m s k=bt m s k0:=λk hk=>by
     by_cases z:bt m s k=bt m s k0
     .exact z
     .exact absurd (Zw.mpr ⟨hsm,k,hk,k0,hk0,z⟩) hu
    have keep:∀k,k<2^m->st'.getD k 0 ≠ -1->(beh m L st s (bt m s k0)).getD k 0=st'.getD k 0:=λk hk hn=>by rw[Q5 hk,if_pos (same k (q8.mpr ⟨hk,hn⟩))];exact R k hk hn
    rcases W7 (k:=k0) hsm with z|z
    .rw[z]at keep;have:=ih _ w0.1 w0.2 st' v' keep;omega
    .rw[z]at keep;have:=ih _ w1.1 w1.2 st' v' keep;omega
end
section
variable{a p:zo}{m:Nat}{L:Int}
def Lr{k:Nat}:k∈inL p m↔k<2^m/\fits p (ju 2 m (k:Int))=ah:=by unfold inL;rw[Xp,Xb]
def Oo{k:Nat}(hp:p.length=m):k∈inL p m↔k<2^m/\∀s,s<m->p.getD s 0=2\/p.getD s 0=bt m s k:=by rw[Lr,j1k (by rw[zf,hp]),hp];rfl
def j37(ha:a.length=2^m)(h01:∀x∈a,x=0\/x=1):opB a m p=a9 ↔ ∀k∈inL p m,∀k'∈inL p m,a.getD k 0=a.getD k' 0:=by
 have g:∀k∈inL p m,a.getD k 0=0\/a.getD k 0=1:=λk hk=>h01 _ (by
  rw[kj,kh (by have:=(Lr.mp hk).1;omega)];exact Xr _)
 have c:∀v:Int,cnt a p m v=0 ↔ ∀k∈inL p m,a.getD k 0≠v:=λv=>by unfold cnt;rw[List.countP_eq_zero];exact⟨λh k hk z=>h k hk (beq_iff_eq.mpr z),λh k hk z=>h k hk (beq_iff_eq.mp z)⟩
 unfold opB stD j40;by_cases h1:cnt a p m 1=0
 .rw[if_pos h1];refine⟨λ_ k hk k' hk'=>?_,λ_=>rfl⟩;have:=(c 1).mp h1 k hk;have:=(c 1).mp h1 k' hk';have:=g k hk;have:=g k' hk';omega
 .rw[if_neg h1];by_cases h0:cnt a p m 0=0
  .rw[if_pos h0];refine⟨λ_ k hk k' hk'=>?_,λ_=>rfl⟩;have:=(c 0).mp h0 k hk;have:=(c 0).mp h0 k' hk';have:=g k hk;have:=g k' hk';omega
  .rw[if_neg h0];refine⟨λz=>(by cases z),λz=>?_⟩;exfalso;have e1:∃k∈inL p m,a.getD k 0=1:=bV λq=>h1 ((c 1).mpr λk hk e=>q ⟨k,hk,e⟩);have e0:∃k∈inL p m,a.getD k 0=0:=bV λq=>h0 ((c 0).mpr λk hk e=>q ⟨k,hk,e⟩);obtain⟨k,hk,e⟩:=e1;obtain⟨k',hk',e'⟩:=e0;have:=z k hk k' hk';omega
def Mr{s j:Nat}{c:Int}(hs:s<p.length):(p.set s c).getD j 0=if s=j then c else p.getD j 0:=Rj hs
def Wn{s k:Nat}{x:Int}(hp:p.length=m)(hs:s<m)(h2:p.getD s 0=2)(hx:x=0\/x=1):k∈inL (p.set s x) m↔k∈inL p m/\bt m s k=x:=by
 rw[Oo (by rw[T5];exact hp),Oo hp];refine⟨λ⟨h1,h⟩=>⟨⟨h1,λt ht=>?_⟩,?_⟩,λ⟨⟨h1,h⟩,hb⟩=>⟨h1,λt ht=>?_⟩⟩
 .by_cases e:s=t
  .rw[<-e];exact .inl h2
  .have:=h t ht;rw[Mr nofun,if_neg e]at this;exact this
 .have:=h s hs;rw[Mr nofun,if_pos rfl]at this;omega
 .rw[Mr nofun];by_cases e:s=t
  .rw[if_pos e,<-e];exact .inr hb.symm
  .rw[if_neg e];exact h t ht
def Il{s:Nat}:s∈ql p m↔s<m/\p.getD s 0=2:=by unfold ql;rw[Xp,Xb,decide_eq_true_eq]
def max2(x y:Int):qz [x,y]=max x y:=by
 have:=Rb (ns:=[x,y]) (by simp);have h1:=this.2 x (by simp);have h2:=this.2 y (by simp);have h3:qz [x,y]=x\/qz [x,y]=y:=by simpa using this.1
 omega
def jkw(hm:m<=3)(ha:a.length=2^m)(h01:∀x∈a,x=0\/x=1)(hL:0<=L):∀st,Vs m L st->∀p:zo,p.length=m->(∀t∈p,0<=t/\t<3)->(∀k∈inL p m,k∈lft m st)->Rp 1 a m p<=NN a m L st :=
 j4x λst v ih p hp h3 sub=>by
  cases e:opB a m p with
  |false=>rw[O7 e];exact jbd hm ha h01 hL st v
  |true =>
   have es:stl a m st=a9:=by
    cases z:stl a m st with
    |false=>rfl
    |true =>have:=(We ha h01).mp z;rw[(j37 ha h01).mpr λk hk k' hk'=>this k (sub k hk) k' (sub k' hk')]at e;cases e
   obtain⟨s,hs,e2⟩:=j55 hm ha h01 hL v es;have hsm:=(Zw.mp hs).1;have w0:=v.beh hL hs (x:=0) (.inl rfl);have w1:=v.beh hL hs (x:=1) (.inr rfl);have kp:∀x k,k∈lft m st->bt m s k=x->k∈lft m (beh m L st s x):=λx k hk hb=>by obtain⟨k1,k2⟩:=q8.mp hk;exact q8.mpr ⟨k1,by rw[Q5 k1,if_pos hb];exact k2⟩
   by_cases h2:p.getD s 0=2
   .have st1:=jai hp h3 e (Il.mpr ⟨hsm,h2⟩);rw[max2]at st1;have i0:=ih _ w0.1 w0.2 (p.set s 0) (by rw[T5];exact hp) (j2w (.inl rfl) h3) λk hk=>kp 0 k (sub k ((Wn hp hsm h2 (.inl rfl)).mp hk).1) ((Wn hp hsm h2 (.inl rfl)).mp hk).2;have i1:=ih _ w1.1 w1.2 (p.set s 1) (by rw[T5];exact hp) (j2w (.inr rfl) h3) λk hk=>kp 1 k (sub k ((Wn hp hsm h2 (.inr rfl)).mp hk).1) ((Wn hp hsm h2 (.inr rfl)).mp hk).2;omega
   .have hb:∀k∈inL p m,bt m s k=p.getD s 0:=λk hk=>(((Oo hp).mp hk).2 s hsm).elim (λz=>absurd z h2) λz=>z.symm;have d:=h3 (p.getD s 0) (by rw[kj,kh nofun];exact Xr _);rcases(show p.getD s 0=0\/p.getD s 0=1 by omega)with z|z
    .have:=ih _ w0.1 w0.2 p hp h3 λk hk=>kp 0 k (sub k hk) ((hb k hk).trans z);omega
    .have:=ih _ w1.1 w1.2 p hp h3 λk hk=>kp 1 k (sub k hk) ((hb k hk).trans z);omega
def jik{L:Nat}{s:Nat}{B:Int}(hm:m<=3)(ha:a.length=2^m)(h01:∀x∈a,x=0\/x=1)(hs:s<m)(hB:0<=B)
  (hx:∀x,x=0\/x=1->∀st,Vs m (L:Int) st->(∀k∈lft m st,k∈inL p m/\bt m s k=x)->NN a m L st<=B) :
  ∀(r c0 c1:Nat)(st:zo),r+c0+c1=2*L+1->c0<=L+1->c1<=L+1->Vs m (L:Int) st->(∀k∈lft m st,k∈inL p m)->(∀k∈lft m st,(bt m s k=1->(c0:Int)<=st.getD k 0)/\(bt m s k=0->(c1:Int)<=st.getD k 0))->NN a m L st<=(r:Int)+B:=by
 intro r;induction r with
 |zero =>
  intro c0 c1 st hr h0 h1 v sub cs;have bd:∀k∈lft m st,st.getD k 0<=L:=λk hk=>(v.bd k (q8.mp hk).1).2;by_cases e:c0=L+1
  .have:=hx 0 (.inl rfl) st v λk hk=>⟨sub k hk,by
    have:=W7 (k:=k) hs;have:=cs k hk;have:=bd k hk;omega⟩
   omega
  .have:=hx 1 (.inr rfl) st v λk hk=>⟨sub k hk,by
    have:=W7 (k:=k) hs;have:=cs k hk;have:=bd k hk;omega⟩
   omega
 |succ r ih =>
  intro c0 c1 st hr h0 h1 v sub cs;have bd:∀k∈lft m st,st.getD k 0<=L:=λk hk=>(v.bd k (q8.mp hk).1).2;have hL:(0:Int)<=(L:Int):=k9 L;cases e:stl a m st with
  |true=>rw[Ws e];omega
  |false =>
   by_cases hu:s∈unl m st
   .have two:=Zw.mp hu;have l0:c0<=L:=bV λz=>by obtain⟨_,k,hk,k',hk',hne⟩:=two;have:=W7 (k:=k) hs;have:=W7 (k:=k') hs;have:=cs k hk;have:=cs k' hk';have:=bd k hk;have:=bd k' hk';omega
    have l1:c1<=L:=bV λz=>by obtain⟨_,k,hk,k',hk',hne⟩:=two;have:=W7 (k:=k) hs;have:=W7 (k:=k') hs;have:=cs k hk;have:=cs k' hk';have:=bd k hk;have:=bd k' hk';omega
    have w0:=v.beh hL hu (x:=0) (.inl rfl);have w1:=v.beh hL hu (x:=1) (.inr rfl);have old:∀x k,k∈lft m (beh m L st s x)->k∈lft m st/\(bt m s k=x->(beh m L st s x).getD k 0=st.getD k 0)/\(bt m s k≠x->(beh m L st s x).getD k 0=st.getD k 0+1):=λx k hk=>by
     obtain⟨k1,k2⟩:=q8.mp hk;rw[Q5 k1]at k2 ⊢;by_cases z:bt m s k=x
     .rw[if_pos z]at k2 ⊢;exact⟨q8.mpr ⟨k1,k2⟩,λ_=>rfl,λq=>absurd z q⟩
     .rw[if_neg z]at k2 ⊢;obtain⟨z1,z2⟩:=(W9 hL (v.bd k k1)).2.2.2.2 k2;exact⟨q8.mpr ⟨k1,z1⟩,λq=>absurd q z,λ_=>z2⟩
    have i0:=ih (c0+1) c1 _ nofun nofun h1 w0.1 (λk hk=>sub k (old 0 k hk).1) λk hk=>by
     obtain⟨q1,q2,q3⟩:=old 0 k hk;have:=cs k q1;refine⟨λz=>?_,λz=>?_⟩
     .rw[q3 nofun];have:=this.1 z;omega
     .rw[q2 z];exact this.2 z
    have i1:=ih c0 (c1+1) _ nofun h0 nofun w1.1 (λk hk=>sub k (old 1 k hk).1) λk hk=>by
     obtain⟨q1,q2,q3⟩:=old 1 k hk;have:=cs k q1;refine⟨λz=>?_,λz=>?_⟩
     .rw[q2 z];exact this.1 z
     .rw[q3 nofun];have:=this.2 z;omega
    have:=jbe hL v e hu;omega
   .obtain⟨k0,hk0⟩:=Tf _ v.ne;have same:∀k∈lft m st,bt m s k=bt m s k0:=λk hk=>by
     by_cases z:bt m s k=bt m s k0
     .exact z
     .exact absurd (Zw.mpr ⟨hs,k,hk,k0,hk0,z⟩) hu
    have:=hx _ (W7 (k:=k0) hs) st v λk hk=>⟨sub k hk,same k hk⟩
    omega
def jkv{L:Nat}(hm:m<=3)(ha:a.length=2^m)(h01:∀x∈a,x=0\/x=1):∀p:zo,p.length=m->(∀t∈p,0<=t/\t<3)->∀st,Vs m (L:Int) st->(∀k∈lft m st,k∈inL p m)->NN a m L st<=(2*L+1:Int)*Rp 1 a m p :=
 jhw λp hp h3 ih st v sub=>by
  cases e:opB a m p with
  |false =>rw[O7 e,mf];have:=(j37 ha h01).mp e;rw[Ws ((We ha h01).mpr λk hk k' hk'=>this k (sub k hk) k' (sub k' hk'))];exact Tg _
  |true =>
   obtain⟨S,hS,eR⟩:=jkf (k:=1) (X3 _) h01 hp h3 e;obtain⟨q1,q2,q3⟩:=Mi hS;obtain⟨s,rfl⟩:∃s,S=[s]:=by
    match S,q2,q3 with
    |[],_,q=>exact absurd rfl q
    |[s],_,_=>exact⟨s,rfl⟩
    |_::_::_,q,_=>simp at q
   have hso:s∈ql p m:=List.singleton_sublist.mp q1;obtain⟨hs,h2⟩:=Il.mp hso;have es:seL p [s]=[p.set s 0,p.set s 1]:=rfl;rw[es]at eR;have eR:Rp 1 a m p=1+qz [Rp 1 a m (p.set s 0),Rp 1 a m (p.set s 1)]:=eR;rw[max2]at eR;have n0:=jb5 (k:=1) (a:=a) (m:=m) (p:=p.set s 0);have n1:=jb5 (k:=1) (a:=a) (m:=m) (p:=p.set s 1);have key:=jik (L:=L) (p:=p) (s:=s) (B:=(2*L+1:Int)*max (Rp 1 a m (p.set s 0)) (Rp 1 a m (p.set s 1))) hm ha h01 hs (Int.mul_nonneg nofun nofun) (λx hx st' v' h'=>by
    have o:=jj3 hp h3 hS (q:=p.set s x) (by rw[es];rcases hx with z|z<;>subst z<;>simp)
    have:=ih (p.set s x) o.1 o.2.1 o.2.2 st' v' λk hk=>(Wn hp hs h2 hx).mpr (h' k hk)
    refine iQ this (Int.mul_le_mul_of_nonneg_left ?_ nofun)
    rcases hx with z|z<;>subst z<;>omega) (2*L+1) 0 0 st nofun nofun nofun v sub λk hk=>by have:=(q8.mp hk).2;have:=(v.bd k (q8.mp hk).1).1;omega
   rw[eR,Int.mul_add,jE];have:((2*L+1:Nat):Int)=2*(L:Int)+1:=by omega
   rw[this]at key;exact key
end
theorem K8{f:zo->Int}{k:zo}:∀{ks:List zo},k∈ks->zp ks ((ks.map f).map D.int) k=a8 (.int (f k))
 |[],h=>by cases h
 |k'::ks,h=>by
  show(if k'=k then _ else _)=_;by_cases e:k'=k
  .rw[if_pos e,e]
  .rw[if_neg e];exact K8 ((xr.mp h).resolve_left λz=>e z.symm)
theorem j14{α:Type}[DecidableEq α]:∀{l S:List α},l.Nodup->(∀x∈l,x∈S)->l.length<=S.length
 |[],_,_,_=>Pq _
 |x::l,S,hn,h=>by have hx:=h x (xq ..);have:=j14 (l:=l) (S:=S.erase x) (Xk.mp hn).2 λy hy=>(List.mem_erase_of_ne (λ(e:y=x)=>(Xk.mp hn).1 (by rw[<-e];exact hy))).mpr (h y (xg _ hy));rw[List.length_erase_of_mem hx]at this;have:=List.length_pos_of_mem hx;rw[xx];omega
noncomputable def stS:Nat->List zo
 |0=>[[]]
 |n+1=>(stS n).map (-1 :: ·)++(stS n).map (0 :: ·)++(stS n).map (1 :: ·)++(stS n).map (2 :: ·)
theorem j2u:∀n,(stS n).length=4^n
 |0=>rfl
 |n+1=>by unfold stS;simp only[Xd,xf,j2u n];rw[cS];omega
theorem j39:∀{n:Nat}{st:zo},st.length=n->(∀x∈st,-1<=x/\x<=2)->st∈stS n
 |0,[],_,_=>by simp[stS]
 |0,_::_,h,_=>by simp at h
 |n+1,[],h,_=>by simp at h
 |n+1,x::st,h,hx=>by have ih:=j39 (n:=n) (st:=st) (by simpa using h) λy hy=>hx y (xg _ hy);have:=hx x (xq ..);unfold stS;rcases(show x = -1\/x=0\/x=1\/x=2 by omega)with e|e|e|e<;>subst e<;>simp[ih]
section
variable{a:zo}{m:Nat}{L:Int}{ws:List aq}
structure Gd(m:Nat)(L:Int)(B:Nat)(ks ks':List zo):Prop where
 vs:∀k∈ks',Vs m L k
 nd:ks'.Nodup
 sub:∀k∈ks,k∈ks'
 bd:∀k∈ks',k∈ks\/mu m L k<=B
def Gd.trans{B:Nat}{ks ks1 ks2:List zo}(h1:Gd m L B ks ks1)(h2:Gd m L B ks1 ks2):Gd m L B ks ks2 :=
 ⟨h2.vs,h2.nd,λk hk=>h2.sub k (h1.sub k hk),λk hk=>(h2.bd k hk).elim (λz=>h1.bd k z) .inr⟩
def Gd.mono{B B':Nat}{ks ks1:List zo}(h1:Gd m L B ks ks1)(h:B<=B'):Gd m L B' ks ks1:=⟨h1.vs,h1.nd,h1.sub,λk hk=>(h1.bd k hk).imp id λz=>Xg z h⟩
def Gd.refl{B:Nat}{ks:List zo}(h1:∀k∈ks,Vs m L k)(h2:ks.Nodup):Gd m L B ks ks:=⟨h1,h2,λ_ h=>h,λ_ h=>.inl h⟩
def j6u(hm:m<=3)(hL:L<=2){ks:List zo}(h1:∀k∈ks,Vs m L k)(h2:ks.Nodup):ks.length<av:=by
 have p8:=R9 hm;have:=j14 (S:=stS (2^m)) h2 λk hk=>j39 (h1 k hk).len λx hx=>by obtain⟨i,hi,e⟩:=jC hx;have:=(h1 k hk).bd i (by have:=(h1 k hk).len;omega);rw[kj,kh hi,Tp,e]at this;omega
 rw[j2u]at this;have:4^(2^m)<=4^8:=Tj (by decide) p8;have e:(4:Nat)^8=65536:=by decide
 rw[cD];omega
theorem Nj{α:Type}{f:D->List zo->zo->Option (D×List zo×zo)}{B:Nat}{h r:α->D}:∀(l:List α)(ks:List zo),(∀k∈ks,Vs m L k)->ks.Nodup ->
  (∀x∈l,∀ks,(∀k∈ks,Vs m L k)->ks.Nodup->∃ks',f (h x) ks (ks.map (NN a m L))=a8 (r x,ks',ks'.map (NN a m L))/\Gd m L B ks ks') ->
  ∃ks',vd f (l.map h) ks (ks.map (NN a m L))=a8 (l.map r,ks',ks'.map (NN a m L))/\Gd m L B ks ks'
 |[],ks,h1,h2,_=>⟨ks,rfl,.refl h1 h2⟩
 |x::l,ks,h1,h2,hf=>by obtain⟨ks1,e1,g1⟩:=hf x (xq ..) ks h1 h2;obtain⟨ks2,e2,g2⟩:=Nj l ks1 g1.vs g1.nd λy hy=>hf y (xg _ hy);refine⟨ks2,?_,g1.trans g2⟩;rw[X5,X5,vd,e1];dsimp only;rw[e2]
theorem j10{f:Nat->Int}:∀l:List Nat,U8 (l.map λs=>D.int (f s)) (l.map λ(s:Nat)=>D.int (s:Int))=a8 (l.map λs=>[f s,(s:Int)])
 |[]=>rfl
 |s::l=>by rw[X5,X5,U8,j10 l];rfl
def jg2{f:Nat->Int}{l:List Nat}(hl:l≠[]):∃t:Int,((l.map λs=>[f s,(s:Int)])[aU (zy (l.map λs=>[f s,(s:Int)])) ((l.map λs=>[f s,(s:Int)]).length-1)]?)=a8 [J5 (l.map f),t]:=by
 have h2:∀k∈l.map (λs=>[f s,(s:Int)]),k.length=2:=λk hk=>by obtain⟨s,_,e⟩:=X8.mp hk;rw[<-e];rfl
 have hp:0<(l.map λs=>[f s,(s:Int)]).length:=by rw[xf];exact List.length_pos_iff.mpr hl
 obtain⟨b1,b2⟩:=Bo (l.map λs=>[f s,(s:Int)]) h2 _ (Nat.sub_lt hp Nat.one_pos);generalize aU (zy (l.map λs=>[f s,(s:Int)])) ((l.map λs=>[f s,(s:Int)]).length-1)=i at b1 b2;rw[xf]at b1 b2 hp;have hi:i<l.length:=by omega
 have gt:∀j,j<l.length->(l.map λs=>[f s,(s:Int)]).getD j []=[f (l.getD j 0),((l.getD j 0:Nat):Int)]:=λj hj=>by rw[kj,X4,kj,kh hj];rfl
 refine⟨((l.getD i 0:Nat):Int),?_⟩;have e:J5 (l.map f)=f (l.getD i 0):=by
  have mm:=Qt (ns:=l.map f) (by simpa using hl);obtain⟨s,hs,es⟩:=X8.mp mm.1;obtain⟨j,hj,ej⟩:=jC hs;have z1:=mm.2 (f (l.getD i 0)) (cu (by rw[kj,kh hi];exact Xr _));have z2:=b2 j nofun
  rw[gt i hi,gt j hj]at z2;have z2:f (l.getD i 0)<=f (l.getD j 0):=z2;rw[kj (l:=l) (i:=j),kh hj,Tp,ej,es]at z2;omega
 rw[e];have:=gt i hi;rw[kj,kh (by rw[xf];exact hi),Tp]at this;rw[kh (by rw[xf];exact hi),this]
end
def dqN:dq "number_filled_in" = ("#number_filled_in":aq):=by decide +kernel
def dqB:dq "best_ask" = ("#best_ask":aq):=by decide +kernel
def dqG:dq "greatest_behind" = ("#greatest_behind":aq):=by decide +kernel
def jhv{Γ:aq->List D->Rc}{f:aq}{x y z u v:D}:Qm Γ f (a8 (.a [.e x,.e y,.e z,.e u,.e v]))=rcW (Γ f [x,y,z,u,v]):=U0 rfl
def j8g{Γ:aq->List D->Rc}{t j:Nat}{it es:Ex}{f:aq}{ks:List zo}{ns:zo}{ρ:En}:Yh Γ G (.maxc t j it f es) ks ns ρ=Ul (lsD t j (ev Γ G it ρ) ρ) λl ρ3=>Oi (vd (λd ks ns=>callD Γ f (ev Γ G es (ρ3.set j (.val d))) ks ns) l ks ns):=(rfl)
def j8f{Γ:aq->List D->Rc}{t j:Nat}{it es:Ex}{f:aq}{ks:List zo}{ns:zo}{ρ:En}:Yh Γ G (.minc t j it f es) ks ns ρ=Ul (lsD t j (ev Γ G it ρ) ρ) λl ρ3=>Lp l (vd (λd ks ns=>callD Γ f (ev Γ G es (ρ3.set j (.val d))) ks ns) l ks ns):=(rfl)
def Mh{Γ:aq->List D->Rc}{s t:Nat}{c es:Ex}{f:aq}{ks:List zo}{ns:zo}{ρ:En}:Yh Γ G (.fill s t c f es) ks ns ρ=Rm s t ρ ks ns (ev Γ G c ρ) (callD Γ f (ev Γ G es (ρ.set t (.val (.bl a9)))) ks ns):=(rfl)
def j4q{ks ks':List zo}{ns ns':zo}{d:D}{r:List zo->zo->Option (D×List zo×zo)}(h:r ks ns=a8 (d,ks',ns')):dxS (a8 (.val (.dct ks (ns.map D.int)))) r=.ret (.dval d ks' ns'):=by unfold dxS;simp only[zu,h]
def Ox{Γ:aq->List D->Rc}{f:aq}{w:Option W}{ks ks':List zo}{ns ns':zo}{d:D}{rs:List Rk}{ds:List D}(h1:w=a8 (.a rs))(h2:zg rs=a8 ds)(h3:Γ (dq f) (.dct ks (ns.map D.int)::ds)=.dval d ks' ns'):callD Γ f w ks ns=a8 (d,ks',ns'):=by unfold callD;rw[h1];dsimp only;rw[h2];dsimp only;rw[h3]
section
variable{a:zo}{m:Nat}{L:Int}{ws:List aq}
noncomputable def Nx(a:zo)(m:Nat)(L:Int)(ks:List zo):D:=.dct ks ((ks.map (NN a m L)).map D.int)
def j54(a:zo)(m:Nat)(L:Int)(ws:List aq)(X:Nat)(st:zo):Prop:=∀ks,(∀k∈ks,Vs m L k)->ks.Nodup->∃ks',evP 1000 G T X "#number_filled_in" [Nx a m L ks,j9 st,qD ws a,.int L]=.dval (.int (NN a m L st)) ks' (ks'.map (NN a m L))/\Gd m L (mu m L st) ks ks'/\st∈ks'
def j4m{X s:Nat}{st:zo}(hw:ws.length=m)(hm:1<=m/\m<=3)(hL:0<=L/\L<=2)(v:Vs m L st)(hs:s∈unl m st)(ih:∀st',Vs m L st'->mu m L st'<mu m L st->j54 a m L ws (X+4) st')(ks:List zo)(h1:∀k∈ks,Vs m L k)(h2:ks.Nodup) :
  ∃ks',evP 1000 G T (X+5) "#greatest_behind" [Nx a m L ks,j9 st,.int s,qD ws a,.int L]=.dval (.int (max (NN a m L (beh m L st s 0)) (NN a m L (beh m L st s 1)))) ks' (ks'.map (NN a m L))/\Gd m L (mu m L st-1) ks ks':=by
 have hsm:=(Zw.mp hs).1;have sb:=λx:Int=>j21 (n:=X) (ws:=ws) (a:=a) (x:=x) (L:=L) hw hm v.len hsm;have w:=λ(x:Int) hx=>v.beh hL.1 hs (x:=x) hx;obtain⟨ks',e1,g1⟩:=Nj (a:=a) (m:=m) (L:=L) (f:=λd ks ns=>callD (evP 1000 G T (X+4)) "number_filled_in" (ev (evP 1000 G T (X+4)) G (.cons (.var 7) (.cons (.var 3) (.cons (.var 4) .nil))) (([.exc rfN,.val (j9 st),.val (.int s),.val (qD ws a),.val (.int L),.val (.lst [j9 (beh m L st s 0),j9 (beh m L st s 1)]),.un,.un]:En).set 7 (.val d))) ks ns)
  (B:=mu m L st-1) (h:=λx:Int=>j9 (beh m L st s x)) (r:=λx:Int=>D.int (NN a m L (beh m L st s x))) [0,1] ks h1 h2 (λx hx ks h1 h2=>by
   have hx:x=0\/x=1:=by simpa using hx
   obtain⟨ks',e,g,_⟩:=ih _ (w x hx).1 (w x hx).2 ks h1 h2
   refine⟨ks',Ox (rs:=[.e (j9 (beh m L st s x)),.e (qD ws a),.e (.int L)]) (ds:=[j9 (beh m L st s x),qD ws a,.int L]) (by simp only[Xz,Xy];ext) (by rfl) (by rw[dqN];exact e),g.mono (by have:=(w x hx).2;omega)⟩)
 refine⟨ks',?_,g1⟩;rw[jo (F:=Qv) (by rfl) rfl];simp only[Qv,Yg,enter,Nx,j0q];have hit:ev (evP 1000 G T (X+4)) G (.comp [6] (.call "state_behind" (.cons (.var 1) (.cons (.var 2) (.cons (.var 6) (.cons (.var 3) (.cons (.var 4) .nil)))))) (.seq (.glob "ANSWERS")) .nil) [.exc rfN,.val (j9 st),.val (.int s),.val (qD ws a),.val (.int L),.un,.un,.un]=a8 (.v (.o [j9 (beh m L st s 0),j9 (beh m L st s 1)])):=by
  ext;simp only[gA];ext;rw[qt (l:=[j9 (beh m L st s 0),j9 (beh m L st s 1)]) (by rfl) (by decide) ?_ (.inl rfl)];have:∀x:Int,Jz [6] (ev (evP 1000 G T (X+4)) G .nil) (ev (evP 1000 G T (X+4)) G (.call "state_behind" (.cons (.var 1) (.cons (.var 2) (.cons (.var 6) (.cons (.var 3) (.cons (.var 4) .nil))))))) [.exc rfN,.val (j9 st),.val (.int s),.val (qD ws a),.val (.int L),.un,.un,.un] (.int x)=a8 (a8 (j9 (beh m L st s x))):=λx=>by refine zr (by ext) ?_;ext;rw[jhv,sb];ext
  have z:=qb (f:=Jz [6] (ev (evP 1000 G T (X+4)) G .nil) (ev (evP 1000 G T (X+4)) G (.call "state_behind" (.cons (.var 1) (.cons (.var 2) (.cons (.var 6) (.cons (.var 3) (.cons (.var 4) .nil))))))) [.exc rfN,.val (j9 st),.val (.int s),.val (qD ws a),.val (.int L),.un,.un,.un]) (h:=λx:Int=>D.int x) (g:=λx:Int=>j9 (beh m L st s x)) (L:=[0,1]) λx _=>this x;exact z
 show fin (dxS (a8 (.val (.dct ks ((ks.map (NN a m L)).map D.int)))) λks ns=>Yh (evP 1000 G T (X+4)) G (.maxc 5 7 (.comp [6] (.call "state_behind" (.cons (.var 1) (.cons (.var 2) (.cons (.var 6) (.cons (.var 3) (.cons (.var 4) .nil)))))) (.seq (.glob "ANSWERS")) .nil) "number_filled_in" (.cons (.var 7) (.cons (.var 3) (.cons (.var 4) .nil)))) ks ns [.exc rfN,.val (j9 st),.val (.int s),.val (qD ws a),.val (.int L),.un,.un,.un])=_;rw[j4q (d:=.int (max (NN a m L (beh m L st s 0)) (NN a m L (beh m L st s 1)))) (ks':=ks') (ns':=ks'.map (NN a m L))]
 .rfl
 .rw[j8g,hit];have e3:lsD 5 7 (a8 (.v (.o [j9 (beh m L st s 0),j9 (beh m L st s 1)]))) [.exc rfN,.val (j9 st),.val (.int s),.val (qD ws a),.val (.int L),.un,.un,.un]=a8 ([j9 (beh m L st s 0),j9 (beh m L st s 1)],[.exc rfN,.val (j9 st),.val (.int s),.val (qD ws a),.val (.int L),.val (.lst [j9 (beh m L st s 0),j9 (beh m L st s 1)]),.un,.un]):=by unfold lsD;dsimp only;rw[if_pos ⟨by simp,by decide,by decide,by decide,by rfl,by simp⟩];rfl
  rw[e3];unfold Ul;dsimp only;have e1':=e1;simp only[X5,de]at e1';rw[e1'];unfold Oi;dsimp only;rw[show intsOf [D.int (NN a m L (beh m L st s 0)),D.int (NN a m L (beh m L st s 1))]=a8 [NN a m L (beh m L st s 0),NN a m L (beh m L st s 1)]from rfl];dsimp only;rw[if_pos (by simp),max2]
def j7s{X:Nat}{st:zo}(hw:ws.length=m)(hm:1<=m/\m<=3)(ha:a.length=2^m)(h01:∀x∈a,x=0\/x=1)(hL:0<=L/\L<=2)(v:Vs m L st)(hn:stl a m st=a9)(ih:∀st',Vs m L st'->mu m L st'<mu m L st->j54 a m L ws (X+4) st')(ks:List zo)(h1:∀k∈ks,Vs m L k)(h2:ks.Nodup) :
  ∃ks' t,evP 1000 G T (X+6) "#best_ask" [Nx a m L ks,j9 st,qD ws a,.int L]=.dval (.tup [.int (J5 ((unl m st).map λs=>max (NN a m L (beh m L st s 0)) (NN a m L (beh m L st s 1)))),.int t]) ks' (ks'.map (NN a m L))/\Gd m L (mu m L st-1) ks ks':=by
 have ul:(unl m st).length<=3:=by unfold unl;refine Xg (Te ..) ?_;rw[Xj];exact hm.2
 obtain⟨ks',e1,g1⟩:=Nj (a:=a) (m:=m) (L:=L) (f:=λd ks ns=>callD (evP 1000 G T (X+5)) "greatest_behind" (ev (evP 1000 G T (X+5)) G (.cons (.var 1) (.cons (.var 5) (.cons (.var 2) (.cons (.var 3) .nil)))) (([.exc rfN,.val (j9 st),.val (qD ws a),.val (.int L),.val (.lst ((unl m st).map λ(s:Nat)=>D.int (s:Int))),.un]:En).set 5 (.val d))) ks ns)
  (B:=mu m L st-1) (h:=λs:Nat=>D.int (s:Int)) (r:=λs:Nat=>D.int (max (NN a m L (beh m L st s 0)) (NN a m L (beh m L st s 1)))) (unl m st) ks h1 h2 (λs hs ks h1 h2=>by
   obtain⟨ks',e,g⟩:=j4m hw hm hL v hs ih ks h1 h2
   refine⟨ks',Ox (rs:=[.e (j9 st),.e (.int (s:Int)),.e (qD ws a),.e (.int L)]) (ds:=[j9 st,.int (s:Int),qD ws a,.int L]) (by simp only[Xz,Xy];ext) (by rfl) (by rw[dqG];exact e),g⟩)
 obtain⟨t,et⟩:=jg2 (f:=λs:Nat=>max (NN a m L (beh m L st s 0)) (NN a m L (beh m L st s 1))) (j5c hm.2 ha h01 hn);refine⟨ks',t,?_,g1⟩;rw[jo (F:=W3) (by rfl) rfl];simp only[W3,Bm,enter,Nx,j0q];have hit:ev (evP 1000 G T (X+5)) G (.call "spots_unlike" (.cons (.call "rows_of_state" (.cons (.var 1) (.cons (.var 2) .nil))) .nil)) [.exc rfN,.val (j9 st),.val (qD ws a),.val (.int L),.un,.un]=a8 (.v (.o ((unl m st).map λ(s:Nat)=>D.int (s:Int)))):=by ext;erw[Ir (n:=X+1) hw hm v.len,j0a (n:=X+4) hm v.ne]
 show fin (dxS (a8 (.val (.dct ks ((ks.map (NN a m L)).map D.int)))) λks ns=>Yh (evP 1000 G T (X+5)) G (.minc 4 5 (.call "spots_unlike" (.cons (.call "rows_of_state" (.cons (.var 1) (.cons (.var 2) .nil))) .nil)) "greatest_behind" (.cons (.var 1) (.cons (.var 5) (.cons (.var 2) (.cons (.var 3) .nil))))) ks ns [.exc rfN,.val (j9 st),.val (qD ws a),.val (.int L),.un,.un])=_;rw[j4q (d:=.tup [.int (J5 ((unl m st).map λs=>max (NN a m L (beh m L st s 0)) (NN a m L (beh m L st s 1)))),.int t]) (ks':=ks') (ns':=ks'.map (NN a m L))]
 .rfl
 .rw[j8f,hit];have e3:lsD 4 5 (a8 (.v (.o ((unl m st).map λ(s:Nat)=>D.int (s:Int))))) [.exc rfN,.val (j9 st),.val (qD ws a),.val (.int L),.un,.un]=a8 ((unl m st).map λ(s:Nat)=>D.int (s:Int),[.exc rfN,.val (j9 st),.val (qD ws a),.val (.int L),.val (.lst ((unl m st).map λ(s:Nat)=>D.int (s:Int))),.un]):=by unfold lsD;dsimp only;rw[if_pos ⟨by rw[xf];omega,by decide,by decide,by decide,by rfl,by simp⟩];rfl
  rw[e3];unfold Ul;dsimp only;rw[e1];unfold Lp;dsimp only;rw[j10];dsimp only;rw[et];rfl
def j6g{st:zo}(v:Vs m L st):0<mu m L st:=by
 obtain⟨k,hk⟩:=Tf _ v.ne;obtain⟨k1,k2⟩:=q8.mp hk;unfold mu;have:((aA (2^m)).map λ_=>0).sum<((aA (2^m)).map λk=>wt L (st.getD k 0)).sum:=Fq (λ_ _=>Pq _) ⟨k,Xb.mpr k1,by
  have:=v.bd k k1
  unfold wt;rw[if_neg k2];omega⟩
 omega
def j8s(hw:ws.length=m)(hm:1<=m/\m<=3)(ha:a.length=2^m)(h01:∀x∈a,x=0\/x=1)(hL:0<=L/\L<=2):∀(f n:Nat)(st:zo),Vs m L st->mu m L st<=f->j54 a m L ws (3*f+4+n) st:=by
 intro f;induction f with
 |zero=>intro n st v h;have:=j6g v;omega
 |succ f ih =>
  intro n st v hf ks h1 h2;have lv:3*(f+1)+4+n=(3*f+n+6)+1:=by omega
  rw[lv];have es:evP 1000 G T (3*f+n+6) "is_settled" [j9 st,qD ws a]=.val (.bl (stl a m st)):=Eu (n:=3*f+n+1) hw hm ha h01 v.len v.ne;have key:∀ks',(Yh (evP 1000 G T (3*f+n+6)) G (.fill 1 4 (.call "is_settled" (.cons (.var 1) (.cons (.var 2) .nil))) "best_ask" (.cons (.var 1) (.cons (.var 2) (.cons (.var 3) .nil)))) ks (ks.map (NN a m L)) [.exc rfN,.val (j9 st),.val (qD ws a),.val (.int L),.un]=a8 (.int (NN a m L st),ks',ks'.map (NN a m L))) ->
    evP 1000 G T (3*f+n+6+1) "#number_filled_in" [Nx a m L ks,j9 st,qD ws a,.int L]=.dval (.int (NN a m L st)) ks' (ks'.map (NN a m L)):=λks' h=>by
   rw[jo (F:=Ql) (by rfl) rfl];simp only[Ql,Vf,enter,Nx,j0q];show fin (dxS (a8 (.val (.dct ks ((ks.map (NN a m L)).map D.int)))) λks ns=>Yh (evP 1000 G T (3*f+n+6)) G (.fill 1 4 (.call "is_settled" (.cons (.var 1) (.cons (.var 2) .nil))) "best_ask" (.cons (.var 1) (.cons (.var 2) (.cons (.var 3) .nil)))) ks ns [.exc rfN,.val (j9 st),.val (qD ws a),.val (.int L),.un])=_;rw[j4q h];rfl
  have hc:ev (evP 1000 G T (3*f+n+6)) G (.call "is_settled" (.cons (.var 1) (.cons (.var 2) .nil))) [.exc rfN,.val (j9 st),.val (qD ws a),.val (.int L),.un]=a8 (.v (.e (.bl (stl a m st)))):=by ext;rw[es];ext
  by_cases hin:st∈ks
  .refine⟨ks,key ks ?_,.refl h1 h2,hin⟩;rw[Mh];unfold Rm;rw[show([.exc rfN,.val (j9 st),.val (qD ws a),.val (.int L),.un]:En)[1]?=a8 (.val (.tup (st.map D.int)))from rfl];dsimp only;rw[zu];dsimp only;rw[if_pos ⟨by simp,by decide,by decide⟩,if_pos (by rw[iO];exact hin),K8 hin];rfl
  .have hcn:ks.contains st=a9:=by
    cases z:ks.contains st with
    |false=>rfl
    |true=>exact absurd (List.contains_iff_mem.mp z) hin
   have app:∀ks1,Gd m L (mu m L st-1) ks ks1->st∉ks1/\Gd m L (mu m L st) ks (ks1++[st])/\st∈ks1++[st]:=λks1 g=>by
    have nin:st∉ks1:=λz=>by
     rcases g.bd st z with q|q
     .exact hin q
     .have:=j6g v;omega
    refine⟨nin,⟨λk hk=>?_,?_,λk hk=>Pu _ (g.sub k hk),λk hk=>?_⟩,by simp⟩
    .rcases Xw.mp hk with z|z
     .exact g.vs k z
     .rw[xm.mp z];exact v
    .exact List.nodup_append.mpr ⟨g.nd,by simp,λx hx y hy e=>nin (by rw[xm.mp hy]at e;rw[<-e];exact hx)⟩
    .rcases Xw.mp hk with z|z
     .exact(g.bd k z).imp id λq=>by omega
     .rw[xm.mp z];exact .inr (X3 _)
   cases hs:stl a m st with
   |true =>obtain⟨n1,g1,m1⟩:=app ks (.refl h1 h2);refine⟨ks++[st],key _ ?_,g1,m1⟩;rw[Mh,hc];unfold Rm;rw[show([.exc rfN,.val (j9 st),.val (qD ws a),.val (.int L),.un]:En)[1]?=a8 (.val (.tup (st.map D.int)))from rfl];dsimp only;rw[zu];dsimp only;rw[if_pos ⟨by simp,by decide,by decide⟩,if_neg (by rw[hcn];exact xj),hs];simp only[Rk.st];rw[if_pos (j6u hm.2 hL.2 h1 h2),Ws hs,Xo,jO,Ws hs]
   |false =>
    obtain⟨ks1,t,e1,g⟩:=j7s hw hm ha h01 hL v hs (X:=3*f+n) (λst' v' hlt=>by
     have:=ih n st' v' nofun
     rwa [show 3*f+4+n=3*f+n+4 by omega]at this) ks h1 h2
    obtain⟨n1,g1,m1⟩:=app ks1 g;have hc1:ks1.contains st=a9:=by
     cases z:ks1.contains st with
     |false=>rfl
     |true=>exact absurd (List.contains_iff_mem.mp z) n1
    refine⟨ks1++[st],key _ ?_,g1,m1⟩;have ecl:callD (evP 1000 G T (3*f+n+6)) "best_ask" (ev (evP 1000 G T (3*f+n+6)) G (.cons (.var 1) (.cons (.var 2) (.cons (.var 3) .nil))) (([.exc rfN,.val (j9 st),.val (qD ws a),.val (.int L),.un]:En).set 4 (.val (.bl a9)))) ks (ks.map (NN a m L))=a8 (.tup [.int (J5 ((unl m st).map λs=>max (NN a m L (beh m L st s 0)) (NN a m L (beh m L st s 1)))),.int t],ks1,ks1.map (NN a m L)) :=
     Ox (rs:=[.e (j9 st),.e (qD ws a),.e (.int L)]) (ds:=[j9 st,qD ws a,.int L]) (by simp only[Xz,Xy];ext) (by rfl) (by rw[dqB];exact e1)
    rw[Mh,hc,ecl];unfold Rm;rw[show([.exc rfN,.val (j9 st),.val (qD ws a),.val (.int L),.un]:En)[1]?=a8 (.val (.tup (st.map D.int)))from rfl];dsimp only;rw[zu];dsimp only;rw[if_pos ⟨by simp,by decide,by decide⟩,if_neg (by rw[hcn];exact xj),hs];simp only[Rk.st];rw[if_pos ⟨hc1,j6u hm.2 hL.2 g.vs g.nd⟩,Xo,jO,Kv hL.1 v hs]
end
def gFL:G "FEWEST_LIES" = a8 (.int 0):=by rfl
def gML:G "MOST_LIES" = a8 (.int 2):=by rfl
def gMP:G "MOST_PLACES_WITH_LIES" = a8 (.int 3):=by rfl
def jgt:T "_law_words" = a8 KW.fL_words:=by rfl
def j70:T "_law_question" = a8 KW.fL_question:=by rfl
def jcz {n m:Nat} {ws:List aq} {a:zo} {L:Int} (hw:ws.length=m) (hm:m<=3) (hL:0<=L/\L<=2):evP 1000 G T (n+1) "refuse_wrong_lies" [qD ws a,.int L]=.val .non:=by rw[jo (F:=Q9) (by rfl) rfl];simp only[Q9,vq,enter,qD];ext;simp only[gFL];ext;simp only[gML];ext;rw[at0];ext;simp only[gMP];ext
def ones:∀m:Fin 4,ak m.val (1:Int)=ju 2 m.val (((2^m.val-1:Nat)):Int):=by decide +kernel
def j9x {n m:Nat} (hm:1<=m/\m<=3):evP 1000 G T (n+3) "count_of_rows" [.int m]=.val (.int ((2^m:Nat):Int)):=by
 have p1:1<=2^m:=Tj (n:=2) (by decide) (Pq m);have pc:((2^m:Nat):Int)=(2:Int)^m:=by simp
 have rn:evP 1000 G T (n+2) "row_number" [j9 (ak m 1)]=.val (.int (((2^m-1:Nat)):Int)):=by have e:ak m (1:Int)=ju 2 m (((2^m-1:Nat)):Int):=ones ⟨m,by omega⟩;rw[e];exact Ib (n:=n) nofun nofun
 rw[jo (F:=Zq) (by rfl) rfl];simp only[Zq,Qf,enter];ext;rw[Xh];simp only[j9,cE]at rn;rw[rn];ext;rw[show(((2^m-1:Nat)):Int)+1=((2^m:Nat):Int)by omega]
noncomputable def st0(m:Nat):zo:=ak (2^m) 0
def j3x {n m:Nat} {ws:List aq} {a:zo} {L:Int} (hw:ws.length=m) (hm:1<=m/\m<=3) (hL:0<=L/\L<=2):evP 1000 G T (n+4) "state_told" [qD ws a,.int L,.lst []]=.val (j9 (st0 m)):=by have lo:=jcz (n:=n+2) (a:=a) hw hm.2 hL;have cs:=j9x (n:=n) hm;have p8:=R9 hm.2;have p1:1<=2^m:=Tj (n:=2) (by decide) (Pq m);rw[jo (F:=Yk) (by rfl) rfl];simp only[Yk,Zf,enter,qD]at lo ⊢;ext;erw[lo,at0];rw[hw,cs];ext;rw[Xh];simp only[j9,st0,cE];ext;simp only[Q3];ext
def Cu{m k:Nat}(hk:k<2^m):(st0 m).getD k 0=0:=by unfold st0;rw[kj,cG,if_pos hk];rfl
def j8z{m:Nat}:lft m (st0 m)=aA (2^m):=by unfold lft;refine List.filter_eq_self.mpr λk hk=>?_;rw[Cu (Xb.mp hk)];rfl
def vs0{m:Nat}{L:Int}(hL:0<=L):Vs m L (st0 m) :=
 ⟨Pk ..,λk hk=>by rw[Cu hk];omega,λz=>by
  rw[j8z]at z
  have:=congrArg dM z
  rw[Xj]at this
  have:0<2^m:=jB (by decide)
  simp only[tu]at *
  omega⟩
def mu0{m:Nat}{L:Int}(hm:m<=3)(hL:0<=L/\L<=2):mu m L (st0 m)<=24:=by
 unfold mu;have h1:((aA (2^m)).map λk=>wt L ((st0 m).getD k 0)).sum<=((aA (2^m)).map λ_=>3).sum:=j0g λk hk=>by rw[Cu (Xb.mp hk)];unfold wt;rw[if_neg (by decide)];omega
 have h2:((aA (2^m)).map λ_=>3).sum=2^m*3:=by rw[List.map_const',Xj,List.sum_replicate_nat]
 have:=R9 hm;omega
def j3y {n m:Nat} {ws:List aq} {a:zo} {L:Int} (hw:ws.length=m) (hm:1<=m/\m<=3) (ha:a.length=2^m) (h01:∀x∈a,x=0\/x=1) (hL:0<=L/\L<=2):∃ks,st0 m∈ks/\evP 1000 G T (n+77) "lie_table" [qD ws a,.int L]=.val (.dct ks ((ks.map (NN a m L)).map D.int)):=by
 obtain⟨ks,e,_,hin⟩:=j8s (ws:=ws) hw hm ha h01 hL 24 n (st0 m) (vs0 hL.1) (mu0 hm.2 hL) [] (λ_ h=>by cases h) eZ;have e:evP 1000 G T (n+76) "#number_filled_in" [.dct [] (([]:zo).map D.int),j9 (st0 m),qD ws a,.int L]=.dval (.int (NN a m L (st0 m))) ks (ks.map (NN a m L)):=by rw[show 3*24+4+n=n+76 by omega]at e;exact e
 have t0:=j3x (n:=n+72) (a:=a) hw hm hL;refine⟨ks,hin,?_⟩;rw[jo (F:=Ub) (by rfl) rfl];simp only[Ub,Va,enter,j2x];rw[Ox (rs:=[.e (j9 (st0 m)),.e (qD ws a),.e (.int L)]) (ds:=[j9 (st0 m),qD ws a,.int L]) ?_ (by rfl) (by rw[dqN];exact e)]
 .rfl
 .simp only[ak,c7,cB,X5,de,Xz,Xy];ext;have t0:evP 1000 G T (n+76) "state_told" [qD ws a,.int L,.lst []]=.val (j9 (st0 m)):=t0;rw[U0 (l:=[qD ws a,.int L,.lst []]) rfl,t0];ext
noncomputable def depth:Nat:=77
def j6m(c:Int):∃most:Nat,(most=2\/most=3)/\atI [D.int 2,.int 2,.int 3] (c%3)=a8 (.int (most:Int)):=by
 have h1:=Th c (show(3:Int)≠0 by decide);have h2:=cH c (show(0:Int)<3 by decide);have:c%3=0\/c%3=1\/c%3=2:=by omega
 rcases this with e|e|e<;>rw[e]
 .exact⟨2,.inl rfl,rfl⟩
 .exact⟨2,.inl rfl,rfl⟩
 .exact⟨3,.inr rfl,rfl⟩
def j8v{m:Nat}(h:1<=m/\m<=3):∃M:Nat,(M=2\/M=3)/\atI [D.int 3,.int 3,.int 3,.int 2] (m:Int)=a8 (.int (M:Int)):=by
 have:m=1\/m=2\/m=3:=by omega
 rcases this with e|e|e<;>subst e
 .exact⟨3,.inr rfl,rfl⟩
 .exact⟨3,.inr rfl,rfl⟩
 .exact⟨2,.inl rfl,rfl⟩
section
variable{a:zo}{m:Nat}
noncomputable def N0(a:zo)(m:Nat)(L:Nat):Int:=NN a m (L:Int) (st0 m)
def jbf{L:Nat}(hm:m<=3)(ha:a.length=2^m)(h01:∀x∈a,x=0\/x=1):N0 a m L<=(2*(L:Int)+1)*Rp 1 a m (ak m 2) :=
 jkv hm ha h01 (ak m 2) (Pk ..) (Kq m) (st0 m) (vs0 nofun) λk hk=>by rw[j8z]at hk;exact(Oo (Pk ..)).mpr ⟨Xb.mp hk,λs hs=>.inl (by rw[kj,cG,if_pos hs];rfl)⟩
def jkx{L:Nat}(hm:m<=3)(ha:a.length=2^m)(h01:∀x∈a,x=0\/x=1):Rp 1 a m (ak m 2)<=N0 a m L :=
 jkw hm ha h01 nofun (st0 m) (vs0 nofun) (ak m 2) (Pk ..) (Kq m) λk hk=>by rw[j8z];exact Xb.mpr (Lr.mp hk).1
def jef{L:Nat}(hm:m<=3)(ha:a.length=2^m)(h01:∀x∈a,x=0\/x=1):N0 a m L<=N0 a m (L+1) :=
 jed hm ha h01 nofun nofun nofun (st0 m) (vs0 nofun) (st0 m) (vs0 nofun) λ_ _ _=>rfl
def jee(hm:m<=3)(ha:a.length=2^m)(h01:∀x∈a,x=0\/x=1):N0 a m 0=Rp 1 a m (ak m 2):=by have h1:=jbf (L:=0) hm ha h01;have h2:=jkx (L:=0) hm ha h01;simp only[Int.natCast_zero,mf,eP,fg]at h1;omega
end
noncomputable def j51:Sx:=(.seq (.loop [6] (.range (.cons (.var 5) .nil)) (.seq (.app 4 (.dget (.call "lie_table" (.cons (.var 1) (.cons (.var 6) .nil))) (.bin .mul (.tup (.cons (.lit (.int 0)) .nil)) (.bin .shl (.lit (.int 1)) (.var 2))))) .nop)) (.seq (.ife (.cmp .ne (.ix (.var 4) (.lit (.int 0))) (.var 3)) (.seq (.ret (.lit (.bl a9))) .nop) .nop) (.seq (.loop [6] (.range (.cons (.lit (.int 1)) (.cons (.blt .len (.cons (.var 4) .nil)) .nil))) (.seq (.ife (.or (.cmp .lt (.ix (.var 4) (.var 6)) (.ix (.var 4) (.bin .sub (.var 6) (.lit (.int 1))))) (.cmp .gt (.ix (.var 4) (.var 6)) (.bin .mul (.bin .add (.bin .mul (.lit (.int 2)) (.var 6)) (.lit (.int 1))) (.var 3)))) (.seq (.ret (.lit (.bl a9))) .nop) .nop) .nop)) (.seq (.ret (.lit (.bl ah))) .nop))))
def j5i{ns:zo}{M m:Nat}{ws:List aq}{a:zo}(hM:M=2\/M=3)(wl:ws.length=m)(hm:1<=m/\m<=3)(al:a.length=2^m)(a01:∀x∈a,x=0\/x=1) :
  fin (run 1000 (evP 1000 G T 77) G j51 [.val (.lst (ns.map D.int)),.val (qD ws a),.val (.int m),.val (.int (Rp 1 a m (ak m 2))),.own [],.val (.int M),.un])=.val (.bl ah):=by
 have p8:=R9 hm.2;have p1:1<=2^m:=Tj (n:=2) (by decide) (Pq m);have pc:((2^m:Nat):Int)=(2:Int)^m:=by simp
 unfold j51;ext;refine Wx (λi ρ=>∃s6,ρ=[.val (.lst (ns.map D.int)),.val (qD ws a),.val (.int m),.val (.int (Rp 1 a m (ak m 2))),.own (((aA i).map (N0 a m)).map D.int),.val (.int M),s6]) ⟨.un,rfl⟩ ?_ ?_
 .rintro i d ρ hi ⟨s6,rfl⟩;have hi':i<M:=by have:=(X6.mp hi).1;simpa [upto]using this
  have ed:d=.int (i:Int):=by simp only[upto]at hi;rw[X4,P0 nofun]at hi;have:=az hi;rw[<-this];simp
  subst ed;obtain⟨ks,hin,te⟩:=j3y (n:=0) (L:=(i:Int)) wl hm al a01 nofun
  have te:evP 1000 G T 77 "lie_table" [qD ws a,.int (i:Int)]=_:=te;refine⟨_,?_,.val (.int (i:Int)),rfl⟩;simp only[U3];ext;rw[te];ext;rw[show(1:Int)*2^(m:Int).toNat=((2^m:Nat):Int)by rw[Xh,pc,fg],j5v nofun,Xh,
   show ak (2^m) (D.int 0)=(st0 m).map D.int by rw[st0,cE],K9 (K8 hin)]
  have lr:(aA i).length=i:=Xj;ext;rw[List.range_succ,Xo,Xo];rfl
 .rintro ρ ⟨s6,rfl⟩;have eM:(upto 0 (M:Int).toNat).length=M:=by simp[upto]
  rw[eM];obtain⟨X,hX⟩:∃X,X=((aA M).map (N0 a m)).map D.int:=⟨_,rfl⟩
  have gX:∀j:Nat,j<M->atI X (j:Int)=a8 (.int (N0 a m j)):=λj hj=>by rw[hX];exact Uw (by rw[X4,X4,P0 hj];rfl)
  have lX:X.length=M:=by rw[hX];simp
  rw[<-hX];clear hX;have g0:atI X 0=a8 (.int (N0 a m 0)):=gX 0 nofun
  have z0:=jee hm.2 al a01;ext;rw[g0,z0];ext;rw[lX];refine Wx (λi ρ=>∃s6,ρ=[.val (.lst (ns.map D.int)),.val (qD ws a),.val (.int m),.val (.int (Rp 1 a m (ak m 2))),.own X,.val (.int M),s6]) ⟨s6,rfl⟩ ?_ ?_
  .rintro i d ρ hi ⟨s6,rfl⟩;have hi':i+1<M:=by have:=(X6.mp hi).1;simp[upto]at this;omega
   have ed:d=.int ((i+1:Nat):Int):=by simp only[upto]at hi;rw[X4,P0 nofun]at hi;have:=az hi;rw[<-this];show D.int (1+(i:Int))=D.int ((i+1:Nat):Int);rw[show(1+(i:Int))=((i+1:Nat):Int)by omega]
   subst ed;refine⟨_,?_,.val (.int ((i+1:Nat):Int)),rfl⟩;have u:=jbf (L:=i+1) hm.2 al a01;have mo:=jef (L:=i) hm.2 al a01;simp only[U3];ext;rw[gX (i+1) hi',show((i+1:Nat):Int)-1=((i:Nat):Int)by omega,gX i nofun];ext;rw[gX (i+1) hi'];ext
  .rintro ρ ⟨s6,rfl⟩;ext
def lawTrue:∀ns:zo,ns.length<=63->evP 1000 G T (depth+1) "law" [.lst (ns.map D.int)]=.val (.bl ah):=by
 intro ns hns;rw[jo (F:=j4p) (by rfl) rfl];simp only[j4p,j52,enter,depth];obtain⟨most,hmost,gm⟩:=j6m (qx ns 39);have mo:1<=most/\most<=6:=by omega
 have hm:=Ls (ns:=ns) (a:=0) (most:=most) mo;have qs:evP 1000 G T 77 "_law_question" [.lst (ns.map D.int),.int 0,.int most]=_:=Ew (fu:=1000) (n:=75) (G:=G) j4l jgt jgu j70 (ns:=ns) (a:=0) (most:=most) (by decide) mo;have a01:=je5 (fu:=1000) (n:=75) (G:=G) jgu (ns:=ns) (a:=0) (most:=most) mo;obtain⟨m,em⟩:∃m:Nat,m=Yr ns 0 most:=⟨_,rfl⟩
 have al:(Uj 1000 G T 75 ns 0 most).length=2^m:=by simp[Uj,<-em]
 have wl:=M5 (qx ns (0+1)) m;rw[<-em]at hm qs;generalize Uj 1000 G T 75 ns 0 most=a at *;generalize Ja (qx ns (0+1)) m=ws at *;have hm3:1<=m/\m<=3:=by omega
 have hm6:1<=m/\m<=6:=by omega
 have c39:evP 1000 G T 77 "_law_cell" [.lst (ns.map D.int),.int 39]=.val (.int (qx ns 39)):=Yd j4l (k:=39) nofun
 have c4:evP 1000 G T 77 "_law_cell" [.lst (ns.map D.int),.int 4]=.val (.int (qx ns 4)):=Yd j4l (k:=4) nofun
 have wt:=j3r (n:=68) wl hm6 al a01;have la:atI (((PK (ak m 2)).map (Rp 1 a m)).map D.int) (-1)=a8 (.int (Rp 1 a m (ak m 2))):=atL (by rw[k8,j34];rfl);obtain⟨M,hM,gM⟩:=j8v hm3;have key:∀M:Nat,(M=2\/M=3)->_:=λM hM=>j5i (ns:=ns) hM wl hm3 al a01;simp only[qD]at wt key;ext;erw[c39,gm,qs,at0,wt];rw[la,wl];ext;rw[gM];ext;show fin (Cw _ (run 1000 (evP 1000 G T 77) G j51))=_;by_cases h:m=3
 .have h':(m:Int)=3:=by omega
  by_cases h5:qx ns 4%16=5
  .ext;rw[c4];ext;exact key 3 (.inr rfl)
  .ext;rw[c4];ext;exact key M hM
 .ext;exact key M hM
end K48
end
open PySem PySem.W PyProof.Rows
local macro_rules | `(tactic| walk_at "lf") => `(tactic| (refine' L2.lf_mk ?a ?l ?c ?k; (case a => k_is); (case l => k_is); (case c => k_is); (case k => k_is)))
local macro_rules | `(tactic| walk_at "ld") => `(tactic| (refine' L2.lfd_mk ?a ?l ?c ?k ?t; (case a => k_is); (case l => k_is); (case c => k_is); (case k => k_is); (case t => k_is)))
set_option Elab.async false
namespace PySem.W.Fast
def tw8688969736392602962:=0
def tw419707222238328566:=0
def tw13453884370639351051:=0
def tw9522101942913377235:=0
def tw13589331026327676321:=0
def tw6975255830752148764:=0
def tw17737021772070715317:=0
def tw16640742102145545995:=0
def tw3586981511066805572:=0
def tw12332455925026757973:=0
def tw13974399374090900977:=0
def tw1831165348637166906:=0
def tw4437946961797409153:=0
def tw6254941405526352825:=0
def tw5851107502905674398:=0
def tw5021154527257660364:=0
def tw5052745766833211747:=0
def tw16840420246273216852:=0
def tw16300684000676027689:=0
def tw15181479097117436351:=0
def tw9837693246229363843:=0
def tw3070370668791104750:=0
def tw4924642534846839703:=0
def tw17654176606046428657:=0
def tw16204110869687929752:=0
def tw16260644113991912239:=0
def tw11704808092285188389:=0
def tw5058690333728582732:=0
def tw15640881481325045731:=0
def tw14777523365052934061:=0
def tw9337174462066227323:=0
def tw8221043204582739280:=0
def tw3527037898943288440:=0
def tw4499073187408416018:=0
def tw17610007361976269484:=0
def tw13739686393337847440:=0
def tw14251756320366738525:=0
def tw7890020399316694326:=0
def tw7727711271627637526:=0
def tw1817963926727219027:=0
def tw7323727784302310762:=0
def tw7084441901880389939:=0
def tw14867127087943337710:=0
def tw9842170152163381484:=0
def tw7577343316062582861:=0
def tw7600543467352147068:=0
def tw14934368580778429612:=0
def tw15217400167181066399:=0
def tw18141709116719232500:=0
def tw5991607138053080431:=0
def tw12301416362384597022:=0
def tw5954591981104483326:=0
def tw10733592820540203319:=0
def tw10560259800402398174:=0
def tw10735556913067612258:=0
def tw9907089723361927703:=0
def tw5114822000122982207:=0
def tw5714031571240954537:=0
def tw2005907490094800277:=0
def tw14600537993699973975:=0
def tw1480684059799776550:=0
def tw17489079442606964437:=0
def tw16296405414790005598:=0
def tw5666994080144046599:=0
def tw12881375810111607003:=0
def tw1221800739689612374:=0
def tw8327481112152595989:=0
def tw5077964417454075469:=0
def tw3822594864948044588:=0
def tw427431072525387279:=0
def tw13278042862853788764:=0
def tw236280683444946703:=0
def tw8308898165859914090:=0
def tw5732452434440745826:=0
def tw16926436514880187302:=0
def tw15966133978046235818:=0
def tw2238399510245652931:=0
def tw17831606698018936096:=0
def tw11379411781505317633:=0
def tw16136953791839997721:=0
def tw6209515016882300496:=0
def tw8759444716722383694:=0
def tw9828936308870109917:=0
def tw497365658275036368:=0
def tw5985324818802114872:=0
def tw14287937333902476197:=0
def tw9854101964035841657:=0
def tw3237532826945371893:=0
def tw11528976235425404508:=0
def tw11512904497226685191:=0
def tw5994241381386623037:=0
def tw2128560356683291270:=0
def tw4693241013881955836:=0
def tw16536200866342378419:=0
def tw8672394380794224893:=0
def tw6603379031170184879:=0
def tw15470348315880669182:=0
def tw10659719979179529943:=0
def tw16322380897255639903:=0
def tw12242533864780009938:=0
def tw13349725372816360414:=0
def tw13709862066317437377:=0
def tw5562434881533774109:=0
def tw10236527242365524964:=0
def tw2839099220341278483:=0
def tw3995486230190065039:=0
def tw2882955605986968219:=0
def tw13335191411093571334:=0
def tw1037505674667773320:=0
def tw17925267936389491685:=0
def tw9466849569106844414:=0
def tw15449142027710595576:=0
def tw10912702707131185276:=0
def tw8495128517498248912:=0
def tw14943450492972893312:=0
def tw4678832314875287568:=0
def tw2679045395641797012:=0
def tw13021189179964377190:=0
def tw10913589785397530749:=0
def tw4788346443220696300:=0
def tw7354316932808501073:=0
def tw15496716457426654186:=0
def tw6877610132364279784:=0
def tw7424256551900570174:=0
def tw3042117119804968830:=0
def tw3629757746664993409:=0
def tw13447073549494262538:=0
def tw198832846284722507:=0
def tw16225395947044068967:=0
def tw13904254455349788397:=0
def tw13164703734031760092:=0
def tw5794163714782919674:=0
def tw887301280794688621:=0
def tw6852563091714240507:=0
def tw5711713571236507733:=0
def tw5992363662849443265:=0
def tw9550317498688638227:=0
def tw16516026937410132767:=0
def tw13074983556899199829:=0
def tw2096207023453286240:=0
def tw8290419189852769270:=0
def tw3422654774654663550:=0
def tw5089187069731030434:=0
def tw5083866509152273680:=0
def tw2553478318705657909:=0
def tw3900981238013478612:=0
def tw3353907114496403871:=0
def tw10683554160643568675:=0
def tw12001083200059258259:=0
def tw7271622953834345992:=0
def tw11827973337129500587:=0
def tw4796865997624273255:=0
def tw9564766284530962914:=0
def tw15035915897155052639:=0
def tw869583895335955347:=0
def tw3176926179381902506:=0
def tw13717841715087464702:=0
def tw9289122842233628410:=0
def tw822971652341101728:=0
def tw710902614088211844:=0
def tw2441323774168941352:=0
def tw11350341224740684992:=0
def tw10951566964133688743:=0
def tw5103124447319516431:=0
def tw15737455665078631920:=0
def tw5623495239438211939:=0
def tw7315354422416930143:=0
def tw8505552064688853327:=0
def tw11806138815071238924:=0
def tw1180036876903010325:=0
def tw14648477969443076790:=0
def tw14103188294433939033:=0
def tw16789547223556585639:=0
def tw10405720716132327627:=0
def tw11080496563831718520:=0
def tw11124695439140201275:=0
def tw6340775709448286618:=0
def tw12666132328889376547:=0
def tw9905003720102652574:=0
def tw3678531075190845659:=0
def tw2797748195910177929:=0
def tw10045121288798492994:=0
def tw13666694427973282563:=0
def tw17996189163104157620:=0
def tw5997782828809030032:=0
def tw7676076984115470122:=0
def tw989809832209994753:=0
def tw2393444855807119398:=0
def tw1774885937888399697:=0
def tw17816008873832907444:=0
def tw10564744768695001687:=0
def tw8942709760748978952:=0
def tw12486046467766743221:=0
def tw7693543153700422089:=0
def tw598679449570435632:=0
def tw186428421499564238:=0
def tw18151984932876893284:=0
def tw6110617056998737822:=0
def tw13433909662277243525:=0
def tw16198310971806904091:=0
def tw7503821960843441015:=0
def tw15377637178479518358:=0
def tw2782377035866252099:=0
def tw4506592902154402319:=0
def tw17659063006894980337:=0
def tw16750294061170578373:=0
def tw11114892296821436958:=0
def tw8936445006180437675:=0
def tw13558871717297634511:=0
def tw3558707290166156531:=0
def tw2825495385861479235:=0
def tw6272588370289053574:=0
def tw12805179673627697957:=0
def tw18004326773459090154:=0
def tw16556426566319667640:=0
def tw16797589419322049567:=0
def tw16872885096750253793:=0
def tw6739887958444583591:=0
def tw5162301595200499322:=0
end PySem.W.Fast
set_option maxRecDepth 100000 in
set_option maxHeartbeats 0 in
theorem PySem.Challenge.cw_leastasks_k48_lies_against_none_holds : PySem.Challenge.rw_leastasks_k48_lies_against_none.Holds := by
  w_on; o_law; k_head; (case hw => w_witness2)
  k_fill
  refine L2.walkL (l := PySem.Challenge.rw_leastasks_k48_lies_against_none) (k := L2.lv (K48.depth + 1)) (x := "_law_script") (by decide) rfl rfl (fun w h Y => ⟨PySem.W.km_in_of Y, PySem.W.km_tabs_of Y⟩) ?tz ?F
  case tz => intro w; kernel_rfl
  case F =>
    intro w mg fa h KX Gn hmg tz
    refine' K48.head KX Gn hmg ?h0 ?h1 ?h2 ?h3 ?h4 ?h5 ?h6 ?h7 ?h8 ?h9 ?h10 ?h11 ?h12 ?h13 ?h14 ?h15 ?h16 ?h17 ?h18 ?h19 ?h20 ?h21 ?h22 ?h23 ?h24 ?h25 ?h26 ?h27 ?h28 ?h29 ?h30 ?h31 ?h32 ?h33 ?h34 ?h35 ?h36 ?h37 ?h38 ?bz tz ?gn0 ?gn1 ?ga2l ?gn2 ?gn3 ?ga6l ?gn4 ?gn5 ?gn6 ?gn7 ?gn8 ?gn9 ?gn10 ?exa K48.lawTrue
    (case h0 => walk_at "lf")
    (case h1 => walk_at "lf")
    (case h2 => walk_at "lf")
    (case h3 => walk_at "lf")
    (case h4 => walk_at "lf")
    (case h5 => walk_at "lf")
    (case h6 => walk_at "lf")
    (case h7 => walk_at "lf")
    (case h8 => walk_at "lf")
    (case h9 => walk_at "lf")
    (case h10 => walk_at "lf")
    (case h11 => walk_at "lf")
    (case h12 => walk_at "lf")
    (case h13 => walk_at "lf")
    (case h14 => walk_at "lf")
    (case h15 => walk_at "lf")
    (case h16 => walk_at "lf")
    (case h17 => walk_at "lf")
    (case h18 => walk_at "lf")
    (case h19 => walk_at "lf")
    (case h20 => walk_at "lf")
    (case h21 => walk_at "lf")
    (case h22 => walk_at "lf")
    (case h23 => walk_at "lf")
    (case h24 => walk_at "lf")
    (case h25 => walk_at "lf")
    (case h26 => walk_at "lf")
    (case h27 => walk_at "ld")
    (case h28 => walk_at "lf")
    (case h29 => walk_at "lf")
    (case h30 => walk_at "lf")
    (case h31 => walk_at "lf")
    (case h32 => walk_at "lf")
    (case h33 => walk_at "lf")
    (case h34 => walk_at "lf")
    (case h35 => walk_at "lf")
    (case h36 => walk_at "lf")
    (case h37 => walk_at "lf")
    (case h38 => walk_at "lf")
    (case gn0 => k_is)
    (case gn1 => k_is)
    (case gn2 => k_is)
    (case gn3 => k_is)
    (case gn4 => k_is)
    (case gn5 => k_is)
    (case gn6 => k_is)
    (case gn7 => k_is)
    (case gn8 => k_is)
    (case gn9 => k_is)
    (case gn10 => k_is)
    (case ga6l => k_is)
    (case ga2l => k_is)
    (case bz => kernel_rfl)
    (case exa => kernel_rfl)
#print axioms PySem.Challenge.cw_leastasks_k48_lies_against_none_holds