import PyProof.Rows.All
import Wide.All
import OpenK.AllK
import Wide.FinOn
import Lean
import PyProof.EqAt
import PyProof.EqKinds
import PyProof.TupleCall
import PyProof.Rows.SetFrom
import KE.KDictList
import KE.KMinKey
import PyProof.ListRange
import KE.KIntText
import PyProof.ReprRoads
import KE.KRevIter
import PyProof.TupleOfGen
import PyProof.StrBlockL
import PySem.Challenge.RW_leastasks_k27_prices_refused
set_option Elab.async false
set_option linter.all false
set_option maxRecDepth 100000
set_option maxHeartbeats 4000000
set_option genSizeOf false
set_option genInjectivity false
open Option renaming some→a3,none→a5,getD_some→dH,isSome_some→eY,join_some→jD,getD_none→jE,map_some→jV,bind→l5
open Bool renaming false→a4,true→a7,or_eq_true→cu,eq_iff_iff→eD,false_or→fh,not_eq_true'→fU,and_false→gP,or_false→i7,false_and→kR,and_true→l6
open PySem renaming wpAny_bind→a6,Value→a8,starEach→a9,Addr→aa,Shared→ae,Str→af,Expr→ai,wpAny_pure→aj,mainGlobals→ak,sizeLine→aq,wpAny→ar,Program→au,model→aw,eval→ay,World→aA,Around→aB,Heap→aD,foldedSetIterable→aF,FuncData→aG,reprText→aH,wpAny_mono→aI,Pos→aJ,behindInMarks→aK,attributeBase→aL,cLine→aM,wpAny_newObj_type→aN,backTo→aO,Stmt→aP,cellsFrom→aQ,swapsWith→aS,wpAny_Call_Name_kw→aT,argBest→aV,compareOp→aW,keywordEach→aY,Keyword→aZ,Scope→b9,binaryOp→bc,NameKind→br,wpAny_truthy_bool→bu,wpAny_field→bx,codeAny_mono→bA,backToKw→bB,wpAny_holding→bC,call_meets→bD,wpAny_call_entry→bF,wpAny_callSpecial?_slot→bG,recursionLimit→bH,wpAny_typeNameOfWhole_valiter→bJ,codeAny→bK,assignEach→bL,codeAny_builtin→bP,wpAny_pyIter_list→bU,rawInt→cw,wpAny_typeNameOf_valiter→cC,bindArgs→cD,Obj→cE,Env→cH,bootBuiltins→cR,noteFrame→cZ,closureFor→d4,PassesOwn→d5,wpAny_standAt→d7,plainId_quiet→d8,Builtin→d9,sliceBounds→df,sizeLine_eq→dh,wpAny_passesOwn→du,wpAny_loadPart'→dw,BindsTo→dD,Arguments→dG,wpAny_setField→dP,wpAny_seqItems→dQ,newFunctionEnv→dR,builtinsNs→dS,Result→eB,draw→eL,wpAny_pyNext_list_item→eU,sysModules→eV,letOwnedTupleGo→eX,wpAny_isOneOf_valiter→ff,wpAny_tryCatch→fq,wpAny_of_eq→fv,pyNext→fw,lookup_relabel_local→fB,intItems→fC,firstArgMember→fD,assign→fE,JoinOk→fF,IsPart→fG,GenState→fH,tupleKind→fN,intKind→fO,codeAmong→fP,wpAny_attempt→gb,wpAny_pyIter_tuple→gj,wpAny_call→gk,typeIs_str→gm,typeIs_int→gn,isTrue→gp,defaultsOf→gq,wpAny_loadPart_at→gC,wpAny_dictEntries→gD,relabel→gE,intText?→gG,concat_meets→gH,callerA→gJ,boot_len→gK,Model→gL,wpAny_forIn_list→gX,seqItems?→gY,noFill_tuple_add→gZ,checkBuiltinCall→hJ,DictEntry→hU,wpAny_letGo→i4,richCompare→i5,numAt→i6,wpAny_updateSeq→i8,wpAny_execs_nil→i9,wpAny_dictEpoch→ia,passOn→ib,holding→ip,Tok→iq,wpAny_newFunctionEnv_cells→iE,pyIter→iF,CmpOp→iG,wpAny_binaryOp_repeat_ref→iO,evalArgs_none→iP,wpAny_comprehension_free→iT,seq_tuple_add→iU,comprehension→iV,call→iW,wpAny_Call_method0_late→j3,setFlight→ja,pushCells→jv,bindL→jA,bindC→jB,again→jC,wpAny_noteFrame_againW→jO,standAt→jP,seqSlot_of→jQ,richCompare_meets_room→jR,notedBy→jS,getItem→jT,wpAny_setFlight_noneW→ke,wpAny_pyNext_list_end→kg,wpAny_isTrue_Compare1→ki,codeAny_call_function→kn,wpAny_throw→kx,intItems_at→ky,codeAny_call_builtin→kz,atKey→kA,Operator→kB,Meets→kC,wpAny_Name→kU,tupleKind_room_in1→kW,entryOfKey→kX,Sem→kY,wpAny_pyIter_enum→lj,wpAny_assign_Name→lq,wpAny_Return_some→lr,spliced→lz,newList→lA,call_sum_walkAnyS→lB,ItemsOf→lC,wpAny_execs_cons→lQ,rule→lR,theTreesLotGoes→mw,pushCells_keeps→mx,codeAny_of_tree→my,wpAny_fieldsOf→mJ,typeOf→mK,newExc→mM,compEnvC→mO,Params→mP,wpAny_handled→mU,intBits_le_64→mV,eval_ListComp→mW,evalPart_none→mX,compTurn_list→mY,call_list_seq→mZ,Comprehension→n3
open List renaming replicate→ah,range→aE,getElem?_append_right→bR,drop_eq_getElem_cons→c7,filterMap_cons→c9,any_cons→cj,foldl_cons→cq,getElem?_cons_succ→cA,range_succ_eq_map→cF,ext_getElem?→cG,cons_append→cO,mem_of_mem_take→cS,length→cT,of_mem_zip→cV,nil_append→cW,length_set→cX,length_zipIdx→dk,foldl→dm,drop_zero→dn,take_add_one→dE,take_length→dW,nodup_nil→eP,mem_of_mem_drop→eQ,getElem?_set_ne→eR,toList_toArray→eZ,mem_map_of_mem→f9,getD_cons_zero→fb,all_cons→fg,map_replicate→fj,filter_append→fm,set_eq_take_append_cons_drop→fM,getElem?_set→fQ,all_map→fR,range_add→gO,getElem?_cons_zero→ie,filter_cons_of_pos→ig,filter_cons_of_neg→ij,getElem?_set_self→ir,take_append_drop→iI,getElem?_mapIdx→iQ,getD_cons_succ→iX,zip_cons_cons→jF,countP_append→jG,contains_cons→jH,reverse_cons→jX,pairwise_map→jY,range'_succ→ko,getElem_inj→kq,drop_length→kr,any_toArray→ku,mem_zipIdx→kF,find?_cons→kH,filter_map→kI,countP_map→kJ,all_append→kK,any_nil→lD,range'→lV,getD→mS
open Option.some renaming inj→ax
open PySem.Builtin.Str renaming strSliceIndices→az,tooLong→cM,occurrences→g9,glued→mH
open PySem.Value renaming ref→aC,none→aU,int→bj,str→bq,bool→bO,builtin→dB,type→gx,notImplemented→iw,isInt→l9
open PySem.Str renaming ofString→aR,empty→dj,cps→k6,length→mG
open Or renaming inl→aX,inr→bN
open PySem.Builtin.SmallTypes renaming nextOf→b7
open False renaming elim→b8
open PySem.Builtin.Tuple renaming tupleExact→ba,tupleCompareSizes→eG,tupleTooMany→fc,tupleItemsOf→lN
open PySem.NameKind renaming free→bf,cell→bE
open PySem.Txt renaming slice→bg,split→cL,upper→cU,join→eS,mul→jL
open PyProof.Rows renaming envOfC→bp,IntsAre→de,AllBare→eA,seqObj→fJ,FormattedValue_plain→fK,boot_isinstance→ic,IsTup→iH,subscriptTail_builtinR→jU,boot_min→kD,slot_tuple_getitem→kZ,get?_update_seq→mz,formatField_str→mB,tail_any→mQ,slicePart_none→mR,subscriptTail→n4,Constant_none→n5
open PySem.Builtin.Slice renaming slicePlaces→bI,sliceAdjust→cQ,sliceApplied→fe,slicePartIndex→lO,sliceFields→lP
open PySem.Builtin.List renaming listTooLong→bM,listExtendWith→mr
open PySem.Heap renaming size_push→bQ,SameBut→bS,get?_update_self→eE,ExtBut→eN,get?_update_other→il
open PySem.AutoSeq1 renaming wpAny_loadPart'→bT,sub_tuple_tuple→gu
open ForInStep renaming yield→bV
open Array renaming getElem?_eq_getElem→bW,length_toList→cY,append_inj_right→dZ,getElem?_toList→iu,toList→l7
open PySem.F renaming slot_tuple_iterator_next→bX,plainAttrs_list→cc,args_tuple_add_2→dr,entry_tuple_add→dC,slot_tuple_add→dN,entry_min_loop→dO,slot_int_rmul→eO,excBase_ValueError→gf,args_dict_valueiterator_next_1→gh,entry_dict_valueiterator_next→gr,plainAttrs_tuple→gz,args_tuple_lt_2→gM,plainAttrs_str→gQ,entry_tuple_lt→gR,args_tuple_iterator_next_1→gW,slot_tuple_lt→hZ,entry_tuple_iterator_next→i3,slot_tuple_index→iy,slot_tuple_count→iz,slot_list_extend→iA,slot_list_append→iB,slot_dict_values→iC,slot_list_index→iL,slot_list_count→iM,slot_dict_values_iter→iN,typeOf_object_class→iZ,slot_str_join→j1,args_object_init_2→jN,args_tuple_mul_2→kv,plain_tuple_new→kM,plain_list_iadd→kN,entry_tuple_mul→kO,args_int_rmul_2→kP,slot_tuple_mul→kS,entry_int_rmul→kT,fills_int_mul→lh
open Nat renaming zero_add→bY,pow_succ→bZ,lt_of_le_of_lt→cy,le_of_lt→di,lt_succ_of_lt→dJ,lt_succ_self→dY,lt_or_ge→eC,mul_comm→fX,pos_of_ne_zero→jW,mod_eq_of_lt→kE,min_eq_left→kQ,succ_mul→lS,sub_zero→lT,min_self→lU,log2_lt→mC
open Ne renaming symm→c8
open PySem.Builtin.Dict_items renaming ownsTuple→cg,newIterator→k9,dictOf→ka
open Int renaming pow_pos→cB,zero_add→cJ,add_mul_ediv_left→cP,natCast_add→d6,natCast_mul→eJ,ne_of_gt→fY,mul_comm→fZ,le_refl→gv,fdiv_eq_ediv_of_nonneg→hV,pow_succ→iJ,add_comm→iK,one_mul→iY,toNat_of_nonneg→jI,natCast_nonneg→jZ,mul_assoc→lE,le_of_lt→lW,neg_mul→mD,mul_one→mE
open PySem.W renaming mg_of→cK,nsIn→dz,OpenLaw→dF,KdlSrc→gc,findIn→iv,WalkO→iR,looks_findIn→jJ,CodeHd→jK,Frag→mF
open PySem.SeqAt renaming EqAt→cN,RcAt→gy
open PySem.Obj renaming mapSeq→dq,mapFields→dM,isFreed_of_fields→eK,cls_mapFields→k8
open Classical renaming propDecidable→dy
open PySem.PyData renaming int→dU,showableAll→eW,hasDictAll→fi,depthAll→g6,showable→jM,hasDict→k7,depth→kL
open PySem.Calls renaming callWith_builtin→dX,Name_function_global→gB,evalArgs_plain→iD,spliced_cons→iS,spliced_nil→j2
open Function renaming comp→eM
open PySem.PassesOwn renaming leaving→eT,looking→ik
open Sum renaming inr→fV,inl→fW
open PySem.EqMixed renaming ne_str_int→lF,ne_str_bool→lG,ne_int_str→lH,ne_bool_str→lI,eq_str_int→lJ,eq_str_bool→lK,eq_int_str→lL,eq_bool_str→lM
open PySem.EqNone renaming ne_str_none→lX,ne_none_str→lY,ne_none_none→lZ,ne_none_int→m6,ne_none_bool→m7,ne_int_none→m8,ne_bool_none→m9,eq_str_none→ma,eq_none_str→md,eq_none_none→mf,eq_none_int→mh,eq_none_bool→mi,eq_int_none→mj,eq_bool_none→mm
def kh:=@List.getElem?_eq_getElem
def kj:=@List.mem_cons_of_mem
def km:=@List.getD_eq_getElem?_getD
def xf:=@Bool.false_ne_true
def xg:=@List.mem_singleton
def xj:=@List.length_map
def xm:=@List.mem_cons
def xn:=@PySem.Heap.get?_push_of_some
def xq:=@PySem.Heap.lt_size
def xr:=@List.mem_cons_self
def xu:=@List.map_cons
def xx:=@List.length_cons
def X3:=@Nat.le_refl
def X4:=@PySem.Heap.get?_push_size
def X5:=@List.size_toArray
def X6:=@List.length_append
def X7:=@List.getElem?_map
def X8:=@Nat.ne_of_lt
def Xa:=@List.getElem?_eq_some_iff
def Xb:=@Nat.lt_of_lt_of_le
def Xc:=@List.map_map
def Xd:=@List.mem_append_right
def Xe:=@List.mem_map
def Xf:=@List.mem_range
def Xg:=@Bool.and_eq_true
def Xh:=@Int.toNat_natCast
def Xi:=@Nat.le_trans
def Xj:=@List.lookup_cons
def Xk:=@List.nodup_cons
def Xl:=@List.length_take
def Xm:=@List.mem_of_getElem?
def Xn:=@Option.isSome_iff_exists
def Xo:=@List.append_nil
def Xp:=@List.map_append
def Xq:=@List.all_eq_true
def Xr:=@List.mem_append_left
def Xu:=@Option.map_eq_some_iff
def Xv:=@Bool.false_eq_true
def Xw:=@Nat.lt_trans
def Xx:=@Nat.lt_irrefl
def Xy:=@List.getElem_mem
def Xz:=@List.mem_filter
def ph:=@List.getElem?_eq_none
def pq:=@List.length_drop
def P0:=@Nat.le_succ
def Pa:=@List.getElem?_append_left
def Pb:=@PySem.mem_of_lookup
def Pg:=@List.length_range
def Ph:=@List.map_nil
def Pj:=@Int.emod_nonneg
def Pk:=@PySem.F.plain_min_loop
def Pn:=@List.replicate_succ
def Pq:=@List.mem_append
def Pr:=@List.length_nil
def Pu:=@PySem.F.slot_dict_valueiterator_next
def Py:=@List.length_replicate
def Pz:=@Nat.ne_of_gt
def t6:=@List.mem_filterMap
def t7:=@List.set_cons_zero
def t8:=@List.set_cons_succ
def tu:=@List.countP_cons
def T3:=@Int.emod_lt_of_pos
def T4:=@List.not_mem_nil
def T5:=@PySem.Heap.SameBut.update
def T6:=@Array.toList_append
def T7:=@List.map_congr_left
def T8:=@Array.getElem?_eq_some_iff
def T9:=@PySem.W.hideAll_none
def Tc:=@List.mem_replicate
def Td:=@PySem.Around.under_plainId
def Te:=@List.mem_iff_getElem
def Tf:=@PySem.PassesOwn.never
def Tg:=@List.flatten_cons
def Th:=@List.getElem?_range
def Ti:=@Nat.zero_le
def Tj:=@List.take_of_length_le
def Tn:=@Int.ediv_eq_zero_of_lt
def Tp:=@PySem.Obj.data_mapFields
def Tq:=@List.length_filter_le
def Tt:=@List.contains_iff_mem
def Tw:=@List.append_assoc
def Tz:=@Nat.lt_of_succ_le
def k8x:=@And.intro
abbrev k8y:=mF
abbrev k8z:=a8→ae→Prop
abbrev k90:=List (aa×cE)
abbrev k91:=af→Option a8
abbrev k92:=("__debug__":af)
abbrev k93:=("__classdict__":af)
local macro_rules | `(tactic| omega)=>`(tactic| first | with_reducible assumption | with_reducible exact Nat.le_of_lt (by assumption) | with_reducible exact Nat.le_refl _ | lia)
local macro_rules | `(nofun)=>`(by omega)
section
namespace L2
open PySem PySem.Spec PyProof.Rows
noncomputable abbrev Key:=Sum Int af
noncomputable def jat:Key->a8->Bool
 |.inl k,v=>l9 k v
 |.inr x,v=>Value.isStrOf x v
noncomputable def jlz(w:aA):Key->Int
 |.inl k=>hashInt k
 |.inr x=>hashStr w x
theorem vf:∀{k:Key}{v:a8},jat k v=a7->(∃i t,k=fW i/\v=bj i t)\/(∃x t,k=fV x/\v=bq x t)
 |.inl i,v,h=>by obtain⟨t,e⟩:=Value.isInt_shape (k:=i) (v:=v) h;exact .inl ⟨i,t,rfl,e⟩
 |.inr x,v,h=>by obtain⟨t,e⟩:=Value.isStrOf_shape (x:=x) (v:=v) h;exact .inr ⟨x,t,rfl,e⟩
theorem jge(a b:Int):decide ((fW a:Key)=fW b)=(a==b):=by
 by_cases e:a=b
 .subst e;simp
 .have h:¬(fW a:Key)=fW b:=λq=>e (Sum.inl.inj q);rw[decide_eq_false h];exact(beq_eq_false_iff_ne.mpr e).symm
theorem jgb(a b:af):decide ((fV a:Key)=fV b)=decide (a=b):=by
 by_cases e:a=b
 .subst e;simp
 .have h:¬(fV a:Key)=fV b:=λq=>e (Sum.inr.inj q);rw[decide_eq_false h,decide_eq_false e]
theorem jgd(a:Int)(b:af):decide ((fW a:Key)=fV b)=a4:=decide_eq_false (λq=>nomatch q)
theorem jgc(a:af)(b:Int):decide ((fV a:Key)=fW b)=a4:=decide_eq_false (λq=>nomatch q)
noncomputable def j2a(prog:au)(w:aA):PySem.KeyKind prog w Key where
 is:=jat
 hash:=jlz w
 inj:=λv a b ha hb=>by
  rcases vf ha with ⟨i,t,rfl,rfl⟩|⟨x,t,rfl,rfl⟩
  .rcases vf hb with ⟨j,u,rfl,e⟩|⟨y,u,rfl,e⟩
   .injection e with e1 _;rw[e1]
   .exact nomatch e
  .rcases vf hb with ⟨j,u,rfl,e⟩|⟨y,u,rfl,e⟩
   .exact nomatch e
   .injection e with e1 _;rw[e1]
 byValue:=λk v h=>by rcases vf h with ⟨i,t,rfl,rfl⟩|⟨x,t,rfl,rfl⟩<;>rfl
 pyHash:=λhv h=>by
  rcases vf hv with ⟨i,t,rfl,rfl⟩|⟨x,t,rfl,rfl⟩
  .exact wpAny_pyHash_int h
  .exact wpAny_pyHash_str h
 eqBool:=λhu hv h=>by
  rcases vf hu with ⟨i,t,rfl,rfl⟩|⟨x,t,rfl,rfl⟩
  .rcases vf hv with ⟨j,u,rfl,rfl⟩|⟨y,u,rfl,rfl⟩
   .rw[jge]at h;exact wpAny_eqBool_int h
   .rw[jgd]at h;exact SeqAt.EqAt.int_str i t y u _ _ _ _ h
  .rcases vf hv with ⟨j,u,rfl,rfl⟩|⟨y,u,rfl,rfl⟩
   .rw[jgc]at h;exact SeqAt.EqAt.str_int x t j u _ _ _ _ h
   .rw[jgb]at h;exact wpAny_eqBool_str h
 «strs»:=λk x t v h=>by
  rcases vf h with ⟨i,u,rfl,e⟩|⟨y,u,rfl,e⟩
  .exact nomatch e
  .injection e with e1 _;subst e1;cases v<;>rfl
set_option genInjectivity true in
inductive V where
 |non|bl (b:Bool)|int (i:Int)|str (x:af)|byt (b:Array UInt8)|flt (b:UInt64)|ref (a:aa)|ty (n:String)
 deriving DecidableEq
def RelV:V->a8->Prop
 |.non,u=>u=aU
 |.bl b,u=>u=bO b
 |.int i,u=>∃t,u=bj i t
 |.str x,u=>∃t,u=bq x t
 |.byt b,u=>∃t,u=Value.bytes b t
 |.flt b,u=>∃t,u=Value.float b t
 |.ref a,u=>u=aC a
 |.ty n,u=>u=gx n
abbrev Vals:List V->List a8->Prop:=Paired RelV
theorem Vals.length{xs:List V}{us:List a8}(r:Vals xs us):xs.length=us.length:=Paired.length r
theorem Vals.get:∀{xs:List V}{us:List a8}{i:Nat}{x:V},Vals xs us->xs[i]?=a3 x->∃u,us[i]?=a3 u/\RelV x u
 |_,_,_,_,.nil,e=>by simp at e
 |_,_,0,_,.cons r _,e=>by simp at e;subst e;exact⟨_,rfl,r⟩
 |_,_,i+1,x,.cons _ t,e=>by obtain⟨u,h1,h2⟩:=Vals.get (i:=i) (x:=x) t (by simpa using e);exact⟨u,by simpa using h1,h2⟩
theorem Vals.append:∀{xs ys:List V}{us ws:List a8},Vals xs us->Vals ys ws->Vals (xs++ys) (us++ws)
 |_,_,_,_,.nil,s=>s
 |_,_,_,_,.cons r t,s=>.cons r (Vals.append t s)
theorem Vals.take:∀{xs:List V}{us:List a8}(n:Nat),Vals xs us->Vals (xs.take n) (us.take n)
 |_,_,0,_=>.nil
 |_,_,_+1,.nil=>.nil
 |_,_,n+1,.cons r t=>.cons r (Vals.take n t)
theorem Vals.drop:∀{xs:List V}{us:List a8}(n:Nat),Vals xs us->Vals (xs.drop n) (us.drop n)
 |_,_,0,r=>r
 |_,_,_+1,.nil=>.nil
 |_,_,n+1,.cons _ t=>Vals.drop n t
def ji3:Option V->Option a8->Prop
 |some v,a3 u=>RelV v u
 |none,a5=>True
 |_,_=>False
def KV{κ:Type}:List (κ×V)->List (κ×a8)->Prop:=Paired λ(p:κ×V) (q:κ×a8)=>p.1=q.1/\RelV p.2 q.2
noncomputable def kV:Key->V
 |.inl i=>.int i
 |.inr x=>.str x
inductive HO where
 |lst (xs:List V)
 |tup (xs:List V)
 |dK (kvs:List (Key×V))|dT (kvs:List (List Key×V))
 |dI (xs:List (List Int×aa×a8)) (ep:Nat)
 |set (S:Int->Bool) (n:Nat)
 |ins (C dx:aa) (fs:List (af×V))
 |own (x:aa)
 |xd (fs:List (af×V))
 |met (f x:aa)
 |rng (lo hi:Int)
 |frz (o:cE) (u:HO)
 |tbl (ps:Array a8)
 |cod (q:af)
 |ext (φ:aD->Prop)
noncomputable abbrev Hp:=aa->Option HO
noncomputable def upd(H:Hp)(a:aa)(o:HO):Hp:=λb=>if b=a then a3 o else H b
theorem j9{H:Hp}{a:aa}{o:HO}:upd H a o a=a3 o:=by unfold upd;rw[if_pos rfl]
theorem jb{H:Hp}{a b:aa}{o:HO}(h:b≠a):upd H a o b=H b:=by unfold upd;rw[if_neg h]
theorem vd{H:Hp}{a b:aa}{o:HO}(h:H a=a3 o)(h':H b=a5):a≠b:=by intro e;subst e;rw[h]at h';cases h'
def Vf(h:aD)(a:aa):Prop:=∀o,h.get? a=a3 o->o.dict=a5
theorem Vf.new(h:aD)(xs:Array a8):Vf (h.push { cls:=.type "tuple",data:=.seq xs }) h.objs.size:=λo e=>by have z:(h.push { cls:=.type "tuple",data:=.seq xs }).get? h.objs.size=a3 { cls:=.type "tuple",data:=.seq xs }:=X4 _ rfl;rw[z]at e;cases e;rfl
theorem Vf.of{h:aD}{a:aa}{d:Data}{c:a8}(e:h.get? a=a3 { cls:=c,data:=d }):Vf h a:=λo e'=>by rw[e]at e';cases e';rfl
def O8(o:cE)(q:af):Prop:=∃(vs:Array a8)(t:iq),o.data=.fields vs/\vs[1]?=a3 (.str q t)
section
variable(P:au)(w:aA)
def jh(H:Hp)(h:aD)(a:aa):HO->Prop
 |.lst xs=>xs.length<=aq/\∃(its:List a8)(n:Nat),Vals xs its/\h.get? a=a3 { cls:=.type "list",data:=.seq its.toArray n }
 |.tup xs=>xs.length<=aq/\∃its:List a8,Vals xs its/\iH h a its.toArray/\Vf h a
 |.dK kvs=>kvs.length<=aq/\(a==eV)=a4/\∃vs,KV kvs vs/\h.DictOf (j2a P w) a vs
 |.dT kvs=>kvs.length<=aq/\(a==eV)=a4/\∃xs:List (List Key×aa×a8),
   Paired (λ(p:List Key×V) (q:List Key×aa×a8)=>p.1=q.1/\H q.2.1=a3 (.tup (p.1.map kV))/\RelV p.2 q.2.2) kvs xs /\
   ∃o es ep,h.get? a=a3 o/\o.ExactDict/\o.data=.dict es ep/\es.toList=xs.map (kX (fN (j2a P w)))/\(xs.map (·.1)).Nodup
 |.dI xs ep=>xs.length<=aq/\(a==eV)=a4/\(xs.map λx=>x.1).Nodup/\∃(o:cE)(es:Array hU),h.get? a=a3 o/\o.ExactDict/\o.data=.dict es ep/\es.toList=xs.map (kX (fN (fO P w)))
 |.set S n=>h.SetOf (fO P w) a S n
 |.ins C dx fs=>H dx=a3 (.own a)/\fs.length<=1000/\dx≠a/\h.get? a=a3 (W.instObj C dx) /\
   ∃mA,h.Ns1 dx mA/\(∀f,ji3 (fs.lookup f) (mA f))/\PySem.Within mA (fs.map (·.1))
 |.own _=>∃o,h.get? a=a3 o
 |.xd fs=>∃mA,h.Ns1 a mA/\∀f,ji3 (fs.lookup f) (mA f)
 |.rng lo hi=>∃t u v,h.get? a=a3 { cls:=.type "range",data:=.fields #[.int lo t,.int hi u,.int 1 v] }
 |.frz o u=>h.get? a=a3 o/\jh H h a u
 |.tbl ps=>h.get? a=a3 { cls:=.none,data:=.fields ps }
 |.cod q=>∃ps:Array a8,h.get? a=a3 (W.tabObj ps)/\TriplesOk ps.toList/\∀pos cv,fP pos ps.toList=a3 cv->∃(c:aa)(oc:cE),cv=.ref c/\H c=a3 (.frz oc (.own 0))/\O8 oc q
 |.met f x=>h.get? a=a3 (W.methodObj (.ref f) (.ref x))
 |.ext φ=>φ h/\(∃o,h.get? a=a3 o)/\∀h1 h2:aD,φ h1->(∀o,h1.get? a=a3 o->h2.get? a=a3 o)->φ h2
def HOk(H:Hp)(h:aD):Prop:=∀a o,H a=a3 o->jh P w H h a o
end
section
variable{P:au}{w:aA}{H H':Hp}{h h':aD}{a:aa}{o:HO}
theorem jh.lt(x:jh P w H h a o):a<h.objs.size:=by
 cases o with
 |lst xs=>obtain⟨_,_,_,_,e⟩:=x;exact xq e
 |tup xs=>obtain⟨_,_,_,p,_⟩:=x;exact p.lt
 |dK kvs=>obtain⟨_,_,_,_,o,_,_,e,_⟩:=x;exact xq e
 |dT kvs=>obtain⟨_,_,_,_,o,_,_,e,_⟩:=x;exact xq e
 |dI xs ep=>obtain⟨_,_,_,o,_,e,_⟩:=x;exact xq e
 |set S n=>obtain⟨o,_,_,_,e,_⟩:=x;exact xq e
 |ins C dx fs=>obtain⟨_,_,_,e,_⟩:=x;exact xq e
 |own y=>obtain⟨_,e⟩:=x;exact xq e
 |xd fs=>obtain⟨_,⟨_,_,_,e,_⟩,_⟩:=x;exact xq e
 |rng lo hi=>obtain⟨_,_,_,e⟩:=x;exact xq e
 |frz ob u=>obtain⟨e,_⟩:=x;exact xq e
 |tbl ps=>exact xq (show h.get? a=a3 _ from x)
 |cod q=>obtain⟨_,e,_⟩:=x;exact xq e
 |met f y=>exact xq (show h.get? a=a3 _ from x)
 |ext φ=>obtain⟨_,⟨_,e⟩,_⟩:=x;exact xq e
theorem Paired.mapP{α β:Type}{F G:α->β->Prop}:∀{l₁:List α}{l₂:List β},Paired F l₁ l₂->(∀a b,F a b->G a b)->Paired G l₁ l₂
 |_,_,.nil,_=>.nil
 |_,_,.cons r t,f=>.cons (f _ _ r) (Paired.mapP t f)
theorem jh.stay(x:jh P w H h a o)(k:∀b u,(b=a\/H b=a3 (.own a))->h.get? b=a3 u->h'.get? b=a3 u)
  (ho:∀b,H b=a3 (.own a)->H' b=a3 (.own a)) (ht:∀b xs,H b=a3 (.tup xs)->H' b=a3 (.tup xs)) (hz:∀b o,(∃vs,o.data=.fields vs)->H b=a3 (.frz o (.own 0))->H' b=a3 (.frz o (.own 0))):jh P w H' h' a o:=by
 induction o with
 |lst xs=>obtain⟨z,its,n,r,e⟩:=x;exact⟨z,its,n,r,k _ _ (.inl rfl) e⟩
 |tup xs =>obtain⟨z,its,r,⟨ob,e,c⟩,nd⟩:=x;refine⟨z,its,r,⟨ob,k _ _ (.inl rfl) e,c⟩,λo q=>?_⟩;rw[k _ _ (.inl rfl) e]at q;cases q;exact nd _ e
 |dK kvs=>obtain⟨z,y,vs,r,ob,es,ep,e,c⟩:=x;exact⟨z,y,vs,r,ob,es,ep,k _ _ (.inl rfl) e,c⟩
 |dT kvs =>obtain⟨z,y,xs,r,ob,es,ep,e,c⟩:=x;exact⟨z,y,xs,Paired.mapP r λp q z=>⟨z.1,ht _ _ z.2.1,z.2.2⟩,ob,es,ep,k _ _ (.inl rfl) e,c⟩
 |dI xs ep=>obtain⟨z,y,nd,ob,es,e,c⟩:=x;exact⟨z,y,nd,ob,es,k _ _ (.inl rfl) e,c⟩
 |set S n=>obtain⟨ob,es,ep,t,e,c⟩:=x;exact⟨ob,es,ep,t,k _ _ (.inl rfl) e,c⟩
 |ins C dx fs =>obtain⟨d,z,ne,e,mA,⟨od,es,ep,e2,c⟩,r⟩:=x;exact⟨ho _ d,z,ne,k _ _ (.inl rfl) e,mA,⟨od,es,ep,k _ _ (.inr d) e2,c⟩,r⟩
 |own y=>obtain⟨ob,e⟩:=x;exact⟨ob,k _ _ (.inl rfl) e⟩
 |xd fs=>obtain⟨mA,⟨od,es,ep,e,c⟩,r⟩:=x;exact⟨mA,⟨od,es,ep,k _ _ (.inl rfl) e,c⟩,r⟩
 |rng lo hi=>obtain⟨t,u,v,e⟩:=x;exact⟨t,u,v,k _ _ (.inl rfl) e⟩
 |frz ob u ih=>obtain⟨e,q⟩:=x;exact⟨k _ _ (.inl rfl) e,ih q⟩
 |tbl ps =>have e:h.get? a=a3 { cls:=.none,data:=.fields ps }:=x;show h'.get? a=a3 { cls:=.none,data:=.fields ps };exact k a _ (.inl rfl) e
 |cod q=>obtain⟨ps,e,t,c⟩:=x;exact⟨ps,k _ _ (.inl rfl) e,t,λpos cv z=>let ⟨c,oc,e1,e2,e3⟩:=c pos cv z;⟨c,oc,e1,hz _ _ (let ⟨vs,_,z,_⟩:=e3;⟨vs,z⟩) e2,e3⟩⟩
 |met f y =>have e:h.get? a=a3 (W.methodObj (.ref f) (.ref y)):=x;show h'.get? a=a3 (W.methodObj (.ref f) (.ref y));exact k a _ (.inl rfl) e
 |ext φ=>obtain⟨p,⟨o,e⟩,st⟩:=x;exact⟨st _ _ p λo q=>k _ _ (.inl rfl) q,⟨o,k _ _ (.inl rfl) e⟩,st⟩
theorem HOk.lt(x:HOk P w H h)(e:H a=a3 o):a<h.objs.size:=(x a o e).lt
theorem HOk.fresh(x:HOk P w H h)(e:h.objs.size<=a):H a=a5:=by
 cases q:H a with
 |none=>rfl
 |some u=>exact absurd (Xb (x.lt q) e) (Xx _)
theorem HOk.kept(x:HOk P w H h)(k:∀b u,h.get? b=a3 u->h'.get? b=a3 u):HOk P w H h':=λa o e =>(x a o e).stay (λb u _ q=>k b u q) (λ_ q=>q) (λ_ _ q=>q) λ_ _ _ q=>q
theorem HOk.laid(x:HOk P w H h)(k:∀b u,h.get? b=a3 u->h'.get? b=a3 u)(hp:h.objs.size<=a)(new:jh P w (upd H a o) h' a o):HOk P w (upd H a o) h':=λb u e=>by
 have hn:=x.fresh hp;by_cases hb:b=a
 .subst hb;rw[j9]at e;cases e;exact new
 .rw[jb hb]at e;exact(x b u e).stay (λc v _ q=>k c v q) (λc q=>by rw[jb (vd q hn)];exact q) (λc xs q=>by rw[jb (vd q hn)];exact q) λc _ _ q=>by rw[jb (vd q hn)];exact q
end
def Rd(H:Hp)(a:aa)(u:HO):Prop:=H a=a3 u\/∃o,H a=a3 (.frz o u)
theorem Rd.ok{P:au}{w:aA}{H:Hp}{h:aD}{a:aa}{u:HO}(r:Rd H a u)(x:HOk P w H h):jh P w H h a u:=by
 rcases r with r|⟨o,r⟩
 .exact x a u r
 .obtain⟨_,q⟩:=x a _ r;exact q
def Mut:Option HO->Prop
 |some (.lst _)=>True
 |some (.dK _)=>True
 |some (.dT _)=>True
 |some (.dI _ _)=>True
 |some (.set _ _)=>True
 |some (.ins _ _ _)=>True
 |some (.ext _)=>True
 |some (.cod _)=>True
 |_=>False
section
variable{P:au}{w:aA}{H:Hp}{h h':aD}{x e:aa}{o':HO}
theorem HOk.write(ok:HOk P w H h)(mu:Mut (H x))(he:e=x\/H e=a3 (.own x))(k:∀b u,b≠e->h.get? b=a3 u->h'.get? b=a3 u)(heo:∃u,h'.get? e=a3 u)
  (new:jh P w (upd H x o') h' x o'):HOk P w (upd H x o') h':=λb u q=>by
 have nown:∀c y,H c=a3 (.own y)->c≠x:=λc y r z=>by subst z;rw[r]at mu;exact mu
 have ntup:∀c xs,H c=a3 (.tup xs)->c≠x:=λc xs r z=>by subst z;rw[r]at mu;exact mu
 have nfrz:∀c o u,H c=a3 (.frz o u)->c≠x:=λc o u r z=>by subst z;rw[r]at mu;exact mu
 by_cases hb:b=x
 .subst hb;rw[j9]at q;cases q;exact new
 .rw[jb hb]at q;by_cases hbe:b=e
  .have q':H b=a3 (.own x):=by
    rcases he with z|z
    .exact absurd (hbe.trans z) hb
    .rw[hbe];exact z
   rw[q]at q';cases q';obtain⟨v,hv⟩:=heo;exact⟨v,by rw[hbe];exact hv⟩
  .refine(ok b u q).stay (λc v hc r=>k c v ?_ r) (λc r=>by rw[jb (nown c b r)];exact r) (λc xs r=>by rw[jb (ntup c xs r)];exact r) λc o _ r=>by rw[jb (nfrz c o _ r)];exact r
   rcases hc with rfl|hc
   .exact hbe
   .rintro rfl;rcases he with z|z
    .exact nown c b hc z
    .rw[hc]at z;cases z;exact hb rfl
end
structure Un(fs ex:List aa)(H H':Hp)(h h':aD):Prop where
 keep:∀b o,h.get? b=a3 o->H b=a5->b∉fs->b∉ex->h'.get? b=a3 o
 slot:∀b o,h.get? b=a3 o->H b=a5->b∈fs->b∉ex->∃sl,h'.get? b=a3 { o with slots:=sl }
 free:∀b o,h.get? b=a3 o->H b=a5->b∉ex->H' b=a5
 there:∀b o,h.get? b=a3 o->b∉ex->∃o',h'.get? b=a3 o'
 tups:∀b xs,H b=a3 (.tup xs)->H' b=a3 (.tup xs)
 frzs:∀b o u,H b=a3 (.frz o u)->H' b=a3 (.frz o u)
 tbls:∀b ps,H b=a3 (.tbl ps)->∃more,H' b=a3 (.tbl (ps++more))
section
variable{fs fs' ex ex':List aa}{H H1 H2:Hp}{h h1 h2 h':aD}{a x e:aa}{o:HO}
theorem Un.any(u:Un fs ex H H1 h h1){b:aa}{ob:cE}(q:h.get? b=a3 ob)(n:H b=a5)(hx:b∉ex):∃sl,h1.get? b=a3 { ob with slots:=sl }:=by
 by_cases hb:b∈fs
 .exact u.slot b ob q n hb hx
 .exact⟨ob.slots,u.keep b ob q n hb hx⟩
theorem Un.kept(k:∀b u,h.get? b=a3 u->h'.get? b=a3 u):Un fs ex H H h h' :=
 ⟨λb ob q _ _ _=>k b ob q,λb ob q _ _ _=>⟨ob.slots,k b ob q⟩,λ_ _ _ n _=>n,λb ob q _=>⟨ob,k b ob q⟩,λ_ _ q=>q,λ_ _ _ q=>q,λ_ ps q=>⟨#[],by rw[q];simp⟩⟩
theorem Un.refl:Un fs ex H H h h:=Un.kept λ_ _ q=>q
theorem Un.laid(k:∀b u,h.get? b=a3 u->h'.get? b=a3 u)(hp:h.objs.size<=a)(hn:H a=a5):Un fs ex H (upd H a o) h h' where
 keep:=λb u q _ _ _=>k b u q
 slot:=λb u q _ _ _=>⟨u.slots,k b u q⟩
 free:=λb u q n _=>by rw[jb (X8 (Xb (xq q) hp))];exact n
 there:=λb u q _=>⟨u,k b u q⟩
 tups:=λb xs q=>by rw[jb (vd q hn)];exact q
 frzs:=λb u xs q=>by rw[jb (vd q hn)];exact q
 tbls:=λb ps q=>⟨#[],by rw[jb (vd q hn),q];simp⟩
theorem Un.write(mu:Mut (H x))(he:e=x\/H e=a3 (.own x))(k:∀b u,b≠e->h.get? b=a3 u->h'.get? b=a3 u)(heo:∃u,h'.get? e=a3 u):Un fs ex H (upd H x o) h h':=by
 have hx:∀b,H b=a5->b≠x:=λb n z=>by subst z;rw[n]at mu;exact mu
 have hb:∀b,H b=a5->b≠e:=λb n z=>by
  subst z;rcases he with r|r
  .exact hx b n r
  .rw[n]at r;cases r
 have hm:∀b u,H b=a3 u->¬Mut (a3 u)->b≠x:=λb u q nm z=>by subst z;rw[q]at mu;exact nm mu
 refine⟨λb u q n _ _=>k b u (hb b n) q,λb u q n _ _=>⟨u.slots,k b u (hb b n) q⟩,λb u q n _=>by rw[jb (hx b n)];exact n,λb u q _=>?_,
  λb xs q=>by rw[jb (hm b _ q λz=>z)];exact q,λb u xs q=>by rw[jb (hm b _ q λz=>z)];exact q,λb ps q=>⟨#[],by rw[jb (hm b _ q λz=>z),q];simp⟩⟩
 by_cases hbe:b=e
 .subst hbe;exact heo
 .exact⟨u,k b u hbe q⟩
end
noncomputable def trk(h:aD)(H:Hp):List aa:=(aE h.objs.size).filter λa=>(H a).isSome
noncomputable def Wq(h:aD)(H:Hp):aD:=W.hideAll h (trk h H)
theorem j6d(h:aD)(H:Hp):(Wq h H).objs.size=h.objs.size:=W.hideAll_size _ _
theorem j93{h:aD}{H:Hp}{b:aa}{o:cE}(e:h.get? b=a3 o)(n:H b=a5):(Wq h H).get? b=a3 o :=
 W.hideAll_get _ e λhm=>by have q:(H b).isSome=a7:=(Xz.mp hm).2;rw[n]at q;simp at q
theorem jci{h:aD}{H:Hp}{b:aa}{o:cE}(e:(Wq h H).get? b=a3 o):h.get? b=a3 o/\H b=a5:=by
 have e':h.get? b=a3 o:=W.of_hideAll (trk h H) e;refine⟨e',?_⟩;cases q:H b with
 |none=>rfl
 |some x =>have hm:b∈trk h H:=Xz.mpr ⟨Xf.mpr (xq e'),by simp[q]⟩;have z:(Wq h H).get? b=a5:=T9 (trk h H) hm;rw[z]at e;cases e
noncomputable def jdy(g h:aD)(L:aa):List (aa×cE):=(aE h.objs.size).filterMap λa=>if a=L\/(g.get? a).isSome=a7 then a5 else(h.get? a).map λo=>(a,o)
noncomputable def rest(g h:aD)(L d:aa):List (aa×cE):=(jdy g h L).filter λp=>decide (p.1≠d)
structure Mod(K:k8y)(mg:k91)(base:aD):Prop where
 kin:K.In base
 glob:base.Ns ak mg
 blt:∃mb,base.Ns dS mb/\∀x:af,x ≠ "__name__"->mb x=cR x
 nolimit:base.NoLimit
 bm:∃bm ob,mg "__builtins__" = a3 (.ref bm)/\bm≠dS/\base.get? bm=a3 ob/\ob.cls=.type "module"/\ob.dict=a3 dS/\ob.data=.plain
structure Cx where
 prog:au
 w:aA
 K:k8y
 mg:af->Option a8
 base:aD
 A:aB
 N:List af
 s₀:ae
 H₀:Hp
 env:cH
 outer:List cH
 stack:List cH
 ex:List aa
 fn:af->Bool
 calm:Bool
 pn:List (aa×cE)
 xe:a8->ae->Prop
noncomputable def frs(l:List cH):List aa:=l.filterMap (·.frame)
noncomputable abbrev Cx.fs(X:Cx):List aa:=frs X.outer
def Vis(sc:b9)(x:af):Prop:=sc.names.lookup x=a3 .local\/sc.names.lookup x=a3 .cell\/sc.names.lookup x=a3 .free
def Loc(sc:b9)(x:af):Prop:=sc.names.lookup x=a3 .local\/sc.names.lookup x=a3 .cell
def Look(env:cH)(h:aD)(m:k91)(x:af)(u:a8):Prop :=
 (env.kindOf x=a3 .local/\m x=a3 u)\/((env.kindOf x=a3 .cell\/env.kindOf x=a3 .free)/\∃c,env.cells.lookup x=a3 c/\h.IsCell c (a3 u))
structure Cx.Ok(X:Cx):Prop where
 mod:Mod X.K X.mg X.base
 kind:X.env.scope.kind=.function
 glob:X.env.globals=ak
 blt:X.env.builtins=dS
 above:X.s₀.heap.objs.size<=X.env.locals
 inj:∀x y c,X.env.cells.lookup x=a3 c->X.env.cells.lookup y=a3 c->x=y
 has:∀x,(X.env.kindOf x=a3 .cell\/X.env.kindOf x=a3 .free)->∃c,X.env.cells.lookup x=a3 c
 cab:∀x c,X.fn x=a7->X.env.cells.lookup x=a3 c->X.s₀.heap.objs.size<=c
 hd:X.calm=a7->X.A.handled=a5
 frames:X.A.frames=a3 X.stack
 stk:X.stack=X.outer\/(X.stack=X.env::X.outer/\X.env.frame=a3 X.env.locals)
 exf:∀b∈X.ex,b≠X.env.locals/\∀x c,X.env.cells.lookup x=a3 c->c≠b
 bs:∀b o,X.base.get? b=a3 o->X.s₀.heap.get? b=a3 o/\X.H₀ b=a5
 bsz:X.base.objs.size<=X.s₀.heap.objs.size
 noex:∀b o,X.base.get? b=a3 o->b∉X.ex
 exfs:∀b∈X.ex,b∉X.fs
 funs:X.s₀.heap.FunFrames X.base X.outer
 frf:∀b∈X.fs,X.H₀ b=a5
structure Inv(X:Cx)(pins:k90)(σ:List (Option V))(H:Hp)(s:ae):Prop where
 ok:X.Ok
 os:s.os=X.s₀.os
 bare:eA s.gens
 base:Un X.fs X.ex X.H₀ H X.s₀.heap s.heap
 loc:∃m,s.heap.Ns X.env.locals m/\∀(i:Nat)(x:af)(v:V),X.N[i]?=a3 x->σ[i]?=a3 (a3 v)->Vis X.env.scope x->∃u,RelV v u/\Look X.env s.heap m x u
 cell:∀x c,X.env.cells.lookup x=a3 c->∃v,s.heap.IsCell c v
 free:H X.env.locals=a5
 freeC:∀x c,X.env.cells.lookup x=a3 c->H c=a5
 pin:∀p∈X.pn++pins,s.heap.get? p.1=a3 p.2/\H p.1=a5/\p.1≠X.env.locals/\p.1∉X.fs/\∀v,p.2.data≠.cell v
 hok:HOk X.prog X.w H s.heap
 len:σ.length=X.N.length
section
variable{X:Cx}{pins:k90}{σ:List (Option V)}{H H':Hp}{s:ae}{h':aD}
theorem Cx.Ok.nofr(ok:X.Ok){b:aa}{o:cE}(e:X.base.get? b=a3 o):b∉X.fs:=λhb=>by have:=(ok.funs.mem hb).1;rw[e]at this;cases this
theorem Inv.bs(I:Inv X pins σ H s):∀b o,X.base.get? b=a3 o->s.heap.get? b=a3 o/\H b=a5:=λb o e =>⟨I.base.keep b o (I.ok.bs b o e).1 (I.ok.bs b o e).2 (I.ok.nofr e) (I.ok.noex b o e),I.base.free b o (I.ok.bs b o e).1 (I.ok.bs b o e).2 (I.ok.noex b o e)⟩
theorem Inv.bk(I:Inv X pins σ H s):∀b o,X.base.get? b=a3 o->s.heap.get? b=a3 o:=λb o e=>(I.bs b o e).1
theorem Inv.mod(I:Inv X pins σ H s):Mod X.K X.mg X.base:=I.ok.mod
theorem Inv.kIn(I:Inv X pins σ H s):X.K.In s.heap:=I.ok.mod.kin.keeps I.bk
theorem Inv.lt(I:Inv X pins σ H s):X.env.locals<s.heap.objs.size:=let ⟨_,hn,_⟩:=I.loc;hn.lt
theorem Inv.sz(I:Inv X pins σ H s):X.s₀.heap.objs.size<=s.heap.objs.size:=Xi I.ok.above (di I.lt)
theorem Inv.nofs(I:Inv X pins σ H s){a:aa}(h:s.heap.objs.size<=a):a∉X.fs:=λhb=>by obtain⟨_,o,ho,_⟩:=I.ok.funs.mem hb;exact absurd (Xb (xq ho) (Xi I.sz h)) (Xx _)
theorem Inv.cne(I:Inv X pins σ H s):∀x c,X.env.cells.lookup x=a3 c->c≠X.env.locals:=λx c e z=>by obtain⟨v,o,ho,hd⟩:=I.cell x c e;obtain⟨m,⟨o',es,ep,ho',hd',_⟩,_⟩:=I.loc;rw[z,ho']at ho;cases ho;rw[hd']at hd;cases hd
theorem Inv.funs(I:Inv X pins σ H s):s.heap.FunFrames X.base X.outer:=by
 have all:∀(l:List cH),(∀b∈frs l,b∈X.fs)->X.s₀.heap.FunFrames X.base l->s.heap.FunFrames X.base l:=by
  intro l;induction l with
  |nil=>intro _ _;trivial
  |cons env r ih =>intro hs hl;obtain⟨hk,⟨L,o,hf,hn,ho,hd⟩,hr⟩:=hl;have hL:L∈X.fs:=hs L (by unfold frs;rw[c9,hf];exact xr);obtain⟨sl,e⟩:=I.base.slot L o ho (I.ok.frf L hL) hL λz=>I.ok.exfs L z hL;exact⟨hk,⟨L,_,hf,hn,e,hd⟩,ih (λb hb=>hs b (by unfold frs;rw[c9,hf];exact kj _ hb)) hr⟩
 exact all X.outer (λ_ hb=>hb) I.ok.funs
theorem Inv.stack(I:Inv X pins σ H s):s.heap.FunFrames X.base X.stack:=by
 rcases I.ok.stk with e|⟨e,hf⟩
 .rw[e];exact I.funs
 .rw[e];obtain⟨m,hn,_⟩:=I.loc;refine .cons (by rw[I.ok.kind];decide) hf hn ?_ I.funs;exact Heap.get?_none_of_le (Xi I.ok.bsz I.ok.above)
theorem Inv.stkSub(I:Inv X pins σ H s):∀b∈frs X.stack,b∈X.env.locals::X.fs:=λb hb=>by
 rcases I.ok.stk with e|⟨e,hf⟩
 .rw[e]at hb;exact kj _ hb
 .rw[e]at hb;unfold frs at hb;rw[c9,hf]at hb;exact hb
theorem Inv.stkFree(I:Inv X pins σ H s):∀b∈frs X.stack,H b=a5:=λb hb=>by
 rcases xm.mp (I.stkSub b hb)with e|hb
 .rw[e];exact I.free
 .obtain⟨_,o,ho,_⟩:=I.ok.funs.mem hb;exact I.base.free b o ho (I.ok.frf b hb) λz=>I.ok.exfs b z hb
theorem Inv.step{g':Array fH}{t':Nat}{d':Drawn}{ch:List aa}(I:Inv X pins σ H s)
  (hch:∀b∈ch,(b∈X.ex\/X.s₀.heap.objs.size<=b)/\b≠X.env.locals/\(∀x c,X.env.cells.lookup x=a3 c->c≠b)/\∀p∈X.pn++pins,p.1≠b)
  (keep:∀b o,b≠X.env.locals->b∉X.fs->b∉ch->s.heap.get? b=a3 o->H b=a5->h'.get? b=a3 o)
  (slot:∀b o,b≠X.env.locals->b∈X.fs->b∉ch->s.heap.get? b=a3 o->H b=a5->∃sl,h'.get? b=a3 { o with slots:=sl }) (free:∀b o,b∉ch->s.heap.get? b=a3 o->H b=a5->H' b=a5)
  (there:∀b o,b∉ch->s.heap.get? b=a3 o->∃o',h'.get? b=a3 o')
  (tups:∀b xs,H b=a3 (.tup xs)->H' b=a3 (.tup xs)) (frzs:∀b o u,H b=a3 (.frz o u)->H' b=a3 (.frz o u)) (tbls:∀b ps,H b=a3 (.tbl ps)->∃more,H' b=a3 (.tbl (ps++more)))
  (ns:∀m,s.heap.Ns X.env.locals m->h'.Ns X.env.locals m) (hok:HOk X.prog X.w H' h') (hg:eA g') :
  Inv X pins σ H' { s with heap:=h',gens:=g',drawn:=d',toks:=t' }:=by
 have neL:∀b o,X.s₀.heap.get? b=a3 o->b≠X.env.locals:=λb o e=>X8 (Xb (xq e) I.ok.above);have neC:∀b o,X.s₀.heap.get? b=a3 o->b∉X.ex->b∉ch:=λb o e hx hb=>by
  rcases(hch b hb).1 with z|z
  .exact hx z
  .exact absurd (Xb (xq e) z) (Xx _)
 have cellK:∀x c,X.env.cells.lookup x=a3 c->∀v,s.heap.IsCell c v->h'.IsCell c v:=λx c e v ⟨o,ho,hd⟩=>by
  have nch:c∉ch:=λz=>(hch c z).2.2.1 x c e rfl;by_cases hc:c∈X.fs
  .obtain⟨sl,q⟩:=slot c o (I.cne x c e) hc nch ho (I.freeC x c e);exact⟨_,q,hd⟩
  .exact⟨o,keep c o (I.cne x c e) hc nch ho (I.freeC x c e),hd⟩
 refine⟨I.ok,I.os,hg,⟨λb o e n hb hx=>?_,λb o e n hb hx=>?_,λb o e n hx=>?_,λb o e hx=>?_,λb xs e=>tups b xs (I.base.tups b xs e),λb o xs e=>frzs b o xs (I.base.frzs b o xs e),λb ps e=>?_⟩,?_,λx c e=>?_,?_,λx c e=>?_,λp hp=>?_,hok,I.len⟩
 .exact keep b o (neL b o e) hb (neC b o e hx) (I.base.keep b o e n hb hx) (I.base.free b o e n hx)
 .obtain⟨sl,e1⟩:=I.base.slot b o e n hb hx;obtain⟨sl',e2⟩:=slot b _ (neL b o e) hb (neC b o e hx) e1 (I.base.free b o e n hx);exact⟨sl',e2⟩
 .obtain⟨o',e1⟩:=I.base.there b o e hx;exact free b o' (neC b o e hx) e1 (I.base.free b o e n hx)
 .obtain⟨o',e1⟩:=I.base.there b o e hx;exact there b o' (neC b o e hx) e1
 .obtain⟨m1,e1⟩:=I.base.tbls b ps e;obtain⟨m2,e2⟩:=tbls b _ e1;exact⟨m1++m2,by rw[e2,Array.append_assoc]⟩
 .obtain⟨m,hn,hl⟩:=I.loc;refine⟨m,ns m hn,λi x v e1 e2 e3=>?_⟩;obtain⟨u,r,l⟩:=hl i x v e1 e2 e3;refine⟨u,r,?_⟩;rcases l with l|⟨k,c,e,z⟩
  .exact .inl l
  .exact .inr ⟨k,c,e,cellK x c e _ z⟩
 .obtain⟨v,z⟩:=I.cell x c e;exact⟨v,cellK x c e v z⟩
 .obtain⟨m,⟨o,_,_,ho,_⟩,_⟩:=I.loc;exact free _ o (λz=>(hch _ z).2.1 rfl) ho I.free
 .obtain⟨v,o,ho,hd⟩:=I.cell x c e;exact free c o (λz=>(hch c z).2.2.1 x c e rfl) ho (I.freeC x c e)
 .obtain⟨e,n,ne,nf,d⟩:=I.pin p hp;have nch:p.1∉ch:=λz=>(hch p.1 z).2.2.2 p hp rfl;exact⟨keep p.1 p.2 ne nf nch e n,free p.1 p.2 nch e n,ne,nf,d⟩
theorem Inv.un{t':Nat}(I:Inv X pins σ H s)(u:Un X.fs [] H H' s.heap h')(hok:HOk X.prog X.w H' h'):Inv X pins σ H' { s with heap:=h',toks:=t' }:=by
 obtain⟨m,⟨o,es,ep,ho,r⟩,_⟩:=id I.loc;obtain⟨sl,hL⟩:=u.any ho I.free (by simp);exact I.step (g':=s.gens) (d':=s.drawn) (ch:=[]) (λ_ z=>nomatch z) (λb o _ hb _ e n=>u.keep b o e n hb (by simp)) (λb o _ hb _ e n=>u.slot b o e n hb (by simp)) (λb o _ e n=>u.free b o e n (by simp)) (λb o _ e=>u.there b o e (by simp)) u.tups u.frzs u.tbls (λm' hm=>by
  obtain⟨o',es',ep',ho',r'⟩:=hm
  rw[ho]at ho';cases ho'
  exact⟨_,es',ep',hL,r'⟩) hok I.bare
theorem Inv.call{g':Array fH}{t':Nat}{d':Drawn}{ch:List aa}(I:Inv X pins σ H s)(u:Un (frs X.stack) ch H H' s.heap h')(hok:HOk X.prog X.w H' h')(hg:eA g')
  (hch:∀b∈ch,(b∈X.ex\/X.s₀.heap.objs.size<=b)/\b≠X.env.locals/\(∀x c,X.env.cells.lookup x=a3 c->c≠b)/\∀p∈X.pn++pins,p.1≠b) :
  Inv X pins σ H' { s with heap:=h',gens:=g',drawn:=d',toks:=t' }:=by
 obtain⟨m,⟨o,es,ep,ho,r⟩,_⟩:=id I.loc;obtain⟨sl,hL⟩:=u.any ho I.free λz=>(hch _ z).2.1 rfl;exact I.step (ch:=ch) hch (λb o hL hb hc e n=>u.keep b o e n (λz=>(xm.mp (I.stkSub b z)).elim hL hb) hc) (λb o _ _ hc e n=>u.any e n hc) (λb o hc e n=>u.free b o e n hc) (λb o hc e=>u.there b o e hc) u.tups u.frzs u.tbls (λm' hm=>by
  obtain⟨o',es',ep',ho',r'⟩:=hm
  rw[ho]at ho';cases ho'
  exact⟨_,es',ep',hL,r'⟩) hok hg
theorem Inv.turned{t':Nat}{it:aa}(I:Inv X pins σ H s)(k:∀b o,b≠it->s.heap.get? b=a3 o->h'.get? b=a3 o)(hn:H it=a5)(hL:it≠X.env.locals)
  (h1:it∈X.ex\/X.s₀.heap.objs.size<=it) (h2:∀x c,X.env.cells.lookup x=a3 c->c≠it) (h3:∀p∈X.pn++pins,p.1≠it):Inv X pins σ H { s with heap:=h',toks:=t' }:=by
 have nit:∀b u,H b=a3 u->b≠it:=λb u e z=>by rw[z,hn]at e;cases e
 refine I.step (g':=s.gens) (d':=s.drawn) (ch:=[it]) (λb hb=>?_) (λb o _ _ hc e _=>k b o (λz=>hc (by simp[z])) e) (λb o _ _ hc e _=>⟨o.slots,k b o (λz=>hc (by simp[z])) e⟩) (λ_ _ _ _ n=>n)
  (λb o hc e=>⟨o,k b o (λz=>hc (by simp[z])) e⟩) (λ_ _ e=>e) (λ_ _ _ e=>e) (λb ps e=>⟨#[],by rw[e];simp⟩) (λm hm=>?_) (λb u e=>?_) I.bare
 .have e:b=it:=by simpa using hb
  subst e;exact⟨h1,hL,h2,h3⟩
 .obtain⟨o,es,ep,ho,r⟩:=hm;exact⟨o,es,ep,k _ o (c8 hL) ho,r⟩
 .refine(I.hok b u e).stay (λc v hc q=>k c v ?_ q) (λ_ q=>q) (λ_ _ q=>q) λ_ _ _ q=>q;rcases hc with z|z
  .rw[z];exact nit b u e
  .exact nit c _ z
theorem Inv.tok(I:Inv X pins σ H s)(t:Nat):Inv X pins σ H { s with toks:=t }:=I.un (h':=s.heap) (t':=t) Un.refl I.hok
theorem Inv.kept{t':Nat}(I:Inv X pins σ H s)(k:∀b u,s.heap.get? b=a3 u->h'.get? b=a3 u):Inv X pins σ H { s with heap:=h',toks:=t' }:=I.un (Un.kept k) (I.hok.kept k)
theorem Inv.laid{a:aa}{o:HO}{t':Nat}(I:Inv X pins σ H s)(k:∀b u,s.heap.get? b=a3 u->h'.get? b=a3 u)(hp:s.heap.objs.size<=a)(new:jh X.prog X.w (upd H a o) h' a o) :
  Inv X pins σ (upd H a o) { s with heap:=h',toks:=t' }:=I.un (Un.laid k hp (I.hok.fresh hp)) (I.hok.laid k hp new)
theorem Inv.write{x e:aa}{o:HO}{t':Nat}(I:Inv X pins σ H s)(mu:Mut (H x))(he:e=x\/H e=a3 (.own x))(k:∀b u,b≠e->s.heap.get? b=a3 u->h'.get? b=a3 u)(heo:∃u,h'.get? e=a3 u)
  (new:jh X.prog X.w (upd H x o) h' x o):Inv X pins σ (upd H x o) { s with heap:=h',toks:=t' }:=I.un (Un.write mu he k heo) (I.hok.write mu he k heo new)
theorem Inv.pins_of{pins':k90}(I:Inv X pins σ H s)(h:∀p∈pins',s.heap.get? p.1=a3 p.2/\H p.1=a5/\p.1≠X.env.locals/\p.1∉X.fs/\∀v,p.2.data≠.cell v):Inv X pins' σ H s :=
 ⟨I.ok,I.os,I.bare,I.base,I.loc,I.cell,I.free,I.freeC,λp hp=>(Pq.mp hp).elim (λz=>I.pin p (Xr _ z)) (h p),I.hok,I.len⟩
theorem Bg{N:List af}(hN:N.Nodup){i j:Nat}{x:af}(a:N[i]?=a3 x)(b:N[j]?=a3 x):i=j:=by obtain⟨h1,e1⟩:=Xa.mp a;obtain⟨h2,e2⟩:=Xa.mp b;exact(kq hN).mp (e1.trans e2.symm)
theorem Rq{M:gL}{A:aB}{E:k8z}{i:Nat}{x:af}{v:V}{u:a8}{Q:Unit->ae->Prop}(I:Inv X pins σ H s)(hN:X.N.Nodup)(hi:X.N[i]?=a3 x)(hx:Loc X.env.scope x)(r:RelV v u)
  (h:∀s',Inv X pins (σ.set i (a3 v)) H s'->(∃a,bS a s.heap s'.heap/\(a=X.env.locals\/X.env.cells.lookup x=a3 a))->Q () s') (hf:X.fn x=a7\/X.env.scope.names.lookup x=a3 .local:=by first|exact .inl rfl|exact .inr rfl|assumption):ar M A (storeName X.env x u) Q E s:=by
 obtain⟨m,hn,hl⟩:=id I.loc;have hcls:(X.env.scope.kind==.class || (X.env.scope.kind==.module&&X.env.locals != X.env.globals))=a4:=by rw[I.ok.kind];rfl
 have hiσ:i<σ.length:=by rw[I.len];exact(Xa.mp hi).1
 have cne:=I.cne;have tracked:∀{a:aa}{h':aD},(∃o,s.heap.get? a=a3 o/\H a=a5)->bS a s.heap h'->HOk X.prog X.w H h':=λ{a h'} ha hs b ob e=>by
  obtain⟨_,_,hfree⟩:=ha;refine(I.hok b ob e).stay (λc w' hc q=>(hs.2 c ?_).trans q) (λ_ q=>q) (λ_ _ q=>q) λ_ _ _ q=>q;rintro rfl;rcases hc with rfl|hc
  .rw[hfree]at e;cases e
  .rw[hfree]at hc;cases hc
 rcases hx with hk|hk
 .refine wpAny_storeName_local hk hn (λh' hn' hs=>?_) hcls;obtain⟨oL,_,_,hoL,_⟩:=id hn;refine h _ ⟨I.ok,I.os,I.bare,⟨λb o e n hb hx=>?_,λb o e n hb hx=>?_,I.base.free,λb o e hx=>?_,I.base.tups,I.base.frzs,I.base.tbls⟩,⟨_,hn',λj y v' e1 e2 e3=>?_⟩,λy c e=>?_,I.free,I.freeC,λp hp=>?_,tracked ⟨oL,hoL,I.free⟩ hs,by simpa using I.len⟩ ⟨_,hs,.inl rfl⟩
  .exact(hs.2 b (X8 (Xb (xq e) I.ok.above))).trans (I.base.keep b o e n hb hx)
  .obtain⟨sl,e1⟩:=I.base.slot b o e n hb hx;exact⟨sl,(hs.2 b (X8 (Xb (xq e) I.ok.above))).trans e1⟩
  .obtain⟨o',e1⟩:=I.base.there b o e hx;exact⟨o',(hs.2 b (X8 (Xb (xq e) I.ok.above))).trans e1⟩
  .by_cases hj:j=i
   .subst hj;rw[hi]at e1;cases e1;rw[ir hiσ]at e2;cases e2;exact⟨u,r,.inl ⟨hk,by simp⟩⟩
   .rw[eR (c8 hj)]at e2;obtain⟨u',r',q⟩:=hl j y v' e1 e2 e3;refine⟨u',r',?_⟩;rcases q with ⟨k,e⟩|⟨k,c,e,z⟩
    .refine .inl ⟨k,?_⟩;have:y≠x:=λe=>hj (Bg hN e1 (e▸hi));simp[this,e]
    .exact .inr ⟨k,c,e,z.sameBut hs (cne y c e)⟩
  .obtain⟨w',z⟩:=I.cell y c e;exact⟨w',z.sameBut hs (cne y c e)⟩
  .obtain⟨e,n,ne,nf,d⟩:=I.pin p hp;exact⟨(hs.2 p.1 ne).trans e,n,ne,nf,d⟩
 .have hfn:X.fn x=a7:=by
   rcases hf with z|z
   .exact z
   .rw[z]at hk;cases hk
  obtain⟨c,hc⟩:=I.ok.has x (.inl hk);obtain⟨w',z⟩:=I.cell x c hc;refine wpAny_storeName_cell I.ok.kind hk hc z (λh' hc' hs=>?_);obtain⟨oc,hoc,hocd⟩:=id z;refine h { s with heap:=h' } ⟨I.ok,I.os,I.bare,⟨λb o e n hb hx=>?_,λb o e n hb hx=>?_,I.base.free,λb o e hx=>?_,I.base.tups,I.base.frzs,I.base.tbls⟩,⟨m,hn.sameBut hs (c8 (cne x c hc)),λj y v' e1 e2 e3=>?_⟩,λy c' e=>?_,I.free,I.freeC,λp hp=>?_,tracked ⟨oc,hoc,I.freeC x c hc⟩ hs,by simpa using I.len⟩ ⟨c,hs,.inr hc⟩
  .exact(hs.2 b (X8 (Xb (xq e) (I.ok.cab x c hfn hc)))).trans (I.base.keep b o e n hb hx)
  .obtain⟨sl,e1⟩:=I.base.slot b o e n hb hx;exact⟨sl,(hs.2 b (X8 (Xb (xq e) (I.ok.cab x c hfn hc)))).trans e1⟩
  .obtain⟨o',e1⟩:=I.base.there b o e hx;exact⟨o',(hs.2 b (X8 (Xb (xq e) (I.ok.cab x c hfn hc)))).trans e1⟩
  .by_cases hj:j=i
   .subst hj;rw[hi]at e1;cases e1;rw[ir hiσ]at e2;cases e2;exact⟨u,r,.inr ⟨.inl hk,c,hc,hc'⟩⟩
   .rw[eR (c8 hj)]at e2;obtain⟨u',r',q⟩:=hl j y v' e1 e2 e3;refine⟨u',r',?_⟩;rcases q with q|⟨k,c',e,z'⟩
    .exact .inl q
    .refine .inr ⟨k,c',e,z'.sameBut hs ?_⟩;rintro rfl;exact hj (Bg hN e1 (I.ok.inj _ _ _ e hc▸hi))
  .by_cases hcc:c'=c
   .subst hcc;exact⟨_,hc'⟩
   .obtain⟨w2,z2⟩:=I.cell y c' e;exact⟨w2,z2.sameBut hs hcc⟩
  .obtain⟨e,n,ne,nf,d⟩:=I.pin p hp;refine⟨(hs.2 p.1 ?_).trans e,n,ne,nf,d⟩;intro q;rw[q,hoc]at e;have q':oc=p.2:=ax e;exact d w' (by rw[<-q'];exact hocd)
theorem Iu{M:gL}{A:aB}{E:k8z}{i:Nat}{x:af}{v:V}{u:a8}{Q:Unit->ae->Prop}(I:Inv X pins σ H s)(hN:X.N.Nodup)(hi:X.N[i]?=a3 x)(hx:Loc X.env.scope x)(r:RelV v u)
  (h:∀s',Inv X pins (σ.set i (a3 v)) H s'->Q () s') (hf:X.fn x=a7\/X.env.scope.names.lookup x=a3 .local:=by first|exact .inl rfl|exact .inr rfl|assumption):ar M A (storeName X.env x u) Q E s :=
 Rq I hN hi hx r (λs' I' _=>h s' I') hf
theorem Inv.call'{s':ae}{ch:List aa}(I:Inv X pins σ H s)(ho:s'.os=s.os)(u:Un (frs X.stack) ch H H' s.heap s'.heap)(hok:HOk X.prog X.w H' s'.heap)(hg:eA s'.gens)
  (hch:∀b∈ch,(b∈X.ex\/X.s₀.heap.objs.size<=b)/\b≠X.env.locals/\(∀x c,X.env.cells.lookup x=a3 c->c≠b)/\∀p∈X.pn++pins,p.1≠b):Inv X pins σ H' s':=by
 obtain⟨h',g',d',t',o'⟩:=s';have e:o'=s.os:=ho;subst e;exact I.call (g':=g') (t':=t') (d':=d') u hok hg hch
end
abbrev XK:=a8->Option aa->Hp->Prop
noncomputable abbrev St:=List (Option V)
abbrev VK:=V->Hp->Prop
abbrev TE:=St->Hp->VK->Prop
abbrev TT:=St->Hp->(Bool->Hp->Prop)->Prop
abbrev TA:=St->Hp->(List V->Hp->Prop)->Prop
structure Ends where
 nx:St->Hp->Prop
 rt:VK
 bk:St->Hp->Prop:=λ_ _=>False
 ct:St->Hp->Prop:=λ_ _=>False
abbrev TS:=Ends->St->Hp->Prop
def EP(X:Cx)(pins:k90)(σ:St)(Q:VK)(u:a8)(s':ae):Prop:=∃v H',Inv X pins σ H' s'/\RelV v u/\Q v H'
def TP(X:Cx)(pins:k90)(σ:St)(Q:Bool->Hp->Prop)(b:Bool)(s':ae):Prop:=∃H',Inv X pins σ H' s'/\Q b H'
def AP(X:Cx)(pins:k90)(σ:St)(Q:List V->Hp->Prop)(us:List a8)(s':ae):Prop:=∃vs H',Inv X pins σ H' s'/\Vals vs us/\Q vs H'
def Ext(X:Cx)(H1 H2:Hp)(s':ae):Prop:=∀b,H2 b=H1 b\/∃x o v,X.env.cells.lookup x=a3 b/\X.fn x=a7/\H2 b=a3 (.frz o (.own 0))/\s'.heap.get? b=a3 o/\o.data=.cell v
theorem Ext.refl{X:Cx}{H:Hp}{s':ae}:Ext X H H s':=λ_=>.inl rfl
def SP(X:Cx)(pins:k90)(D:Ends)(f:Flow)(s':ae):Prop :=
 match f with
 |.next=>∃σ' H',Inv X pins σ' H' s'/\D.nx σ' H'
 |.brk=>∃σ' H',Inv X pins σ' H' s'/\D.bk σ' H'
 |.cont=>∃σ' H',Inv X pins σ' H' s'/\D.ct σ' H'
 |.ret u=>∃v σ' H' H2,Inv X pins σ' H' s'/\RelV v u/\Ext X H' H2 s'/\D.rt v H2
def PE(X:Cx)(e:ai)(t:TE):Prop :=
 ∀(pins:k90) (s:ae) (σ:St) (H:Hp) (Q:VK),Inv X pins σ H s->t σ H Q->ar (aw X.prog X.w) X.A (ay e X.env) (EP X pins σ Q) X.xe s
def PT(X:Cx)(e:ai)(t:TT):Prop :=
 ∀(pins:k90) (s:ae) (σ:St) (H:Hp) (Q:Bool->Hp->Prop),Inv X pins σ H s->t σ H Q->ar (aw X.prog X.w) X.A (gp e X.env (ay e X.env)) (TP X pins σ Q) X.xe s
def PW(X:Cx)(e:ai)(t:TT):Prop :=
 ∀(whole:kY a8)(pins:k90) (s:ae) (σ:St) (H:Hp) (Q:Bool->Hp->Prop),Inv X pins σ H s->t σ H Q->ar (aw X.prog X.w) X.A (gp e X.env whole) (TP X pins σ Q) X.xe s
def PA(X:Cx)(es:List ai)(t:TA):Prop :=
 ∀(pos:aJ)(pins:k90) (s:ae) (σ:St) (H:Hp) (Q:List V->Hp->Prop),Inv X pins σ H s->t σ H Q->ar (aw X.prog X.w) X.A (lz (aO pos (a9 es X.env))) (AP X pins σ Q) X.xe s
def PS(X:Cx)(st:aP)(t:TS):Prop :=
 ∀(pins:k90) (s:ae) (σ:St) (H:Hp) (D:Ends),Inv X pins σ H s->t D σ H->ar (aw X.prog X.w) X.A (exec st X.env) (SP X pins D) X.xe s
def PSs(X:Cx)(st:List aP)(t:TS):Prop :=
 ∀(pins:k90) (s:ae) (σ:St) (H:Hp) (D:Ends),Inv X pins σ H s->t D σ H->ar (aw X.prog X.w) X.A (execs st X.env) (SP X pins D) X.xe s
theorem thn{α:Type}{t:kY α}{Q Q':α->ae->Prop}{M:gL}{A:aB}{E:k8z}{s:ae}(h:ar M A t Q E s)(hQ:∀a s,Q a s->Q' a s):ar M A t Q' E s:=aI h hQ λ_ _ x=>x
section
variable{X:Cx}
theorem bin{a b:ai}{ta tb:TE}(ha:PE X a ta)(hb:PE X b tb){pins:k90}{s:ae}{σ:St}{H:Hp}{R:V->V->Hp->Prop}(I:Inv X pins σ H s)(h:ta σ H λx H1=>tb σ H1 λy H2=>R x y H2)
  {α:Type} {Q:α->ae->Prop} {f:a8->a8->kY α}
  (hf:∀v u s2 x y H2,Inv X pins σ H2 s2->RelV x v->RelV y u->R x y H2->ar (aw X.prog X.w) X.A (f v u) Q X.xe s2) :
  ar (aw X.prog X.w) X.A (ay a X.env) (λv s₁=>ar (aw X.prog X.w) X.A (ay b X.env) (λu s₂=>ar (aw X.prog X.w) X.A (f v u) Q X.xe s₂) X.xe s₁) X.xe s:=by
 refine thn (ha pins s σ H _ I h) λv s1 ⟨x,H1,I1,r1,q1⟩=>?_;refine thn (hb pins s1 σ H1 _ I1 q1) λu s2 ⟨y,H2,I2,r2,q2⟩=>?_;exact hf v u s2 x y H2 I2 r1 r2 q2
def jl3(i:Nat):TE:=λσ H Q=>∃v,σ[i]?=a3 (a3 v)/\Q v H
def tC(v:V):TE:=λ_ H Q=>Q v H
theorem Jk {i:Nat} {x:af} {pos:aJ} (hN:X.N[i]?=a3 x) (hv:Vis X.env.scope x) (hd:(x==k92)=a4:=by decide) (hcd:(x==k93)=a4:=by decide):PE X (.Name x pos) (jl3 i):=by
 intro pins s σ H Q I h;obtain⟨v,e,h⟩:=h;obtain⟨m,hn,hl⟩:=I.loc;obtain⟨u,r,l⟩:=hl i x v hN e hv;have fin:EP X pins σ Q u s:=⟨v,H,I,r,h⟩
 rcases l with ⟨hk,hm⟩|⟨hk,c,hc,hcell⟩
 .exact kU (wpAny_loadName_local I.ok.kind hk hn hm fin) hd
 .rcases hk with hk|hk
  .exact kU (wpAny_loadName_cell I.ok.kind hk hc hcell fin) hd
  .exact kU (wpAny_loadName_free I.ok.kind hk hc hcell fin hcd) hd
theorem jfh{i j pos}:PE X (.Constant (.int i) j pos) (tC (.int i)):=λ_ _ _ H _ I h=>wpAny_Constant_int ⟨.int i,H,I.tok _,⟨_,rfl⟩,h⟩
theorem jjb{b j pos}:PE X (.Constant (.bool b) j pos) (tC (.bl b)):=λ_ _ _ H _ I h=>Constant_bool ⟨.bl b,H,I,rfl,h⟩
theorem Es{j pos}:PE X (.Constant .none j pos) (tC .non):=λ_ _ _ H _ I h=>n5 ⟨.non,H,I,rfl,h⟩
theorem j5s{x j pos}:PE X (.Constant (.str x) j pos) (tC (.str x)):=λ_ _ _ H _ I h=>Calls.Constant_str ⟨.str x,H,I.tok _,⟨_,rfl⟩,h⟩
def Gl(X:Cx)(x:af):Prop:=X.env.kindOf x=a3 .globalImplicit
theorem Zy{E:k8z}{pins:k90}{s:ae}{σ:St}{H:Hp}{x:af}{u:a8}{pos:aJ}{Q:k8z}(I:Inv X pins σ H s)(hg:Gl X x)(hm:X.mg x=a3 u)(h:Q u s)
  (hd:(x==k92)=a4:=by decide):ar (aw X.prog X.w) X.A (ay (.Name x pos) X.env) Q E s :=
 gB I.ok.kind hg (Calls.loadGlobal_global (by rw[I.ok.glob];exact I.mod.glob.keeps I.bk) hm h) hd
theorem V5{E:k8z}{pins:k90}{s:ae}{σ:St}{H:Hp}{x:af}{u:a8}{pos:aJ}{Q:k8z}(I:Inv X pins σ H s)(hg:Gl X x)(hm:X.mg x=a5)(hv:cR x=a3 u)(h:Q u s)
  (hn:x ≠ "__name__":=by decide) (hd:(x==k92)=a4:=by decide):ar (aw X.prog X.w) X.A (ay (.Name x pos) X.env) Q E s:=by
 obtain⟨mb,h1,h2⟩:=I.mod.blt;exact gB I.ok.kind hg (Calls.loadGlobal_builtin (by rw[I.ok.glob];exact I.mod.glob.keeps I.bk) hm (by rw[I.ok.blt];exact h1.keeps I.bk) ((h2 x hn).trans hv) h) hd
theorem Mx {x:af} {v:V} {u:a8} {pos:aJ} (hg:Gl X x) (hm:X.mg x=a3 u) (r:RelV v u) (hd:(x==k92)=a4:=by decide):PE X (.Name x pos) (tC v) :=
 λ_ _ _ H _ I h=>Zy I hg hm ⟨v,H,I,r,h⟩ hd
theorem jcb {x:af} {v:V} {u:a8} {pos:aJ} (hg:Gl X x) (hm:X.mg x=a5) (hv:cR x=a3 u) (r:RelV v u) (hn:x ≠ "__name__":=by decide) (hd:(x==k92)=a4:=by decide):PE X (.Name x pos) (tC v) :=
 λ_ _ _ H _ I h=>V5 I hg hm hv ⟨v,H,I,r,h⟩ hn hd
variable{a b:ai}{ta tb:TE}{pos:aJ}
def PC(X:Cx)(op:iG)(a b:ai)(t:TE):Prop :=
 ∀(pins:k90) (s:ae) (σ:St) (H:Hp) (Q:VK),Inv X pins σ H s->t σ H Q ->
  ar (aw X.prog X.w) X.A (ay a X.env) (λv s₁=>ar (aw X.prog X.w) X.A (ay b X.env) (λu s₂=>ar (aw X.prog X.w) X.A (aW op v u) (EP X pins σ Q) X.xe s₂) X.xe s₁) X.xe s
theorem j8m(b:ai){op:iG}(h:op≠.In)(h2:op≠.NotIn):aK op b=a4:=by
 have e1:(op==CmpOp.In)=a4:=by cases op<;>first|rfl|exact absurd rfl h
 have e2:(op==CmpOp.NotIn)=a4:=by cases op<;>first|rfl|exact absurd rfl h2
 cases b<;>simp[aK,e1,e2]
def jlb(ta:TE):TE:=λσ H Q=>ta σ H λx H1=>Q (.bl (decide (x=.non))) H1
theorem RelV.none_iff{x:V}{v:a8}(r:RelV x v):(v==aU)=decide (x=.non):=by
 cases x with
 |non=>cases r;rfl
 |bl _=>cases r;rfl
 |int _=>obtain⟨t,rfl⟩:=r;rfl
 |str _=>obtain⟨t,rfl⟩:=r;rfl
 |byt _=>obtain⟨t,rfl⟩:=r;rfl
 |flt _=>obtain⟨t,rfl⟩:=r;rfl
 |ref _=>cases r;rfl
 |ty _=>cases r;rfl
theorem jfk{j pos'}(ha:PE X a ta):PC X .Is a (.Constant .none j pos') (jlb ta):=by intro pins s σ H Q I h;refine thn (ha pins s σ H _ I h) λv s1 ⟨x,H1,I1,r1,q1⟩=>?_;exact n5 (is_none_gen ⟨.bl _,H1,I1,by rw[r1.none_iff];rfl,q1⟩)
def tB(t:TE):TT:=λσ H Q=>t σ H λx H1=>∃c,x=.bl c/\Q c H1
theorem jfb{op:iG}{t:TE}(h:PC X op a b t)(h1:aK op b=a4:=by first|exact j8m _ (by decide) (by decide)|rfl):PT X (.Compare a [op] [b] pos) (tB t):=by intro pins s σ H Q I hw;refine ki (thn (h pins s σ H _ I hw) λv s1 h1=>thn h1 λu s2 h2=>thn h2 λc s3 ⟨x,H1,I1,r1,q1⟩=>?_) h1;obtain⟨d,rfl,q⟩:=q1;cases r1;exact bu ⟨H1,I1,q⟩
theorem jf8{e:ai}{t:TE}(h:PE X e t)(he:∀whole,gp e X.env whole=(do let v <-whole;jP e.pos;ip [v] (truthy v)):=by intro _;rfl):PT X e (tB t):=by intro pins s σ H Q I hw;refine isTrue_plain (thn (h pins s σ H _ I hw) λv s1 ⟨x,H1,I1,r1,q1⟩=>?_) (he _);obtain⟨d,rfl,q⟩:=q1;cases r1;exact bu ⟨H1,I1,q⟩
variable{tA tB':TT}{rest:List ai}
def tOr(t u:TT):TT:=λσ H Q=>t σ H λc H1=>if c=a7 then Q a7 H1 else u σ H1 Q
def jl7(t:TT):TT:=λσ H Q=>t σ H λc H1=>Q (!c) H1
theorem jf7(ha:PT X a tA):PW X (.BoolOp .Or [a] pos) tA:=by
 intro wh pins s σ H Q I h;refine isTrue_or (thn (ha pins s σ H Q I h) λc s1 e=>?_);cases c with
 |false=>exact isTrue_or_nil e
 |true=>exact e
theorem jj6(ha:PT X a tA)(hb:PW X (.BoolOp .Or (b::rest) pos) tB'):PW X (.BoolOp .Or (a::b::rest) pos) (tOr tA tB'):=by
 intro wh pins s σ H Q I h;refine isTrue_or (thn (ha pins s σ H _ I h) λc s1 ⟨H1,I1,q1⟩=>?_);cases c with
 |true=>exact⟨H1,I1,q1⟩
 |false=>exact hb wh pins s1 σ H1 Q I1 q1
theorem jf9(ha:PT X a tA):PT X (.UnaryOp .Not a pos) (jl7 tA):=by intro pins s σ H Q I h;exact isTrue_not (ha pins s σ H (λc H1=>Q (!c) H1) I h)
def jit(ta tb:TE):TE:=λσ H Q=>ta σ H λx H1=>∃c,x=.bl c/\if c=a7 then tb σ H1 Q else Q (.bl a4) H1
theorem j5t{op}{t:TE}(h:PE X a t):PE X (.BoolOp op [a] pos) t:=λpins s σ H Q I hw=>BoolOp_one (h pins s σ H Q I hw)
theorem jfj(ha:PE X a ta)(hb:PE X (.BoolOp .And (b::rest) pos) tb):PE X (.BoolOp .And (a::b::rest) pos) (jit ta tb):=by
 intro pins s σ H Q I h;refine BoolOp_and (thn (ha pins s σ H _ I h) λv s1 ⟨x,H1,I1,r1,q1⟩=>?_);obtain⟨c,rfl,q1⟩:=q1;cases r1;refine bu ?_;cases c with
 |true=>exact hb pins s1 σ H1 Q I1 q1
 |false=>exact⟨.bl a4,H1,I1,rfl,q1⟩
def tIf(t:TT)(ta tb:TE):TE:=λσ H Q=>t σ H λc H1=>if c=a7 then ta σ H1 Q else tb σ H1 Q
theorem j8i{c:ai}(hc:PT X c tA)(ha:PE X a ta)(hb:PE X b tb):PE X (.IfExp c a b pos) (tIf tA ta tb):=by
 intro pins s σ H Q I h;refine wpAny_IfExp (thn (hc pins s σ H _ I h) λd s1 ⟨H1,I1,q1⟩=>?_);cases d with
 |true=>exact ha pins s1 σ H1 Q I1 q1
 |false=>exact hb pins s1 σ H1 Q I1 q1
end
def SqL(K:k8y)(H:Hp)(a:aa)(xs:List V):Prop :=
 Rd H a (.lst xs) \/
  ∃(o:cE)(its:Array a8)(n:Nat),K.lookup a=a3 o/\o.cls=.type "list"/\o.dict=a5/\o.data=.seq its n/\its.size<=aq/\Vals xs its.toList
def SqT(K:k8y)(H:Hp)(a:aa)(xs:List V):Prop :=
 Rd H a (.tup xs) \/
  ∃(o:cE)(its:Array a8)(n:Nat),K.lookup a=a3 o/\o.cls=.type "tuple"/\o.dict=a5/\o.data=.seq its n/\its.size<=aq/\Vals xs its.toList
noncomputable def jme:a8->Option V
 |.none=>a3 .non
 |.bool b=>a3 (.bl b)
 |.int i _=>a3 (.int i)
 |.str x _=>a3 (.str x)
 |.bytes b _=>a3 (.byt b)
 |.float b _=>a3 (.flt b)
 |.ref a=>a3 (.ref a)
 |.type n=>a3 (.ty n)
 |_=>a5
theorem RelV.abs{x:V}{u:a8}(r:RelV x u):jme u=a3 x:=by
 cases x with
 |non=>cases r;rfl
 |bl _=>cases r;rfl
 |int _=>obtain⟨t,rfl⟩:=r;rfl
 |str _=>obtain⟨t,rfl⟩:=r;rfl
 |byt _=>obtain⟨t,rfl⟩:=r;rfl
 |flt _=>obtain⟨t,rfl⟩:=r;rfl
 |ref _=>cases r;rfl
 |ty _=>cases r;rfl
theorem RelV.inj{x y:V}{u:a8}(r:RelV x u)(q:RelV y u):x=y:=ax (r.abs.symm.trans q.abs)
theorem Vals.inj:∀{xs ys:List V}{us:List a8},Vals xs us->Vals ys us->xs=ys
 |_,_,_,.nil,.nil=>rfl
 |_,_,_,.cons r t,.cons r' t'=>by rw[r.inj r',Vals.inj t t']
section
variable{X:Cx}{pins:k90}{σ:St}{H:Hp}{s:ae}{a:aa}{xs ys:List V}
theorem Inv.list(I:Inv X pins σ H s)(h:SqL X.K H a xs):∃its:List a8,Vals xs its/\PlainL s.heap a its.toArray/\xs.length<=aq:=by
 rcases h with h|⟨o,its,n,hk,hc,hd,hs,hz,r⟩
 .obtain⟨z,its,n,r,e⟩:=h.ok I.hok;exact⟨its,r,⟨_,n,e,rfl,rfl,rfl⟩,z⟩
 .refine⟨its.toList,r,⟨o,n,I.kIn a o hk,hc,hd,by simpa using hs⟩,?_⟩;have e:=r.length;simp only[cY]at e;omega
theorem Inv.tuple(I:Inv X pins σ H s)(h:SqT X.K H a xs):∃its:List a8,Vals xs its/\iH s.heap a its.toArray/\xs.length<=aq:=by
 rcases h with h|⟨o,its,n,hk,hc,hnd,hs,hz,r⟩
 .obtain⟨z,its,r,p,_⟩:=h.ok I.hok;exact⟨its,r,p,z⟩
 .refine⟨its.toList,r,⟨o,I.kIn a o hk,hc,n,by simpa using hs⟩,?_⟩;have e:=r.length;simp only[cY]at e;omega
theorem Inv.tupD(I:Inv X pins σ H s)(h:SqT X.K H a xs):Vf s.heap a:=by
 rcases h with h|⟨o,its,n,hk,hc,hnd,hs,hz,r⟩
 .obtain⟨z,its,r,p,q⟩:=h.ok I.hok;exact q
 .intro o' e;rw[I.kIn a o hk]at e;cases e;exact hnd
theorem Inv.list_inj(I:Inv X pins σ H s)(h:SqL X.K H a xs)(h':SqL X.K H a ys):xs=ys:=by
 obtain⟨its,r,⟨o,n,e,_,_,d⟩,_⟩:=I.list h;obtain⟨its',r',⟨o',n',e',_,_,d'⟩,_⟩:=I.list h';rw[e]at e';cases e';rw[d]at d';injection d' with d1 _;have:its=its':=by simpa using congrArg l7 d1
 subst this;exact r.inj r'
theorem Inv.tuple_inj(I:Inv X pins σ H s)(h:SqT X.K H a xs)(h':SqT X.K H a ys):xs=ys:=by
 obtain⟨its,r,⟨o,e,_,n,d⟩,_⟩:=I.tuple h;obtain⟨its',r',⟨o',e',_,n',d'⟩,_⟩:=I.tuple h';rw[e]at e';cases e';rw[d]at d';injection d' with d1 _;have:its=its':=by simpa using congrArg l7 d1
 subst this;exact r.inj r'
end
noncomputable abbrev Cx.wish(X:Cx)(E:k8z):Cx:={ X with xe:=E }
noncomputable abbrev Cx.nox(X:Cx):Cx:=X.wish λ_ _=>False
theorem Cx.Ok.wish{X:Cx}(ok:X.Ok)(E:k8z):(X.wish E).Ok :=
 ⟨ok.mod,ok.kind,ok.glob,ok.blt,ok.above,ok.inj,ok.has,ok.cab,ok.hd,ok.frames,ok.stk,ok.exf,ok.bs,ok.bsz,ok.noex,ok.exfs,ok.funs,ok.frf⟩
theorem Cx.Ok.unwish{X:Cx}{E:k8z}(ok:(X.wish E).Ok):X.Ok :=
 ⟨ok.mod,ok.kind,ok.glob,ok.blt,ok.above,ok.inj,ok.has,ok.cab,ok.hd,ok.frames,ok.stk,ok.exf,ok.bs,ok.bsz,ok.noex,ok.exfs,ok.funs,ok.frf⟩
section
variable{X:Cx}{pins:k90}{σ:St}{H:Hp}{s:ae}{E:k8z}
theorem Inv.wish(I:Inv X pins σ H s)(E:k8z):Inv (X.wish E) pins σ H s:=⟨I.ok.wish E,I.os,I.bare,I.base,I.loc,I.cell,I.free,I.freeC,I.pin,I.hok,I.len⟩
theorem Inv.unwish(I:Inv (X.wish E) pins σ H s):Inv X pins σ H s:=⟨I.ok.unwish,I.os,I.bare,I.base,I.loc,I.cell,I.free,I.freeC,I.pin,I.hok,I.len⟩
theorem SP.unwish{D:Ends}{f:Flow}{s':ae}(h:SP (X.wish E) pins D f s'):SP X pins D f s':=by
 cases f with
 |next=>obtain⟨σ',H',I,q⟩:=h;exact⟨σ',H',I.unwish,q⟩
 |brk=>obtain⟨σ',H',I,q⟩:=h;exact⟨σ',H',I.unwish,q⟩
 |cont=>obtain⟨σ',H',I,q⟩:=h;exact⟨σ',H',I.unwish,q⟩
 |ret u=>obtain⟨v,σ',H',H2,I,r,x,q⟩:=h;exact⟨v,σ',H',H2,I.unwish,r,x,q⟩
theorem PSs.nox{st:List aP}{t:TS}(h:PSs X.nox st t):PSs X st t:=λpins s σ H D I hw =>aI (h pins s σ H D (I.wish _) hw) (λ_ _ q=>q.unwish) λ_ _ z=>b8 z
end
section
variable{X:Cx}{st:aP}{rest:List aP}{t u:TS}{e:ai}{te:TE}{pos:aJ}
def jip:TS:=λD σ H=>D.nx σ H
def jl5(t u:TS):TS:=λD σ H=>t { D with nx:=u D } σ H
theorem j21:PSs X [] jip:=λ_ _ σ H _ I h=>i9 ⟨σ,H,I,h⟩
theorem Wi(h1:PS X st t)(h2:PSs X rest u):PSs X (st::rest) (jl5 t u):=by
 intro pins s σ H D I h;refine lQ (thn (h1 pins s σ H { D with nx:=u D } I h) λf s1 q=>?_);cases f with
 |next =>obtain⟨σ',H',I',q⟩:=q;exact h2 pins s1 σ' H' D I' q
 |ret v=>exact q
 |brk=>exact q
 |cont=>exact q
theorem j20(h1:PS X st t):PSs X [st] t:=by
 intro pins s σ H D I h;refine lQ (thn (h1 pins s σ H D I h) λf s1 q=>?_);cases f with
 |next=>exact i9 q
 |ret v=>exact q
 |brk=>exact q
 |cont=>exact q
theorem Inv.quiet{pins:k90}{σ:St}{H:Hp}{s:ae}(I:Inv X pins σ H s):interactive X.env=a4:=by simp[interactive,I.ok.kind]
def jiq(te:TE):TS:=λD σ H=>te σ H λ_ H1=>D.nx σ H1
theorem Mt(he:PE X e te)(hs:aS e a5 pos.line X.env=pure a4:=by rfl):PS X (.Expr e pos) (jiq te):=by intro pins s σ H D I h;exact wpAny_Expr_any (thn (he pins s σ H _ I h) λv s1 ⟨x,H1,I1,r1,q1⟩=>⟨σ,H1,I1,q1⟩) I.quiet hs
def jl6(te:TE):TS:=λD σ H=>te σ H D.rt
theorem Rx(he:PE X e te):PS X (.Return (a3 e) pos) (jl6 te):=by intro pins s σ H D I h;exact lr (thn (he pins s σ H _ I h) λv s1 ⟨x,H1,I1,r1,q1⟩=>⟨x,σ,H1,H1,I1,r1,.refl,q1⟩)
def jlc(c:TT)(t u:TS):TS:=λD σ H=>c σ H λb H1=>if b=a7 then t D σ H1 else u D σ H1
theorem jj8{c:ai}{a b:List aP}{tc:TT}(hc:PT X c tc)(ha:PSs X a t)(hb:PSs X b u):PS X (.If c a b pos) (jlc tc t u):=by
 intro pins s σ H D I h;refine wpAny_If (thn (hc pins s σ H _ I h) λd s1 ⟨H1,I1,q1⟩=>?_);cases d with
 |true=>exact ha pins s1 σ H1 D I1 q1
 |false=>exact hb pins s1 σ H1 D I1 q1
end
abbrev TG:=V->St->Hp->(St->Hp->Prop)->Prop
abbrev TGs:=List V->St->Hp->(St->Hp->Prop)->Prop
def PG(X:Cx)(target:ai)(t:TG):Prop :=
 ∀(pins:k90) (s:ae) (σ:St) (H:Hp) (v:V) (u:a8) (Q:St->Hp->Prop),Inv X pins σ H s->RelV v u->t v σ H Q ->
  ar (aw X.prog X.w) X.A (fE target X.env u) (λ_ s'=>∃σ' H',Inv X pins σ' H' s'/\Q σ' H') X.xe s
def PGs(X:Cx)(ts:List ai)(t:TGs):Prop :=
 ∀(pins:k90) (s:ae) (σ:St) (H:Hp) (vs:List V) (us:List a8) (Q:St->Hp->Prop),Inv X pins σ H s->Vals vs us->t vs σ H Q ->
  ar (aw X.prog X.w) X.A (assignInOrder ((bL ts X.env).map (·.2)) us) (λ_ s'=>∃σ' H',Inv X pins σ' H' s'/\Q σ' H') X.xe s
section
variable{X:Cx}{pos:aJ}
def jaw(i:Nat):TG:=λv σ H Q=>Q (σ.set i (a3 v)) H
theorem Mw{i:Nat}{x:af}(hN:X.N.Nodup)(hi:X.N[i]?=a3 x)(hx:Loc X.env.scope x)(hf:X.fn x=a7\/X.env.scope.names.lookup x=a3 .local:=by first|exact .inl rfl|exact .inr rfl|assumption):PG X (.Name x pos) (jaw i):=by intro pins s σ H v u Q I r h;exact lq (Iu I hN hi hx r (λs' I'=>⟨_,H,I',h⟩) hf)
def jm4:TGs:=λvs σ H Q=>vs=[]/\Q σ H
def jk4(t:TG)(u:TGs):TGs:=λvs σ H Q=>∃v r,vs=v::r/\t v σ H λσ' H'=>u r σ' H' Q
theorem jc9:PGs X [] jm4:=by intro pins s σ H vs us Q I r h;obtain⟨e,h⟩:=h;subst e;cases r;exact assignInOrder_nil ⟨σ,H,I,h⟩
theorem Er{e:ai}{es:List ai}{t:TG}{u:TGs}(h1:PG X e t)(h2:PGs X es u)
  (hs:(bL (e::es) X.env).map (·.2)=fE e X.env::(bL es X.env).map (·.2):=by rfl):PGs X (e::es) (jk4 t u):=by
 intro pins s σ H vs us Q I r h;obtain⟨v,vr,e1,h⟩:=h;subst e1;cases r with
 |cons r rr =>rw[hs];refine assignInOrder_cons (thn (h1 pins s σ H _ _ _ I r h) λ_ s1 ⟨σ1,H1,I1,q1⟩=>?_);exact h2 pins s1 σ1 H1 _ _ Q I1 rr q1
def jm3(K:k8y)(n:Nat)(t:TGs):TG:=λv σ H Q=>∃a xs,v=.ref a/\SqT K H a xs/\xs.length=n/\t xs σ H Q
theorem jff{es:List ai}{k:Nat}{t:TGs}{n:Nat}(hc:X.calm=a7)(h:PGs X es t)
  (hn:(bL es X.env).length=n:=by rfl) (hst:(bL es X.env).findIdx? (·.1)=a5:=by rfl):PG X (.Tuple es k pos) (jm3 X.K n t):=by
 intro pins s σ H v u Q I r hw;obtain⟨a,xs,e1,hq,hl,hw⟩:=hw;subst e1;cases r;obtain⟨its,rv,ht,hz⟩:=I.tuple hq;refine assign_Tuple_tuple (I.ok.hd hc) ht (by simp[hn,<-hl,rv.length]) hst λh' hx=>?_;have I1:Inv X pins σ H { s with heap:=h' }:=I.kept (t':=s.toks) λb o e=>hx b o (X8 (xq e)) e;exact h pins _ σ H xs _ Q I1 (by simpa using rv) hw
def jlf(te:TE)(g:TG):TS:=λD σ H=>te σ H λx H1=>g x σ H1 D.nx
theorem W7{i:Nat}{x:af}{e:ai}{te:TE}{pos':aJ}(hN:X.N.Nodup)(hi:X.N[i]?=a3 x)(hx:Loc X.env.scope x)(he:PE X e te)(hs:aS e (a3 (.Name x pos')) pos.line X.env=pure a4:=by rfl)(hf:X.fn x=a7\/X.env.scope.names.lookup x=a3 .local:=by first|exact .inl rfl|exact .inr rfl|assumption) :
  PS X (.Assign [.Name x pos'] e pos) (jlf te (jaw i)):=by
 intro pins s σ H D I h;refine wpAny_Assign_Name (thn (he pins s σ H _ I h) λv s1 ⟨y,H1,I1,r1,q1⟩=>?_) hs;exact Iu I1 hN hi hx r1 (λs2 I2=>⟨_,H1,I2,q1⟩) hf
end
section
variable{X:Cx}{pos:aJ}
end
structure It where
 go:Nat->Hp->Prop
 yld:Nat->Hp->V->Hp->Prop
 stop:Nat->Hp->Prop
def Qm(X:Cx)(pins:k90)(H:Hp)(b:aa):Prop :=
 H b=a5/\b≠X.env.locals/\b∉X.fs/\(b∈X.ex\/X.s₀.heap.objs.size<=b)/\(∀x c,X.env.cells.lookup x=a3 c->c≠b)/\∀p∈X.pn++pins,p.1≠b
theorem Inv.fpOk{X:Cx}{pins:k90}{σ:St}{H H':Hp}{s:ae}{b:aa}(I:Inv X pins σ H s)(hb:s.heap.objs.size<=b)(hn:H' b=a5):Qm X pins H' b:=by
 refine⟨hn,Pz (Xb I.lt hb),I.nofs hb,.inr (Xi I.sz hb),λx c e z=>?_,λp hp z=>?_⟩
 .obtain⟨v,q⟩:=I.cell x c e;exact absurd (Xb q.lt (by rw[z];exact hb)) (Xx _)
 .exact absurd (Xb (xq (I.pin p hp).1) (by rw[z];exact hb)) (Xx _)
structure Turn(P:au)(w:aA)(K:k8y)(tg:ai)(J:It)(fp:List aa)(it:aa)(tn:Nat->aD->Prop):Prop where
 mem:it∈fp
 obj:∀i h,tn i h->∀b∈fp,∃o,h.get? b=a3 o/\∀v,o.data≠.cell v
 keep:∀i h h',tn i h->(∀b∈fp,∀o,h.get? b=a3 o->h'.get? b=a3 o)->tn i h'
 item:∀(X:Cx),X.prog=P->X.w=w->X.K=K->X.calm=a7->∀(i:Nat)(pins:k90) (s:ae) (σ:St) (H:Hp) (E:k8z),Inv X pins σ H s->(∀b∈fp,Qm X pins H b)->tn i s.heap->J.go i H ->
  ar (aw P w) X.A (fw (.ref it)) (λr s1=>∃u,r=a3 u /\
   ar (aw P w) X.A (eX tg (.ref it) u) (λ_ s2=>∃x H',Inv X pins σ H' s2/\RelV x u/\J.yld i H x H'/\tn (i+1) s2.heap/\∀b∈fp,H' b=a5) E s1) E s
 done:∀(X:Cx),X.prog=P->X.w=w->X.K=K->X.calm=a7->∀(i:Nat)(pins:k90) (s:ae) (σ:St) (H:Hp) (E:k8z),Inv X pins σ H s->(∀b∈fp,Qm X pins H b)->tn i s.heap->J.stop i H ->
  ar (aw P w) X.A (fw (.ref it)) (λr s1=>r=a5/\Inv X pins σ H s1) E s
 self:∀(A:aB)(i:Nat)(s:ae)(Q:k8z)(E:k8z),tn i s.heap->Q (.ref it) s->ar (aw P w) A (iF (.ref it)) Q E s
abbrev TI:=St->Hp->(It->Hp->Prop)->Prop
def PIE(X:Cx)(pins:k90)(σ:St)(tg:ai)(R:It->Hp->Prop)(itv:a8)(s2:ae):Prop :=
 ∃(it:aa)(fp:List aa)(tn:Nat->aD->Prop)(J:It)(H':Hp),itv=.ref it/\Inv X pins σ H' s2/\Turn X.prog X.w X.K tg J fp it tn/\tn 0 s2.heap/\(∀b∈fp,Qm X pins H' b)/\R J H'
def PI(X:Cx)(tg iter:ai)(wi:TI):Prop :=
 ∀(pins:k90) (s:ae) (σ:St) (H:Hp) (R:It->Hp->Prop),Inv X pins σ H s->wi σ H R ->
  ar (aw X.prog X.w) X.A (ay iter X.env) (λv s1=>ar (aw X.prog X.w) X.A (iF v) (PIE X pins σ tg R) X.xe s1) X.xe s
theorem Kz{M:gL}{A:aB}{E:k8z}{s:ae}{tg:ai}{it:aa}{u:a8}{o:cE}{n:String}{vs:Array a8}{Q:Unit->ae->Prop}(ho:s.heap.get? it=a3 o)(hc:o.cls=.type n)(hd:o.data=.fields vs)
  (hn:["enumerate","zip","dict_itemiterator","dict_reverseitemiterator","odict_iterator","itertools.zip_longest","itertools.pairwise"].contains n=a4) (hQ:Q () s):ar M A (eX tg (.ref it) u) Q E s:=by
 unfold eX;cases tg<;>first
  |exact aj hQ
  |(cases u<;>first
    |exact aj hQ
    |(refine a6 (wpAny_load ho ?_);rw[hc,hd];show ar M A (if (["enumerate","zip","dict_itemiterator","dict_reverseitemiterator","odict_iterator","itertools.zip_longest","itertools.pairwise"].contains n&&vs[0]?==a3 (cw _))=a7 then _ else _) Q E s;rw[if_neg (by intro h;rw[hn,kR]at h;cases h)];exact aj hQ))
noncomputable def Itl(K:k8y)(a:aa):It :=
 ⟨λi H=>∃xs x,SqL K H a xs/\xs[i]?=a3 x,λi H x H'=>H'=H/\∀xs,SqL K H a xs->xs[i]?=a3 x,λi H=>∃xs,SqL K H a xs/\xs.length<=i⟩
noncomputable def Itt(K:k8y)(a:aa):It :=
 ⟨λi H=>∃xs x,SqT K H a xs/\xs[i]?=a3 x,λi H x H'=>H'=H/\∀xs,SqT K H a xs->xs[i]?=a3 x,λi H=>∃xs,SqT K H a xs/\xs.length<=i⟩
noncomputable def Itr(lo:Int)(n:Nat):It:=⟨λi _=>i<n,λi H x H'=>H'=H/\x=.int (lo+i),λi _=>n<=i⟩
theorem j4s{P:au}{w:aA}{K:k8y}{tg:ai}(a it:aa):Turn P w K tg (Itl K a) [it] it (λi h=>h.IsListIter it a i) where
 mem:=by simp
 obj:=λi h st b hb=>by
  have e:b=it:=by simpa using hb
  subst e;obtain⟨o,e,c,d⟩:=st;exact⟨o,e,λv z=>by rw[d]at z;cases z⟩
 keep:=λi h h' st k=>st.at λo e=>k it (by simp) o e
 item:=by intro X hP hw hK hc i pins s σ H E I hf st hg;subst hP hw hK;obtain⟨xs,x,hq,hx⟩:=hg;obtain⟨its,rv,p,hz⟩:=I.list hq;obtain⟨u,hu,ru⟩:=rv.get hx;obtain⟨f0,f1,f2,f3,f4,f5⟩:=hf it (by simp);refine eU st p.isList (x:=u) (by simpa using hu) λh' st' sb=>?_;have I1:Inv X pins σ H { s with heap:=h' }:=I.turned (t':=s.toks) (λb o hb e=>(sb.2 b hb).trans e) f0 f1 f3 f4 f5;obtain⟨o,e,c,d⟩:=id st';exact⟨u,rfl,Kz (s:={ s with heap:=h' }) e c d (by decide) ⟨x,H,I1,ru,⟨rfl,λys hy=>by rw[I.list_inj hy hq];exact hx⟩,st',λb hb=>(hf b hb).1⟩⟩
 done:=by intro X hP hw hK hc i pins s σ H E I hf st hg;subst hP hw hK;obtain⟨xs,hq,hx⟩:=hg;obtain⟨its,rv,p,hz⟩:=I.list hq;obtain⟨f0,f1,f2,f3,f4,f5⟩:=hf it (by simp);have hl:=rv.length;exact kg (I.ok.hd hc) st p.isList (by simp;omega) λh' eb=>⟨rfl,I.turned (t':=s.toks) (λb o hb e=>eb b o hb e) f0 f1 f3 f4 f5⟩
 self:=λ_ _ _ _ _ st h=>wpAny_pyIter_listiter st h
theorem j33{P:au}{w:aA}{K:k8y}{tg:ai}(a it:aa):Turn P w K tg (Itt K a) [it] it (λi h=>h.IsTupleIter it a i) where
 mem:=by simp
 obj:=λi h st b hb=>by
  have e:b=it:=by simpa using hb
  subst e;obtain⟨o,e,c,d⟩:=st;exact⟨o,e,λv z=>by rw[d]at z;cases z⟩
 keep:=λi h h' st k=>st.at λo e=>k it (by simp) o e
 item:=by intro X hP hw hK hc i pins s σ H E I hf st hg;subst hP hw hK;obtain⟨xs,x,hq,hx⟩:=hg;obtain⟨its,rv,p,hz⟩:=I.tuple hq;obtain⟨u,hu,ru⟩:=rv.get hx;obtain⟨f0,f1,f2,f3,f4,f5⟩:=hf it (by simp);refine wpAny_pyNext_tuple_item st (show s.heap.IsTuple a its.toArray from p) (x:=u) (by simpa using hu) λh' st' sb=>?_;have I1:Inv X pins σ H { s with heap:=h' }:=I.turned (t':=s.toks) (λb o hb e=>(sb.2 b hb).trans e) f0 f1 f3 f4 f5;obtain⟨o,e,c,d⟩:=id st';exact⟨u,rfl,Kz (s:={ s with heap:=h' }) e c d (by decide) ⟨x,H,I1,ru,⟨rfl,λys hy=>by rw[I.tuple_inj hy hq];exact hx⟩,st',λb hb=>(hf b hb).1⟩⟩
 done:=by intro X hP hw hK hc i pins s σ H E I hf st hg;subst hP hw hK;obtain⟨xs,hq,hx⟩:=hg;obtain⟨its,rv,p,hz⟩:=I.tuple hq;obtain⟨f0,f1,f2,f3,f4,f5⟩:=hf it (by simp);have hl:=rv.length;exact wpAny_pyNext_tuple_end (I.ok.hd hc) st (show s.heap.IsTuple a its.toArray from p) (by simp;omega) λh' eb=>⟨rfl,I.turned (t':=s.toks) (λb o hb e=>eb b o hb e) f0 f1 f3 f4 f5⟩
 self:=λ_ _ _ _ _ st h=>wpAny_pyIter_tupleiter st h
theorem j34{P:au}{w:aA}{K:k8y}{tg:ai}(it:aa)(lo:Int)(n:Nat):Turn P w K tg (Itr lo n) [it] it (λi h=>IsRangeIter h it (lo+(i:Nat)*1) ((n:Int)-(i:Nat)) 1) where
 mem:=by simp
 obj:=λi h st b hb=>by
  have e:b=it:=by simpa using hb
  subst e;exact⟨_,st,λv z=>by
   have z':Data.fields _=Data.cell v:=z
   cases z'⟩
 keep:=λi h h' st k=>k it (by simp) _ st
 item:=by intro X hP hw hK hc i pins s σ H E I hf st hg;subst hP hw hK;obtain⟨f0,f1,f2,f3,f4,f5⟩:=hf it (by simp);have W:=Walks.range (prog:=X.prog) (w:=X.w) (I.ok.hd hc) it lo 1 n;refine W.item i s _ _ hg st λv h' tk hv st' kk=>?_;obtain⟨t,rfl⟩:=hv;have I1:Inv X pins σ H { s with heap:=h',toks:=tk }:=I.turned (λb o hb e=>kk b o (by simpa using hb) e) f0 f1 f3 f4 f5;refine⟨_,rfl,Kz (s:={ s with heap:=h',toks:=tk }) (n:="range_iterator") st' rfl rfl (by decide) ⟨.int (lo+i),H,I1,⟨t,?_⟩,⟨rfl,rfl⟩,st',λb hb=>(hf b hb).1⟩⟩;rw[mE]
 done:=by intro X hP hw hK hc i pins s σ H E I hf st hg;subst hP hw hK;obtain⟨f0,f1,f2,f3,f4,f5⟩:=hf it (by simp);exact wpAny_pyNext_range_end (I.ok.hd hc) st (by have:n<=i:=hg;omega) λh' eb=>⟨rfl,I.turned (t':=s.toks) (λb o hb e=>eb b o hb e) f0 f1 f3 f4 f5⟩
 self:=λ_ _ _ _ _ st h=>wpAny_pyIter_rangeiter st h
section
variable{X:Cx}{tg:ai}
def jk2(K:k8y)(tl:TE):TI:=λσ H R=>tl σ H λx H1=>∃a,x=.ref a/\(∃xs,SqL K H1 a xs)/\R (Itl K a) H1
def jm2(K:k8y)(tl:TE):TI:=λσ H R=>tl σ H λx H1=>∃a,x=.ref a/\(∃xs,SqT K H1 a xs)/\R (Itt K a) H1
theorem jc8{l:ai}{tl:TE}(hl:PE X l tl):PI X tg l (jk2 X.K tl):=by
 intro pins s σ H R I h;refine thn (hl pins s σ H _ I h) λv s1 ⟨x,H1,I1,r1,q1⟩=>?_;obtain⟨a,e,⟨xs,hq⟩,q⟩:=q1;subst e;cases r1;obtain⟨its,rv,p,hz⟩:=I1.list hq;refine bU p.isList ?_;refine⟨s1.heap.objs.size,[s1.heap.objs.size],_,_,H1,rfl,I1.kept (t':=s1.toks) λb o e=>xn _ e,j4s a _,⟨_,X4 _ rfl,rfl,rfl⟩,λb hb=>?_,q⟩;have e:b=s1.heap.objs.size:=by simpa using hb
 subst e;exact I1.fpOk (X3 _) (I1.hok.fresh (X3 _))
theorem jfe{l:ai}{tl:TE}(hl:PE X l tl):PI X tg l (jm2 X.K tl):=by
 intro pins s σ H R I h;refine thn (hl pins s σ H _ I h) λv s1 ⟨x,H1,I1,r1,q1⟩=>?_;obtain⟨a,e,⟨xs,hq⟩,q⟩:=q1;subst e;cases r1;obtain⟨its,rv,p,hz⟩:=I1.tuple hq;refine gj (show s1.heap.IsTuple a its.toArray from p) ?_;refine⟨s1.heap.objs.size,[s1.heap.objs.size],_,_,H1,rfl,I1.kept (t':=s1.toks) λb o e=>xn _ e,j33 a _,⟨_,X4 _ rfl,rfl,rfl⟩,λb hb=>?_,q⟩;have e:b=s1.heap.objs.size:=by simpa using hb
 subst e;exact I1.fpOk (X3 _) (I1.hok.fresh (X3 _))
theorem Eo{pins:k90}{σ:St}{H:Hp}{s:ae}{R:It->Hp->Prop}{E:k8z}{lo hi:Int}{t u v:iq}{tk:Nat}(I:Inv X pins σ H s)(h1:-(2^62)<=lo)(h2:lo<2^62)(h3:-(2^62)<=hi)(h4:hi<2^62)
  (q:R (Itr lo (hi-lo).toNat) H):ar (aw X.prog X.w) X.A (iF (.ref s.heap.objs.size)) (PIE X pins σ tg R) E { s with heap:=s.heap.push { cls:=.type "range",data:=.fields #[.int lo t,.int hi u,.int 1 v] },toks:=tk }:=by
 refine wpAny_pyIter_range (IsRange.new ..) (small_one h1 h2 h3 h4) ?_;have I1:Inv X pins σ H { s with heap:=s.heap.push { cls:=.type "range",data:=.fields #[.int lo t,.int hi u,.int 1 v] },toks:=tk }:=I.kept λb o e=>xn _ e;refine⟨(s.heap.push { cls:=.type "range",data:=.fields #[.int lo t,.int hi u,.int 1 v] }).objs.size,[(s.heap.push { cls:=.type "range",data:=.fields #[.int lo t,.int hi u,.int 1 v] }).objs.size],_,_,H,rfl,
  I1.kept (t':=tk) λb o e=>xn _ e,j34 _ lo (hi-lo).toNat,?_,λb hb=>?_,q⟩
 .have e1:lo+((0:Nat):Int)*1=lo:=by simp
  have e2:(((hi-lo).toNat:Nat):Int)-((0:Nat):Int)=Builtin.Range.rangeSize lo hi 1:=by rw[rangeSize_one];split<;>omega
  show IsRangeIter _ _ (lo+((0:Nat):Int)*1) ((((hi-lo).toNat:Nat):Int)-((0:Nat):Int)) 1;rw[e1,e2];exact X4 _ rfl
 .have e:b=(s.heap.push { cls:=.type "range",data:=.fields #[.int lo t,.int hi u,.int 1 v] }).objs.size:=by simpa using hb
  subst e;exact I1.fpOk (X3 _) (I1.hok.fresh (X3 _))
def jk1(ta:TA):TI:=λσ H R=>ta σ H λvs H1=>∃j:Int,vs=[.int j]/\-(2^62)<=j/\j<2^62/\R (Itr 0 j.toNat) H1
def jk0(ta:TA):TI:=λσ H R=>ta σ H λvs H1=>∃i j:Int,vs=[.int i,.int j]/\(-(2^62)<=i/\i<2^62/\-(2^62)<=j/\j<2^62)/\R (Itr i (j-i).toNat) H1
theorem j5q {a:ai} {ta:TA} {p pos:aJ} (hg:Gl X "range") (hm:X.mg "range" = a5) (ha:PA X [a] ta) (hs:a9 [a] X.env=[(a4,ay a X.env)]:=by rfl):PI X tg (.Call (.Name "range" p) [a] [] pos) (jk1 ta):=by
 intro pins s σ H R I h;refine Call_ (V5 I hg hm boot_range (callWith_type1 (thn (ha pos pins s σ H _ I h) λus s1 ⟨vs,H1,I1,r1,q1⟩=>?_) hs rfl));obtain⟨j,e,q1,q2,q⟩:=q1;subst e;cases r1 with
 |cons r rr =>cases rr;obtain⟨t,rfl⟩:=r;exact call_range_1 (Eo I1 nofun nofun q1 q2 (by simpa using q))
theorem j5p {a b:ai} {ta:TA} {p pos:aJ} (hg:Gl X "range") (hm:X.mg "range" = a5) (ha:PA X [a,b] ta) (hs:a9 [a,b] X.env=[(a4,ay a X.env),(a4,ay b X.env)]:=by rfl) (hs2:a9 [b] X.env=[(a4,ay b X.env)]:=by rfl) :
  PI X tg (.Call (.Name "range" p) [a,b] [] pos) (jk0 ta):=by
 intro pins s σ H R I h;refine Call_ (V5 I hg hm boot_range (callWith_type1 (thn (ha pos pins s σ H _ I h) λus s1 ⟨vs,H1,I1,r1,q1⟩=>?_) (by rw[hs,hs2]) (by rw[hs2];rfl)));obtain⟨i,j,e,⟨q1,q2,q3,q4⟩,q⟩:=q1;subst e;cases r1 with
 |cons r rr =>
  cases rr with
  |cons r' rr =>cases rr;obtain⟨t,rfl⟩:=r;obtain⟨t',rfl⟩:=r';exact call_range_2 (Eo I1 q1 q2 q3 q4 q)
def jld(wi:TI)(g:TG)(tb:TS):TS:=λD σ H=>wi σ H λJ H1=>∃W:Nat->Nat->St->Hp->Prop,(∃m,W 0 m σ H1)/\∀i m σ H,W i m σ H ->
 (J.stop i H/\D.nx σ H)\/(J.go i H/\∃N:St->Hp->Prop,(∀σ' H',N σ' H'->∃m',m'<m/\W (i+1) m' σ' H')/\∀x H',J.yld i H x H'->g x σ H' λσ2 H2=>tb { D with nx:=N,ct:=N,bk:=D.nx } σ2 H2)
noncomputable def qx(fp:List aa)(h:aD):List (aa×cE):=fp.filterMap λb=>(h.get? b).map λo=>(b,o)
theorem Qg{fp:List aa}{h:aD}{b:aa}{o:cE}(hb:b∈fp)(e:h.get? b=a3 o):(b,o)∈qx fp h:=t6.mpr ⟨b,hb,by rw[e];rfl⟩
theorem Lh{fp:List aa}{h:aD}{p:aa×cE}(hp:p∈qx fp h):p.1∈fp/\h.get? p.1=a3 p.2:=by
 obtain⟨b,hb,e⟩:=t6.mp hp;cases q:h.get? b with
 |none=>rw[q]at e;cases e
 |some o =>rw[q]at e;have e':(b,o)=p:=ax e;subst e';exact⟨hb,q⟩
theorem Inv.pinned{pins:k90}{σ:St}{H:Hp}{s:ae}{fp:List aa}(I:Inv X pins σ H s)(hf:∀b∈fp,Qm X pins H b)(ho:∀b∈fp,∃o,s.heap.get? b=a3 o/\∀v,o.data≠.cell v):Inv X (pins++qx fp s.heap) σ H s :=
 I.pins_of λp hp=>(Pq.mp hp).elim (λz=>I.pin p (Xd _ z)) λz=>by obtain⟨hb,e⟩:=Lh z;obtain⟨f0,f1,f2,_⟩:=hf p.1 hb;obtain⟨o,e',d⟩:=ho p.1 hb;rw[e]at e';cases e';exact⟨e,f0,f1,f2,d⟩
theorem Inv.unpinned{pins pl:k90}{σ:St}{H:Hp}{s:ae}(I:Inv X (pins++pl) σ H s):Inv X pins σ H s:=I.pins_of λp hp=>I.pin p (Xd _ (Xr _ hp))
theorem j5k{iter:ai}{body:List aP}{wi:TI}{g:TG}{tb:TS}{pos:aJ}(hp:d5 (aw X.prog X.w) X.A X.env X.xe)(hc:X.calm=a7)(hi:PI X tg iter wi)(hg:PG X tg g)(hb:PSs X body tb)
  (hs:∀x,aF iter X.env x=pure x:=by intro _;rfl):PS X (.For tg iter body [] pos) (jld wi g tb):=by
 intro pins s σ H D I h;refine wpAny_For (thn (hi pins s σ H _ I h) λv s1 h1=>thn h1 λitv s2 h2=>?_) hs;obtain⟨it,fp,tn,J,H2,e,I2,T,st2,f2,W,⟨m0,w0⟩,turn⟩:=h2;subst e;have stat:∀{H':Hp},(∀b∈fp,H' b=a5)->∀b∈fp,Qm X pins H' b:=λhn b hb=>⟨hn b hb,(f2 b hb).2⟩
 refine codeAny_forLoop_any (λn s'=>∃i σ' H',Inv X pins σ' H' s'/\tn i s'.heap/\(∀b∈fp,H' b=a5)/\W i n σ' H') ?_ m0 ⟨0,σ,H2,I2,st2,λb hb=>(f2 b hb).1,w0⟩;rintro n s3 ⟨i,σ3,H3,I3,st3,fr3,w3⟩;rcases turn i n σ3 H3 w3 with ⟨stop,qn⟩|⟨go,N,hN,step⟩
 .refine du hp (thn (T.done X rfl rfl rfl hc i pins s3 σ3 H3 X.xe I3 (stat fr3) st3 stop) λr s4 ⟨hr,I4⟩=>?_);subst hr;exact i9 ⟨σ3,H3,I4,qn⟩
 .refine du hp (thn (T.item X rfl rfl rfl hc i pins s3 σ3 H3 X.xe I3 (stat fr3) st3 go) λr s4 ⟨u,hr,h4⟩=>?_);subst hr;refine du hp (thn h4 λ_ s5 ⟨x,H5,I5,r5,y5,st5,fr5⟩=>?_);have I5':=I5.pinned (stat fr5) (T.obj _ _ st5);refine du hp (thn (hg _ s5 σ3 H5 x u _ I5' r5 (step x H5 y5)) λ_ s6 ⟨σ6,H6,I6,q6⟩=>?_);refine du hp (thn (hb _ s6 σ6 H6 _ I6 q6) λf s7 q7=>?_);have jC:∀{σ7:St}{H7:Hp},Inv X (pins++qx fp s5.heap) σ7 H7 s7->N σ7 H7->∃m,m<n/\∃i σ' H',Inv X pins σ' H' s7/\tn i s7.heap/\(∀b∈fp,H' b=a5)/\W i m σ' H':=λ{σ7 H7} I7 n7=>by obtain⟨m',hm,w7⟩:=hN σ7 H7 n7;refine⟨m',hm,i+1,σ7,H7,I7.unpinned,T.keep _ _ _ st5 λb hb o e=>(I7.pin (b,o) (Xd _ (Xd _ (Qg hb e)))).1,λb hb=>?_,w7⟩;obtain⟨o,e,d⟩:=T.obj _ _ st5 b hb;exact(I7.pin (b,o) (Xd _ (Xd _ (Qg hb e)))).2.1
  cases f with
  |next=>obtain⟨σ7,H7,I7,n7⟩:=q7;exact jC I7 n7
  |cont=>obtain⟨σ7,H7,I7,n7⟩:=q7;exact jC I7 n7
  |brk=>obtain⟨σ7,H7,I7,q7⟩:=q7;exact⟨σ7,H7,I7.unpinned,q7⟩
  |ret v=>obtain⟨x7,σ7,H7,H8,I7,r7,x8,q7⟩:=q7;exact⟨x7,σ7,H7,H8,I7.unpinned,r7,x8,q7⟩
end
abbrev R2:=V->V->Hp->VK->Prop
def OpR(X:Cx)(f:a8->a8->kY a8)(r:R2):Prop :=
 ∀(pins:k90) (s:ae) (σ:St) (H:Hp) (x y:V) (v u:a8) (Q:VK),Inv X pins σ H s->RelV x v->RelV y u->r x y H Q ->
  ar (aw X.prog X.w) X.A (f v u) (EP X pins σ Q) X.xe s
def UnR(X:Cx)(f:a8->kY a8)(r:V->Hp->VK->Prop):Prop :=
 ∀(pins:k90) (s:ae) (σ:St) (H:Hp) (x:V) (v:a8) (Q:VK),Inv X pins σ H s->RelV x v->r x H Q ->
  ar (aw X.prog X.w) X.A (f v) (EP X pins σ Q) X.xe s
def Jt(X:Cx)(f:a8)(r:List V->Hp->VK->Prop):Prop :=
 ∀(pins:k90) (s:ae) (σ:St) (H:Hp) (xs:List V) (us:List a8) (Q:VK),Inv X pins σ H s->Vals xs us->r xs H Q ->
  ar (aw X.prog X.w) X.A (call f us) (EP X pins σ Q) X.xe s
def tOp(r:R2)(ta tb:TE):TE:=λσ H Q=>ta σ H λx H1=>tb σ H1 λy H2=>r x y H2 Q
def tUn(r:V->Hp->VK->Prop)(ta:TE):TE:=λσ H Q=>ta σ H λx H1=>r x H1 Q
def rI(C:Int->Int->Prop)(g:Int->Int->V):R2:=λx y H Q=>∃i j,x=.int i/\y=.int j/\C i j/\Q (g i j) H
def rI0(g:Int->Int->V):R2:=λx y H Q=>∃i j,x=.int i/\y=.int j/\Q (g i j) H
def rU(g:Int->V):V->Hp->VK->Prop:=λx H Q=>∃i,x=.int i/\Q (g i) H
section
variable{X:Cx}{a b c:ai}{ta tb tc:TE}{pos:aJ}
theorem j9y(ha:PE X a ta)(hb:PE X b tb){pins:k90}{s:ae}{σ:St}{H:Hp}{R:V->V->Hp->Prop}(I:Inv X pins σ H s)
  (h:ta σ H λx H1=>tb σ H1 λy H2=>R x y H2) {Q:k8z} {f:a8->a8->kY a8}
  (hf:∀v u s2 x y H2,Inv X pins σ H2 s2->RelV x v->RelV y u->R x y H2->ar (aw X.prog X.w) X.A (f v u) Q X.xe s2) :
  ar (aw X.prog X.w) X.A (ay a X.env) (λv s₁=>ar (aw X.prog X.w) X.A (ay b X.env) (λu s₂=>ar (aw X.prog X.w) X.A (f v u) Q X.xe s₂) X.xe s₁) X.xe s:=by
 refine thn (ha pins s σ H _ I h) λv s1 ⟨x,H1,I1,r1,q1⟩=>?_;refine thn (hb pins s1 σ H1 _ I1 q1) λu s2 ⟨y,H2,I2,r2,q2⟩=>?_;exact hf v u s2 x y H2 I2 r1 r2 q2
theorem Ui{op:kB}{r:R2}(ho:OpR X (bc op) r)(ha:PE X a ta)(hb:PE X b tb):PE X (.BinOp a op b pos) (tOp r ta tb):=by intro pins s σ H Q I h;exact wpAny_BinOp (j9y ha hb I h λv u s2 x y H2 I2 rx ry q=>ho pins s2 σ H2 x y v u Q I2 rx ry q)
theorem jj9{op:UnaryOp}{r:V->Hp->VK->Prop}(ho:UnR X (unaryOp op) r)(ha:PE X a ta):PE X (.UnaryOp op a pos) (tUn r ta):=by intro pins s σ H Q I h;exact UnaryOp_ (thn (ha pins s σ H _ I h) λv s1 ⟨x,H1,I1,r1,q1⟩=>ho pins s1 σ H1 x v Q I1 r1 q1)
theorem opI{f:a8->a8->kY a8}{C:Int->Int->Prop}{g:Int->Int->Int}
  (lR:∀(i j:Int)(t u:iq)(s:ae)(Q:k8z)(E:k8z),C i j->Q (.int (g i j) s.toks) { s with toks:=s.toks+1 }->ar (aw X.prog X.w) X.A (f (.int i t) (.int j u)) Q E s) :
  OpR X f (rI C λi j=>.int (g i j)):=by
 intro pins s σ H x y v u Q I rx ry h;obtain⟨i,j,rfl,rfl,hc,q⟩:=h;obtain⟨t,rfl⟩:=rx;obtain⟨t',rfl⟩:=ry;exact lR i j t t' s _ _ hc ⟨.int (g i j),H,I.tok _,⟨_,rfl⟩,q⟩
theorem j3m{f:a8->a8->kY a8}{g:Int->Int->Int}
  (lR:∀(i j:Int)(t u:iq)(s:ae)(Q:k8z)(E:k8z),Q (.int (g i j) s.toks) { s with toks:=s.toks+1 }->ar (aw X.prog X.w) X.A (f (.int i t) (.int j u)) Q E s) :
  OpR X f (rI0 λi j=>.int (g i j)):=by
 intro pins s σ H x y v u Q I rx ry h;obtain⟨i,j,rfl,rfl,q⟩:=h;obtain⟨t,rfl⟩:=rx;obtain⟨t',rfl⟩:=ry;exact lR i j t t' s _ _ ⟨.int (g i j),H,I.tok _,⟨_,rfl⟩,q⟩
theorem j3n{f:a8->a8->kY a8}{g:Int->Int->Bool}
  (lR:∀(i j:Int)(t u:iq)(s:ae)(Q:k8z)(E:k8z),Q (.bool (g i j)) s->ar (aw X.prog X.w) X.A (f (.int i t) (.int j u)) Q E s) :
  OpR X f (rI0 λi j=>.bl (g i j)):=by
 intro pins s σ H x y v u Q I rx ry h;obtain⟨i,j,rfl,rfl,q⟩:=h;obtain⟨t,rfl⟩:=rx;obtain⟨t',rfl⟩:=ry;exact lR i j t t' s _ _ ⟨.bl (g i j),H,I,rfl,q⟩
def j4n(i j:Int):Prop:=0<=j/\j<=1000000/\i.natAbs<2^64
def j4o(i j:Int):Prop:=(-(2^64)<i/\i<2^64)\/(-(2^64)<j/\j<2^64)
theorem j4o.ok{i j:Int}(h:j4o i j):IntMulOk i j:=by
 rcases h with ⟨h1,h2⟩|⟨h1,h2⟩
 .exact .of_left (mV h1 h2)
 .exact .of_right (mV h1 h2)
theorem j32(k:Nat):(0:Int)<=2^k:=by rw[two_pow_cast];exact jZ _
theorem jfu:OpR X (bc .Add) (rI0 λi j=>.int (i+j)):=j3m λ_ _ _ _ _ _ _ q=>add_int q
theorem jfm:OpR X (bc .Sub) (rI0 λi j=>.int (i-j)):=j3m λ_ _ _ _ _ _ _ q=>sub_int q
theorem jfr:OpR X (bc .Mult) (rI j4o λi j=>.int (i*j)):=opI λ_ _ _ _ _ _ _ hc q=>mul_int q hc.ok
theorem jfs:OpR X (bc .Mod) (rI (λ_ j=>0<j) λi j=>.int (i%j)):=opI λi j _ _ _ _ _ hc q=>by have h1:(0:Int)<j:=hc;exact mod_int' nofun (by rw[Int.fmod_eq_emod_of_nonneg i nofun];exact q)
theorem jfq:OpR X (bc .Pow) (rI j4n λi j=>.int (i^j.toNat)):=opI λ_ _ _ _ _ _ _ hc q=>pow_int_small hc.1 hc.2.1 hc.2.2 q
theorem jfo:OpR X (bc .LShift) (rI j4n λi j=>.int (i*2^j.toNat)):=opI λ_ _ _ _ _ _ _ hc q=>lshift_int_small hc.1 hc.2.1 hc.2.2 q
theorem jfn:OpR X (bc .RShift) (rI (λ_ j=>0<=j) λi j=>.int (i/2^j.toNat)):=opI λi j _ _ _ _ _ hc q =>rshift_int hc (by rw[hV i (j32 _)];exact q)
theorem jft:OpR X (bc .BitAnd) (rI0 λi j=>.int (Builtin.bitAnd i j)):=j3m λ_ _ _ _ _ _ _ q=>and_int q
theorem jfl:OpR X (bc .BitXor) (rI0 λi j=>.int (Builtin.bitXor i j)):=j3m λ_ _ _ _ _ _ _ q=>xor_int q
theorem unI{f:a8->kY a8}{g:Int->Int}
  (lR:∀(i:Int)(t:iq)(s:ae)(Q:k8z)(E:k8z),Q (.int (g i) s.toks) { s with toks:=s.toks+1 }->ar (aw X.prog X.w) X.A (f (.int i t)) Q E s) :
  UnR X f (rU λi=>.int (g i)):=by
 intro pins s σ H x v Q I rx h;obtain⟨i,rfl,q⟩:=h;obtain⟨t,rfl⟩:=rx;exact lR i t s _ _ ⟨.int (g i),H,I.tok _,⟨_,rfl⟩,q⟩
theorem je7:UnR X (unaryOp .USub) (rU λi=>.int (-i)):=unI λ_ _ _ _ _ q=>neg_int q
end
noncomputable def Dm:V->V->Bool
 |.non,.non=>a7|.non,.int _=>a7|.int _,.non=>a7|.non,.bl _=>a7|.bl _,.non=>a7|.non,.str _=>a7|.str _,.non=>a7
 |.int _,.int _=>a7|.bl _,.bl _=>a7|.str _,.str _=>a7|.byt _,.byt _=>a7
 |.int _,.str _=>a7|.str _,.int _=>a7|.bl _,.str _=>a7|.str _,.bl _=>a7
 |_,_=>a4
def rEq:R2:=λx y H Q=>Dm x y=a7/\Q (.bl (decide (x=y))) H
def rNe:R2:=λx y H Q=>Dm x y=a7/\Q (.bl (!decide (x=y))) H
theorem j2o{i j:Int}:decide (V.int i=V.int j)=(i==j):=by rw[eD];simp
theorem j6q{i j:Bool}:decide (V.bl i=V.bl j)=(i==j):=by rw[eD];simp
theorem j2n{i j:af}:decide (V.str i=V.str j)=(i==j):=by rw[eD];simp
theorem j2p{i j:Array UInt8}:decide (V.byt i=V.byt j)=(i.toList==j.toList):=by rw[eD];cases i;cases j;simp
section
variable{X:Cx}{a b c:ai}{ta tb tc:TE}{pos:aJ}
theorem jt{pins:k90}{σ:St}{H:Hp}{s:ae}{Q:VK}{k k':Bool}(I:Inv X pins σ H s)(q:Q (.bl k) H)(e:k=k'):EP X pins σ Q (.bool k') s:=by subst e;exact⟨.bl k,H,I,rfl,q⟩
theorem jan:OpR X (aW .Eq) rEq:=by
 intro pins s σ H x y v u Q I rx ry h;obtain⟨hs,q⟩:=h;cases x with
 |non =>
  cases rx;cases y with
  |non=>cases ry;exact mf (jt I q (by simp))
  |bl j=>cases ry;exact mi (jt I q (by simp))
  |int j=>obtain⟨t',rfl⟩:=ry;exact mh (jt I q (by simp))
  |str j=>obtain⟨t',rfl⟩:=ry;exact md (jt I q (by simp))
  |_=>exact absurd (show a4=a7 from hs) xf
 |bl i =>
  cases rx;cases y with
  |non=>cases ry;exact mm (jt I q (by simp))
  |bl j=>cases ry;exact eq_bool (jt I q j6q)
  |str j=>obtain⟨t',rfl⟩:=ry;exact lM (jt I q (by simp))
  |_=>exact absurd (show a4=a7 from hs) xf
 |int i =>
  obtain⟨t,rfl⟩:=rx;cases y with
  |non=>cases ry;exact mj (jt I q (by simp))
  |int j=>obtain⟨t',rfl⟩:=ry;exact eq_int (jt I q j2o)
  |str j=>obtain⟨t',rfl⟩:=ry;exact lL (jt I q (by simp))
  |_=>exact absurd (show a4=a7 from hs) xf
 |str i =>
  obtain⟨t,rfl⟩:=rx;cases y with
  |non=>cases ry;exact ma (jt I q (by simp))
  |bl j=>cases ry;exact lK (jt I q (by simp))
  |int j=>obtain⟨t',rfl⟩:=ry;exact lJ (jt I q (by simp))
  |str j=>obtain⟨t',rfl⟩:=ry;exact eq_str (jt I q j2n)
  |_=>exact absurd (show a4=a7 from hs) xf
 |byt i =>
  obtain⟨t,rfl⟩:=rx;cases y with
  |byt j=>obtain⟨t',rfl⟩:=ry;exact W.eq_bytes (jt I q j2p)
  |_=>exact absurd (show a4=a7 from hs) xf
 |_=>cases y<;>exact absurd (show a4=a7 from hs) xf
theorem jai:OpR X (aW .NotEq) rNe:=by
 intro pins s σ H x y v u Q I rx ry h;obtain⟨hs,q⟩:=h;cases x with
 |non =>
  cases rx;cases y with
  |non=>cases ry;exact lZ (jt I q (by simp))
  |bl j=>cases ry;exact m7 (jt I q (by simp))
  |int j=>obtain⟨t',rfl⟩:=ry;exact m6 (jt I q (by simp))
  |str j=>obtain⟨t',rfl⟩:=ry;exact lY (jt I q (by simp))
  |_=>exact absurd (show a4=a7 from hs) xf
 |bl i =>
  cases rx;cases y with
  |non=>cases ry;exact m9 (jt I q (by simp))
  |bl j=>cases ry;exact ne_bool (jt I q (congrArg not j6q))
  |str j=>obtain⟨t',rfl⟩:=ry;exact lI (jt I q (by simp))
  |_=>exact absurd (show a4=a7 from hs) xf
 |int i =>
  obtain⟨t,rfl⟩:=rx;cases y with
  |non=>cases ry;exact m8 (jt I q (by simp))
  |int j=>obtain⟨t',rfl⟩:=ry;exact ne_int (jt I q (congrArg not j2o))
  |str j=>obtain⟨t',rfl⟩:=ry;exact lH (jt I q (by simp))
  |_=>exact absurd (show a4=a7 from hs) xf
 |str i =>
  obtain⟨t,rfl⟩:=rx;cases y with
  |non=>cases ry;exact lX (jt I q (by simp))
  |bl j=>cases ry;exact lG (jt I q (by simp))
  |int j=>obtain⟨t',rfl⟩:=ry;exact lF (jt I q (by simp))
  |str j=>obtain⟨t',rfl⟩:=ry;exact ne_str (jt I q (congrArg not j2n))
  |_=>exact absurd (show a4=a7 from hs) xf
 |byt i =>
  obtain⟨t,rfl⟩:=rx;cases y with
  |byt j=>obtain⟨t',rfl⟩:=ry;exact W.ne_bytes (jt I q (congrArg not j2p))
  |_=>exact absurd (show a4=a7 from hs) xf
 |_=>cases y<;>exact absurd (show a4=a7 from hs) xf
theorem jaj:OpR X (aW .Lt) (rI0 λi j=>.bl (decide (i<j))):=j3n λ_ _ _ _ _ _ _ q=>lt_int q
theorem jak:OpR X (aW .LtE) (rI0 λi j=>.bl (decide (i<=j))):=j3n λ_ _ _ _ _ _ _ q=>le_int q
theorem jal:OpR X (aW .Gt) (rI0 λi j=>.bl (decide (j<i))):=j3n λ_ _ _ _ _ _ _ q=>gt_int q
theorem jam:OpR X (aW .GtE) (rI0 λi j=>.bl (decide (j<=i))):=j3n λ_ _ _ _ _ _ _ q=>ge_int q
theorem Ld:OpR X (aW .Lt) (λx y H Q=>∃i j,x=.str i/\y=.str j/\Q (.bl (decide (i.cps.toList<j.cps.toList))) H):=by intro pins s σ H x y v u Q I rx ry h;obtain⟨i,j,rfl,rfl,q⟩:=h;obtain⟨t,rfl⟩:=rx;obtain⟨t',rfl⟩:=ry;exact lt_str (jt I q rfl)
theorem Le:OpR X (aW .In) (λx y H Q=>∃i j,x=.str i/\y=.str j/\Q (.bl (!(g9 j i 0 j.length 1).isEmpty)) H):=by intro pins s σ H x y v u Q I rx ry h;obtain⟨i,j,rfl,rfl,q⟩:=h;obtain⟨t,rfl⟩:=rx;obtain⟨t',rfl⟩:=ry;exact in_str (jt I q rfl)
theorem j25:OpR X (aW .IsNot) (λx y H Q=>y=.non/\Q (.bl (!decide (x=.non))) H):=by
 intro pins s σ H x y v u Q I rx ry h;obtain⟨rfl,q⟩:=h;cases ry;refine isnot_none_gen (jt I q ?_);cases x<;>first
  |(cases rx;rfl)
  |(obtain⟨t,rfl⟩:=rx;rfl)
theorem zb(b:ai){op:iG}(h:op≠.In:=by decide)(h2:op≠.NotIn:=by decide):aK op b=a4:=by
 have e1:(op==CmpOp.In)=a4:=by cases op<;>first|rfl|exact absurd rfl h
 have e2:(op==CmpOp.NotIn)=a4:=by cases op<;>first|rfl|exact absurd rfl h2
 cases b<;>simp[aK,e1,e2]
theorem Q3{op:iG}{r:R2}(ho:OpR X (aW op) r)(ha:PE X a ta)(hb:PE X b tb)(hm:aK op b=a4):PE X (.Compare a [op] [b] pos) (tOp r ta tb):=by intro pins s σ H Q I h;exact wpAny_Compare1 (j9y ha hb I h λv u s2 x y H2 I2 rx ry q=>ho pins s2 σ H2 x y v u Q I2 rx ry q) hm
def jin(t:TE):TT:=λσ H Q=>t σ H λx H'=>∃k,x=.bl k/\Q k H'
theorem Q0{op:iG}{r:R2}(ho:OpR X (aW op) r)(ha:PE X a ta)(hb:PE X b tb)(hm:aK op b=a4):PT X (.Compare a [op] [b] pos) (jin (tOp r ta tb)):=by
 intro pins s σ H Q I h;refine ki (thn (ha pins s σ H _ I h) λv s1 ⟨x,H1,I1,r1,q1⟩=>thn (hb pins s1 σ H1 _ I1 q1) λu s2 ⟨y,H2,I2,r2,q2⟩ =>
  thn (ho pins s2 σ H2 x y v u _ I2 r1 r2 q2) λc s3 ⟨z,H3,I3,r3,k,e,q3⟩=>?_) hm
 subst e;cases r3;exact bu ⟨H3,I3,q3⟩
theorem W8:(aq:Nat)<2^63:=by rw[dh];decide
theorem j3l:OpR X (bc .Add) (λx y H Q=>∃i j,x=.str i/\y=.str j/\i.length+j.length<=aq/\Q (.str (i++j)) H):=by intro pins s σ H x y v u Q I rx ry h;obtain⟨i,j,rfl,rfl,hz,q⟩:=h;obtain⟨t,rfl⟩:=rx;obtain⟨t',rfl⟩:=ry;exact add_str (λt' tk=>⟨.str (i++j),H,I.tok _,⟨_,rfl⟩,q⟩) hz
theorem vals1{x:V}{us:List a8}(r:Vals [x] us):∃u,us=[u]/\RelV x u:=by
 cases r with
 |cons r1 r2=>cases r2;exact⟨_,rfl,r1⟩
theorem vals2{x y:V}{us:List a8}(r:Vals [x,y] us):∃u w',us=[u,w']/\RelV x u/\RelV y w':=by
 cases r with
 |cons r1 r2 =>
  cases r2 with
  |cons r3 r4=>cases r4;exact⟨_,_,rfl,r1,r3⟩
theorem j7b (hc:X.calm=a7):Jt X (.builtin "max") (λxs H Q=>∃i j,xs=[.int i,.int j]/\Q (.int (if j>i then j else i)) H):=by
 intro pins s σ H xs us Q I r h;obtain⟨i,j,rfl,q⟩:=h;obtain⟨u,w',rfl,⟨t,rfl⟩,⟨t',rfl⟩⟩:=vals2 r;refine max_two_ints (I.ok.hd hc) λh' tk k=>⟨_,H,I.kept k,?_,q⟩
 by_cases hj:j>i
 .rw[if_pos hj,if_pos hj];exact⟨_,rfl⟩
 .rw[if_neg hj,if_neg hj];exact⟨_,rfl⟩
theorem j79 (hc:X.calm=a7):Jt X (.builtin "min") (λxs H Q=>∃i j,xs=[.int i,.int j]/\Q (.int (if j<i then j else i)) H):=by
 intro pins s σ H xs us Q I r h;obtain⟨i,j,rfl,q⟩:=h;obtain⟨u,w',rfl,⟨t,rfl⟩,⟨t',rfl⟩⟩:=vals2 r;refine min_two_ints (I.ok.hd hc) λh' tk k=>⟨_,H,I.kept k,?_,q⟩
 by_cases hj:j<i
 .rw[if_pos hj,if_pos hj];exact⟨_,rfl⟩
 .rw[if_neg hj,if_neg hj];exact⟨_,rfl⟩
theorem j7d:Jt X (.type "int") (λxs H Q=>(∃i,xs=[.int i]/\Q (.int i) H)\/∃k,xs=[.bl k]/\Q (.int (if k then 1 else 0)) H):=by
 intro pins s σ H xs us Q I r h;rcases h with ⟨i,rfl,q⟩|⟨k,rfl,q⟩
 .obtain⟨u,rfl,t,rfl⟩:=vals1 r;exact call_int_int ⟨.int i,H,I,⟨_,rfl⟩,q⟩
 .obtain⟨u,rfl,r1⟩:=vals1 r;cases r1;exact call_int_bool ⟨.int (if k then 1 else 0),H,I.tok _,⟨_,rfl⟩,q⟩
end
structure ObjM(h:aD)(x dx C:aa)(mA:k91):Prop where
 obj:h.get? x=a3 (W.instObj C dx)
 ns:h.Ns1 dx mA
 ne:dx≠x
section
variable{prog:au}{w:aA}{A:aB}{E:k8z}{s:ae}{K:k8y}{x dx C f:aa}{mA:k91}{name:af}{v:a8}
end
noncomputable def j8c(f:af)(v:V):List (af×V)->List (af×V)
 |[]=>[(f,v)]
 |(g,x)::r=>if g=f then(g,v)::r else(g,x)::j8c f v r
section
variable{P:au}{w:aA}{H H':Hp}{h h':aD}{a C dx:aa}{fs fs':List (af×V)}
end
structure Cls(K:k8y)(C:aa):Prop where
 pg:W.plainGet K C dj=a7
 hd:W.hasDictIn K C=a7
 po:W.plainOver K C=a7
 sa:W.findIn K (.ref C) "__setattr__" = a3 (a3 (.builtin "object.__setattr__"))
def Mq(K:k8y)(C:aa)(f:af):Prop:=W.findIn K (.ref C) f=a3 a5
structure Con(K:k8y)(C:aa)(f:af)(v:V)(u:a8):Prop where
 at_:W.findIn K (.ref C) f=a3 (a3 u)
 rel:RelV v u
 get:W.specialIn K u "__get__" = a3 a5
 cp:W.copiedNames.contains f=a4
structure Meth(K:k8y)(C:aa)(m:af)(f:aa):Prop where
 at_:W.findIn K (.ref C) m=a3 (a3 (.ref f))
 fn:W.isFn K (.ref f)=a7
 kp:W.keepIn K (.ref f)=a7
section
variable{X:Cx}{pins:k90}{σ:St}{H:Hp}{s:ae}{a C dx:aa}{fs:List (af×V)}{f:af}{v:V}{A:aB}{E:k8z}
end
section
variable{X:Cx}{o e value:ai}{f:af}{pos pos' tpos:aJ}{ta tv:TE}
end
section
variable{X:Cx}{pins:k90}{σ:St}{H:Hp}{s:ae}{A:aB}{E:k8z}{Q:k8z}{c:a8}{b:Bool}
inductive TyOf(K:k8y)(H:Hp):V->a8->Prop where
 |non:TyOf K H .non (.type "NoneType")
 |bl (x:Bool):TyOf K H (.bl x) (.type "bool")
 |int (i:Int):TyOf K H (.int i) (.type "int")
 |str (x:af):TyOf K H (.str x) (.type "str")
 |flt (x:UInt64):TyOf K H (.flt x) (.type "float")
 |lst {a:aa} {xs:List V} (e:H a=a3 (.lst xs)):TyOf K H (.ref a) (.type "list")
 |frz {a:aa} {o:cE} {xs:List V} (e:H a=a3 (.frz o (.lst xs))):TyOf K H (.ref a) (.type "list")
 |tup {a:aa} {xs:List V} (e:H a=a3 (.tup xs)):TyOf K H (.ref a) (.type "tuple")
 |dK {a:aa} {kvs:List (Key×V)} (e:H a=a3 (.dK kvs)):TyOf K H (.ref a) (.type "dict")
 |dT {a:aa} {kvs:List (List Key×V)} (e:H a=a3 (.dT kvs)):TyOf K H (.ref a) (.type "dict")
 |ins {a C dx:aa} {fs:List (af×V)} (e:H a=a3 (.ins C dx fs)) (cl:Cls K C) (ha:W.findIn K (.ref C) "__class__" = a3 (a3 (.builtin "object.__class__")))
   (hn:W.specialIn K (.builtin "object.__class__") "__get__" = a3 (a3 (.builtin "getset_descriptor.__get__"))) (htk:W.takesIn K (.builtin "object.__class__")=a3 a7)
   (hm:W.mroIn K C (.type "object")=a3 a7):TyOf K H (.ref a) (.ref C)
end
structure Room(k:Nat)(A:aB):Prop where
 hd:A.handled=a5
 dp:A.depth+3*k+5<bH
 un:A.units+16*k+200<aM
 gd:A.guards=a3 []
theorem Room.mono{j k:Nat}{A:aB}(r:Room k A)(h:j<=k):Room j A:=⟨r.hd,by have:=r.dp;omega,by have:=r.un;omega,r.gd⟩
theorem Room.deeper{k:Nat}{A:aB}(r:Room (k+1) A)(env:cH):Room k (A.deeper env) :=
 ⟨r.hd,by have:=r.dp;show A.depth+1+3*k+5<_;omega,by have:=r.un;show A.units+3+16*k+200<_;omega,r.gd⟩
theorem Room.depth{k:Nat}{A:aB}(r:Room k A):A.depth<bH:=by have:=r.dp;omega
def jl8:TA:=λ_ H Q=>Q [] H
def jaf(ta:TE)(tr:TA):TA:=λσ H Q=>ta σ H λx H1=>tr σ H1 λxs H2=>Q (x::xs) H2
section
variable{X:Cx}{e:ai}{es:List ai}{te:TE}{t:TA}{pos:aJ}
theorem jr:PA X [] jl8:=λ_ _ _ _ H Q I h=>j2 ⟨[],H,I,.nil,h⟩
theorem jc(ha:PE X e te)(hr:PA X es t)(hs:a9 (e::es) X.env=(a4,ay e X.env)::a9 es X.env:=by rfl):PA X (e::es) (jaf te t):=by intro pos pins s σ H Q I h;rw[hs];show ar _ _ (lz ((a4,ay e X.env)::aO pos (a9 es X.env))) _ _ s;refine iS (thn (ha pins s σ H _ I h) λu s1 ⟨x,H1,I1,r1,q1⟩=>?_);exact thn (hr pos pins s1 σ H1 _ I1 q1) λus s2 ⟨xs,H2,I2,r2,q2⟩=>⟨x::xs,H2,I2,.cons r1 r2,q2⟩
def jl4(t:TA):TE:=λσ H Q=>t σ H λxs H1=>xs.length<=aq/\∀p,H1 p=a5->Q (.ref p) (upd H1 p (.tup xs))
def jl9(t:TA):TE:=λσ H Q=>t σ H λxs H1=>xs.length<=aq/\∀p,H1 p=a5->Q (.ref p) (upd H1 p (.lst xs))
theorem j5r{x1}(h:PA X es t):PE X (.Tuple es x1 pos) (jl4 t):=by intro pins s σ H Q I hq;refine wpAny_Tuple_spliced (thn (h pos pins s σ H _ I hq) λus s1 ⟨xs,H1,I1,r,z,q⟩=>⟨by rw[<-r.length];exact z,?_⟩);have hf:H1 s1.heap.objs.size=a5:=I1.hok.fresh (X3 _);refine⟨.ref s1.heap.objs.size,upd H1 s1.heap.objs.size (.tup xs),I1.laid (t':=s1.toks) (λb u e=>xn _ e) (X3 _) ?_,rfl,q _ hf⟩;exact⟨z,us,r,⟨_,X4 _ rfl,rfl,_,rfl⟩,Vf.new _ _⟩
theorem jfg(h:PA X es t):PE X (.List es pos) (jl9 t):=by intro pins s σ H Q I hq;refine wpAny_List_spliced (thn (h pos pins s σ H _ I hq) λus s1 ⟨xs,H1,I1,r,z,q⟩=>⟨by rw[<-r.length];exact z,?_⟩);have hf:H1 s1.heap.objs.size=a5:=I1.hok.fresh (X3 _);refine⟨.ref s1.heap.objs.size,upd H1 s1.heap.objs.size (.lst xs),I1.laid (t':=s1.toks) (λb u e=>xn _ e) (X3 _) ?_,rfl,q _ hf⟩;exact⟨z,us,0,r,X4 _ rfl⟩
end
abbrev Sp:=List V->Hp->VK->XK->Prop
abbrev CXT:=List cH->Hp->ae->XK->a8->ae->Prop
structure Env0(P:au)(w:aA)(K:k8y)(mg:k91)(base:aD)(A:aB)(outer:List cH)(s:ae)(H:Hp):Prop where
 frames:A.frames=a3 outer
 mod:Mod K mg base
 bs:∀b o,base.get? b=a3 o->s.heap.get? b=a3 o/\H b=a5
 bsz:base.objs.size<=s.heap.objs.size
 funs:s.heap.FunFrames base outer
 frf:∀b∈frs outer,H b=a5
 hok:HOk P w H s.heap
 bare:eA s.gens
def CE(outer:List cH)(P:au)(w:aA)(H:Hp)(s:ae)(Q:VK)(u:a8)(s':ae):Prop :=
 ∃v H',s'.os=s.os/\eA s'.gens/\Un (frs outer) [] H H' s.heap s'.heap/\HOk P w H' s'.heap/\RelV v u/\Q v H'
def CR(CX:CXT)(outer:List cH)(P:au)(w:aA)(H:Hp)(s:ae)(Q:VK)(E:XK)(r:eB)(s':ae):Prop :=
 match r with
 |.ok (.ret u)=>CE outer P w H s Q u s'
 |.ok _=>False
 |.error e=>CX outer H s E e s'
structure FnOk(P:au)(w:aA)(K:k8y)(mg:k91)(base:aD)(CX:CXT)(k:Nat)(f:aa)(fd:aG)(ps:List af)(sp:Sp):Prop where
 len:∀vs H Q E,sp vs H Q E->vs.length=ps.length
 run:∀(A:aB)(outer:List cH)(s:ae)(H:Hp)(args:Args)(us:List a8)(vs:List V) (Q:VK) (E:XK),Room k A->Env0 P w K mg base A outer s H->dD s fd args (ps.zip us)->Vals vs us->sp vs H Q E ->
  bK (aw P w) A (.call (.ref f) args) (CR CX outer P w H s Q E) s
theorem FnOk.imp{P:au}{w:aA}{K:k8y}{mg:k91}{base:aD}{CX:CXT}{k:Nat}{f:aa}{fd:aG}{ps:List af}{sp sp':Sp}(F:FnOk P w K mg base CX k f fd ps sp)
  (h:∀vs H Q E,sp' vs H Q E->sp vs H Q E):FnOk P w K mg base CX k f fd ps sp' :=
 ⟨λvs H Q E q=>F.len vs H Q E (h _ _ _ _ q),λA outer s H args us vs Q E hr he hb hv hs=>F.run A outer s H args us vs Q E hr he hb hv (h _ _ _ _ hs)⟩
section
variable{X:Cx}{pins:k90}{σ:St}{H:Hp}{s s':ae}
theorem Inv.env0(I:Inv X pins σ H s):Env0 X.prog X.w X.K X.mg X.base X.A X.stack s H :=
 ⟨I.ok.frames,I.ok.mod,I.bs,Xi I.ok.bsz I.sz,I.stack,I.stkFree,I.hok,I.bare⟩
theorem Inv.after{Q:VK}{u:a8}(I:Inv X pins σ H s)(h:CE X.stack X.prog X.w H s Q u s'):EP X pins σ Q u s':=by obtain⟨v,H',os,bare,un,hok,r,q⟩:=h;obtain⟨hh,g,d,t,os'⟩:=s';obtain rfl:os'=s.os:=os;exact⟨v,H',I.call (h':=hh) (g':=g) (d':=d) (t':=t) (ch:=[]) un hok bare (λb z=>absurd z (by simp)),r,q⟩
end
def jis(sp:Sp)(dvs:List V)(E:XK)(t:TA):TE:=λσ H Q=>t σ H λvs H1=>sp (vs++dvs) H1 Q E
def Binds(K:k8y)(fd:aG)(ps:List af)(ds:List a8):Prop :=
 ∀(s:ae)(us:List a8),K.In s.heap->(us++ds).length=ps.length->dD s fd ⟨us,[]⟩ (ps.zip (us++ds))
theorem Binds.all{K:k8y}{fd:aG}{ps:List af}(h:∀us:List a8,us.length=ps.length->cD fd ⟨us,[]⟩=pure (ps.zip us)):Binds K fd ps []:=λs us _ hl=>by rw[Xo]at hl ⊢;exact .of_eq (h us hl)
def j0z(CX:CXT)(X:Cx)(E:XK):Prop:=∀(pins:k90) (σ:St) (H:Hp) (s:ae) (e:a8) (s':ae),Inv X pins σ H s->CX X.stack H s E e s'->X.xe e s'
section
variable{X:Cx}{CX:CXT}{k:Nat}{f C:aa}{fd:aG}{ps:List af}{sp:Sp}{dvs:List V}{ds:List a8}{E:XK}{x m:af}{p pos apos:aJ}{e o:ai}{es:List ai}{ta:TE}{t:TA}
theorem jer{pins:k90}{σ:St}{H:Hp}{s:ae}{Q:VK}{us:List a8}{vs:List V}(F:FnOk X.prog X.w X.K X.mg X.base CX k f fd ps sp)(hr:Room k X.A)(hb:Binds X.K fd ps ds)(hd:Vals dvs ds)(hx:j0z CX X E)
  (I:Inv X pins σ H s) (r:Vals vs us) (h:sp (vs++dvs) H Q E):ar (aw X.prog X.w) X.A (call (.ref f) us) (EP X pins σ Q) X.xe s:=by
 have r2:Vals (vs++dvs) (us++ds):=r.append hd;have hl:(us++ds).length=ps.length:=by rw[<-r2.length];exact F.len _ _ _ _ h
 refine gk (bA (F.run X.A X.stack s H ⟨us,[]⟩ (us++ds) (vs++dvs) Q E hr I.env0 (hb s us I.kIn hl) r2 h) λr s' hq=>?_);cases r with
 |error e=>exact hx pins σ H s e s' I hq
 |ok fl =>
  cases fl with
  |ret u=>exact I.after hq
  |next=>exact b8 hq
  |brk=>exact b8 hq
  |cont=>exact b8 hq
theorem Mz(F:FnOk X.prog X.w X.K X.mg X.base CX k f fd ps sp)(hr:Room k X.A)(hg:Gl X x)(hm:X.mg x=a3 (.ref f))(hk:W.keepIn X.K (.ref f)=a7)(hb:Binds X.K fd ps ds)(hd:Vals dvs ds)(hx:j0z CX X E)
  (ha:PA X (e::es) t) (hdb:(x==k92)=a4:=by decide) (he:a9 (e::es) X.env=(a4,ay e X.env)::a9 es X.env:=by rfl) (hpl:(aO pos (a9 es X.env)).any (·.1)=a4:=by rfl) :
  PE X (.Call (.Name x p) (e::es) [] pos) (jis sp dvs E t):=by
 intro pins s σ H Q I h;refine aT (Zy I hg hm ?_ hdb);refine W.callWith_K (h₀:=X.base) I.ok.mod.kin hk (thn (ha pos pins s σ H _ I h) λus s1 ⟨vs,H1,I1,r,q⟩=>⟨I1.kIn,?_⟩) he hpl;exact jer F hr hb hd hx I1 r q
structure Mk(K:k8y)(C f:aa):Prop where
 makes:W.makesIn K C=a7
 init:W.findIn K (.ref C) "__init__" = a3 (a3 (.ref f))
 fn:W.isFn K (.ref f)=a7
 kp:W.keepIn K (.ref C)=a7
end
def PK(X:Cx)(kws:List aZ)(t:TA):Prop :=
 ∀(pos:aJ)(pins:k90) (s:ae) (σ:St) (H:Hp) (Q:List V->Hp->Prop),Inv X pins σ H s->t σ H Q->ar (aw X.prog X.w) X.A (evalAll ((bB pos (aY kws X.env)).map (·.2))) (AP X pins σ Q) X.xe s
section
variable{X:Cx}{CX:CXT}{k:Nat}{f C:aa}{fd:aG}{ps ks:List af}{sp:Sp}{E:XK}{x m:af}{p pos apos kpos:aJ}{e o:ai}{es:List ai}{kws:List aZ}{te ta:TE}{t tk:TA}{nm:Option af}
theorem Vj(ha:PE X e te)(hr:PK X kws t):PK X (⟨nm,e,kpos⟩::kws) (jaf te t):=by intro pos pins s σ H Q I h;show ar _ _ (evalAll ((do let v <-ay e X.env;jP pos;pure v)::(bB pos (aY kws X.env)).map (·.2))) _ _ s;refine wpAny_evalAll_cons (a6 (thn (ha pins s σ H _ I h) λu s1 ⟨x,H1,I1,r1,q1⟩=>a6 (d7 (aj ?_))));exact thn (hr pos pins s1 σ H1 _ I1 q1) λus s2 ⟨xs,H2,I2,r2,q2⟩=>⟨x::xs,H2,I2,.cons r1 r2,q2⟩
structure KBinds(K:k8y)(fd:aG)(ps ks:List af)(g:List a8->List a8->List a8)(gV:List V->List V->List V):Prop where
 to:∀(s:ae)(us ws:List a8),K.In s.heap->(g us ws).length=ps.length->dD s fd ⟨us,ks.zip ws⟩ (ps.zip (g us ws))
 rel:∀{vs:List V}{us:List a8}{zs:List V}{ws:List a8},Vals vs us->Vals zs ws->Vals (gV vs zs) (g us ws)
variable{g:List a8->List a8->List a8}{gV:List V->List V->List V}
end
structure FnScope(N P:List af)(sc:b9):Prop where
 kind:sc.kind=.function
 co:sc.isCoroutine=a4
 gen:sc.isGenerator=a4
 nd:N.Nodup
 pre:N.take P.length=P
 par:∀x∈P,sc.names.lookup x=a3 .local\/sc.names.lookup x=a3 .cell
 nofree:∀y∈sc.names,y.2≠.free
theorem K7{kindOf:af->Option br}{x:af}:∀{binds:List (af×a8)} {m:k91},(∀v,(x,v)∉binds)->jA kindOf binds m x=m x
 |[],_,_=>rfl
 |(n,v)::r,m,h=>by
  unfold jA;rw[K7 λw hw=>h w (kj _ hw)];split
  .have:x≠n:=by rintro rfl;exact h v xr
   simp[this]
  .rfl
theorem K9{kindOf:af->Option br}{x:af}:∀{binds:List (af×a8)} {m:k91},(∀v,(x,v)∉binds)->jB kindOf binds m x=m x
 |[],_,_=>rfl
 |(n,v)::r,m,h=>by
  unfold jB;rw[K9 λw hw=>h w (kj _ hw)];split
  .rfl
  .have:x≠n:=by rintro rfl;exact h v xr
   simp[this]
theorem K8{kindOf:af->Option br}{x:af}{v:a8}:∀{P:List af}{vs:List a8}{i:Nat}{m:k91},P.Nodup->P[i]?=a3 x->vs[i]?=a3 v->kindOf x=a3 .local ->
  jA kindOf (P.zip vs) m x=a3 v
 |[],_,_,_,_,h,_,_=>by simp at h
 |_::_,[],_,_,_,_,h,_=>by simp at h
 |p::P,w::vs,0,m,nd,h1,h2,hk=>by simp at h1 h2;subst h1;subst h2;show jA kindOf ((p,w)::P.zip vs) m p=_;unfold jA;rw[K7 λv hv=>(Xk.mp nd).1 (cV hv).1,if_pos hk];simp
 |p::P,w::vs,i+1,m,nd,h1,h2,hk=>by show jA kindOf ((p,w)::P.zip vs) m x=_;unfold jA;exact K8 (i:=i) (Xk.mp nd).2 (by simpa using h1) (by simpa using h2) hk
theorem Ka{kindOf:af->Option br}{x:af}{v:a8}:∀{P:List af}{vs:List a8}{i:Nat}{m:k91},P.Nodup->P[i]?=a3 x->vs[i]?=a3 v->kindOf x≠a3 .local ->
  jB kindOf (P.zip vs) m x=a3 v
 |[],_,_,_,_,h,_,_=>by simp at h
 |_::_,[],_,_,_,_,h,_=>by simp at h
 |p::P,w::vs,0,m,nd,h1,h2,hk=>by simp at h1 h2;subst h1;subst h2;show jB kindOf ((p,w)::P.zip vs) m p=_;unfold jB;rw[K9 λv hv=>(Xk.mp nd).1 (cV hv).1,if_neg hk];simp
 |p::P,w::vs,i+1,m,nd,h1,h2,hk=>by show jB kindOf ((p,w)::P.zip vs) m x=_;unfold jB;exact Ka (i:=i) (Xk.mp nd).2 (by simpa using h1) (by simpa using h2) hk
noncomputable def start(N:List af)(vs:List V):St:=vs.map a3++ah (N.length-vs.length) a5
noncomputable def qi(CX:CXT)(P:au)(w:aA)(K:k8y)(mg:k91)(base:aD)(N:List af)(qual:af)(scope:b9)(f:aa)(cd:a8)(A:aB)(outer:List cH)(s:ae)(H:Hp)(E:XK):Cx where
 prog:=P
 w:=w
 K:=K
 mg:=mg
 base:=base
 A:=A.deeper (bp qual scope s.heap.objs.size f cd)
 N:=N
 s₀:=s
 H₀:=H
 env:=bp qual scope s.heap.objs.size f cd
 outer:=outer
 stack:=bp qual scope s.heap.objs.size f cd::outer
 ex:=[]
 calm:=a7
 fn:=λ_=>a7
 pn:=[]
 xe:=λe s'=>ar (aw P w) (A.deeper (bp qual scope s.heap.objs.size f cd)) (leaving (bp qual scope s.heap.objs.size f cd) e) (λ_ s''=>CX outer H s E e s'') (λe' s''=>CX outer H s E e' s'') s'
theorem j0t{sc:b9}{n:Nat}{x:af}(h:sc.names.lookup x=a3 .cell):∃c,(aQ n sc.names []).lookup x=a3 c:=by have q:=W.cellsFrom_some sc.names n [] (.inl h);exact Xn.mp q
theorem Lq{CX:CXT}{P:au}{w:aA}{K:k8y}{mg:k91}{base:aD}{N ps:List af}{qual:af}{scope:b9}{f:aa}{cd:a8}{A:aB}{outer:List cH}{s s1:ae}{H:Hp}{E:XK}{us:List a8}{vs:List V}
  (S:FnScope N ps scope) (cm:Bool) (hd:cm=a7->A.handled=a5) (e0:Env0 P w K mg base A outer s H) (hl:vs.length=ps.length) (r:Vals vs us)
  (x:InCallC s s.heap.objs.size (jA (bp qual scope s.heap.objs.size f cd).kindOf (ps.zip us) λ_=>a5) (aQ (s.heap.objs.size+1) scope.names []) (jB (bp qual scope s.heap.objs.size f cd).kindOf (ps.zip us) λ_=>a5) s1) :
  Inv { qi CX P w K mg base N qual scope f cd A outer s H E with calm:=cm } [] (start N vs) H s1:=by
 have hpl:ps.length<=N.length:=by have:=congrArg cT S.pre;rw[Xl]at this;omega
 obtain⟨h1,tk,rfl,hk⟩:=x.done;have noA:∀b:aa,b∉(qi CX P w K mg base N qual scope f cd A outer s H E).ex:=λb z=>absurd (show b∈([]:List aa)from z) (by simp);refine⟨⟨e0.mod,S.kind,rfl,rfl,X3 _,λy z c h1 h2=>?_,λy hy=>?_,λy c _ h=>?_,hd,Around.frames_deeper e0.frames,.inr ⟨rfl,rfl⟩,λb z=>absurd z (noA b),e0.bs,e0.bsz,λb _ _=>noA b,λb z=>absurd z (noA b),e0.funs,e0.frf⟩,
  rfl,e0.bare,Un.kept hk,⟨_,x.toInCall.ns,λi y v h1 h2 h3=>?_⟩,λy c h=>⟨_,x.cell y c h⟩,e0.hok.fresh (X3 _),λy c h=>?_,λp hp=>absurd (show p∈([]:k90)from hp) (by simp),e0.hok.kept hk,?_⟩
 .exact name_of_addr x.apart (Pb h1) (Pb h2)
 .have hy:scope.names.lookup y=a3 .cell\/scope.names.lookup y=a3 .free:=hy;rcases hy with hy|hy
  .exact j0t hy
  .exact absurd rfl (S.nofree _ (Pb hy))
 .exact di (x.above y c (Pb h))
 .have hi:i<vs.length:=by
   unfold start at h2;by_cases hi:i<vs.length
   .exact hi
   .rw[bR (by simpa using hi)]at h2;rw[List.getElem?_replicate]at h2;split at h2<;>cases h2
  have ha:vs[i]?=a3 v:=by
   unfold start at h2;rw[Pa (by simpa using hi),X7]at h2;cases e:vs[i]? with
   |none=>rw[e]at h2;cases h2
   |some a=>rw[e]at h2;cases h2;rfl
  obtain⟨u,hu,rv⟩:=r.get ha;have hp:ps[i]?=a3 y:=by rw[<-S.pre,List.getElem?_take_of_lt nofun];exact h1
  have ndP:ps.Nodup:=by rw[<-S.pre];exact S.nd.sublist (List.take_sublist _ _)
  refine⟨u,rv,?_⟩;rcases S.par y (Xm hp)with k|k
  .exact .inl ⟨k,K8 ndP hp hu k⟩
  .obtain⟨c,e⟩:=j0t (n:=s.heap.objs.size+1) k;refine .inr ⟨.inl k,c,e,?_⟩;have q:=x.cell y c e;rw[Ka ndP hp hu (by show scope.names.lookup y≠_;rw[k];decide)]at q;exact q
 .exact e0.hok.fresh (di (x.above y c (Pb h)))
 .unfold start;show _=N.length;rw[X6,xj,Py];omega
theorem Inv.extOut{X:Cx}{pins:k90}{σ:St}{H H2:Hp}{s:ae}(J:Inv X pins σ H s)(x:Ext X H H2 s):HOk X.prog X.w H2 s.heap/\(X.ex=[]->Un X.fs [] X.H₀ H2 X.s₀.heap s.heap):=by
 have old:∀b o,X.s₀.heap.get? b=a3 o->H2 b=H b:=λb o e=>(x b).elim id λ⟨y,ob,v,hc,hf,_⟩=>absurd (Xb (xq e) (J.ok.cab y b hf hc)) (Xx _);have trk:∀{b:aa}{u:HO},H b=a3 u->H2 b=a3 u:=λ{b u} e=>(x b).elim (λz=>z.trans e) λ⟨y,ob,v,hc,_⟩=>by rw[J.freeC y b hc]at e;cases e
 refine⟨λa o e=>?_,λhx=>?_⟩
 .rcases x a with z|⟨y,ob,v,_,_,e2,e3,_⟩
  .exact(J.hok a o (z▸e)).stay (λ_ _ _ q=>q) (λ_ q=>trk q) (λ_ _ q=>trk q) λ_ _ _ q=>trk q
  .rw[e2]at e;cases e;exact⟨e3,ob,e3⟩
 .have nx:∀b,b∉X.ex:=λb=>by rw[hx];simp
  exact⟨λb o e n hb _=>J.base.keep b o e n hb (nx b),λb o e n hb _=>J.base.slot b o e n hb (nx b),λb o e n _=>(old b o e).trans (J.base.free b o e n (nx b)),λb o e _=>J.base.there b o e (nx b),
   λb xs e=>trk (J.base.tups b xs e),λb o u e=>trk (J.base.frzs b o u e),λb ps e=>let ⟨m,z⟩:=J.base.tbls b ps e;⟨m,trk z⟩⟩
theorem j40{CX:CXT}{P:au}{w:aA}{K:k8y}{mg:k91}{base:aD}{k:Nat}{f:aa}{name qual:af}{params:dG}{body:List aP}{scope:b9}{dV kV doc pm cdv ct oc:a8}{an od:Option aa}
  {osl:Array (Option a8)} {N ps:List af} {sp:Sp} (lk:K.lookup f=a3 ⟨oc,od,.func (W.fnOf name qual params body scope dV kV doc pm an cdv ct),osl⟩) (hcd:W.codeIn K cdv qual=a7) (S:FnScope N ps scope)
  (len:∀vs H Q E,sp vs H Q E->vs.length=ps.length)
  (hbody:∀(A:aB)(outer:List cH)(s:ae)(H:Hp)(vs:List V)(Q:VK)(E:XK),Room k (A.deeper (bp qual scope s.heap.objs.size f cdv))->sp vs H Q E ->
   ∃t,PSs (qi CX P w K mg base N qual scope f cdv A outer s H E) body t/\t { nx:=λ_ H'=>Q .non H',rt:=Q } (start N vs) H) :
  FnOk P w K mg base CX (k+1) f (W.fnOf name qual params body scope dV kV doc pm an cdv ct) ps sp:=by
 refine⟨len,λA outer s H args us vs Q E hr e0 hb r hsp=>?_⟩;have hl:=len _ _ _ _ hsp;have KX:K.In s.heap:=e0.mod.kin.keeps λb o e=>(e0.bs b o e).1;have lim:s.heap.NoLimit:=e0.mod.nolimit.keeps λb o e=>(e0.bs b o e).1;have hkind:∀y∈ps.zip us,scope.names.lookup y.1=a3 .local\/(scope.names.lookup y.1=a3 .cell/\((aQ (s.heap.objs.size+1) scope.names []).lookup y.1).isSome=a7):=λ⟨n,v⟩ hy=>by
  rcases S.par n (cV hy).1 with q|q
  .exact .inl q
  .exact .inr ⟨q,W.cellsFrom_some _ _ _ (.inl q)⟩
 refine kn hr.depth (KX _ _ lk) rfl S.co S.gen rfl (W.codeRec_of KX hcd) (hb _ _ _ _ ?_);refine iE S.kind hkind λenv he s1 x=>?_;subst he;refine⟨lim.keeps x.toInCall.keep,codeAny_func ?_⟩;obtain⟨t,ht,hq⟩:=hbody A outer s H vs Q E (hr.deeper _) hsp;have I:Inv (qi CX P w K mg base N qual scope f cdv A outer s H E) [] (start N vs) H s1:=Lq S a7 (λ_=>hr.hd) e0 hl r x;refine aI (ht [] s1 (start N vs) H _ I hq) (λfl s' hs=>?_) λe s' hs=>hs;have fin:∀{σ':St}{H':Hp}{v:V}{u:a8},Inv (qi CX P w K mg base N qual scope f cdv A outer s H E) [] σ' H' s'->RelV v u->Q v H'->CE outer P w H s Q u s' :=
  λ{σ' H' v u} J rv q=>⟨v,H',J.os,J.bare,J.base,J.hok,rv,q⟩
 cases fl with
 |ret u =>obtain⟨v,σ',H',H2,J,rv,x,q⟩:=hs;exact⟨v,H2,J.os,J.bare,(J.extOut x).2 rfl,(J.extOut x).1,rv,q⟩
 |next =>obtain⟨σ',H',J,q⟩:=hs;exact fin (v:=V.non) (u:=aU) J rfl q
 |brk =>obtain⟨_,_,_,q⟩:=hs;exact b8 q
 |cont =>obtain⟨_,_,_,q⟩:=hs;exact b8 q
section
variable{X:Cx}{x:af}{p pos:aJ}{e:ai}{es:List ai}{t:TA}{id T:String}{r:List V->Hp->VK->Prop}
def tCB(r:List V->Hp->VK->Prop)(t:TA):TE:=λσ H Q=>t σ H λvs H1=>r vs H1 Q
theorem v8 (hc:Jt X (.builtin id) r) (hg:Gl X x) (hm:X.mg x=a5) (hv:cR x=a3 (.builtin id)) (ha:PA X (e::es) t) (hn:x ≠ "__name__":=by decide) (hdb:(x==k92)=a4:=by decide)
  (he:a9 (e::es) X.env=(a4,ay e X.env)::a9 es X.env:=by rfl) (hpl:(aO pos (a9 es X.env)).any (·.1)=a4:=by rfl):PE X (.Call (.Name x p) (e::es) [] pos) (tCB r t):=by
 intro pins s σ H Q I h;refine aT (V5 I hg hm hv ?_ hn hdb);exact callWith_builtin1 (thn (ha pos pins s σ H _ I h) λus s1 ⟨vs,H1,I1,r1,q1⟩=>hc pins s1 σ H1 vs us Q I1 r1 q1) he hpl
theorem Uj (hc:Jt X (.type T) r) (hg:Gl X x) (hm:X.mg x=a5) (hv:cR x=a3 (.type T)) (ha:PA X (e::es) t) (hn:x ≠ "__name__":=by decide) (hdb:(x==k92)=a4:=by decide)
  (he:a9 (e::es) X.env=(a4,ay e X.env)::a9 es X.env:=by rfl) (hpl:(aO pos (a9 es X.env)).any (·.1)=a4:=by rfl):PE X (.Call (.Name x p) (e::es) [] pos) (tCB r t):=by
 intro pins s σ H Q I h;refine aT (V5 I hg hm hv ?_ hn hdb);exact callWith_type1 (thn (ha pos pins s σ H _ I h) λus s1 ⟨vs,H1,I1,r1,q1⟩=>hc pins s1 σ H1 vs us Q I1 r1 q1) he hpl
end
end L2
namespace HT
open PySem PyProof.Rows
noncomputable def lexLt:List Int->List Int->Bool
 |[],[]=>a4
 |[],_::_=>a7
 |_::_,[]=>a4
 |x::xs,y::ys=>if x=y then lexLt xs ys else decide (x<y)
theorem lexLt_cons(x y:Int)(xs ys:List Int):lexLt (x::xs) (y::ys)=if x=y then lexLt xs ys else decide (x<y):=rfl
theorem Ko:lexLt [] []=a4:=rfl
theorem Ds(y:Int)(ys:List Int):lexLt [] (y::ys)=a7:=rfl
theorem Dt(x:Int)(xs:List Int):lexLt (x::xs) []=a4:=rfl
theorem eqAt_int(A:aB)(s:ae)(a:Int)(t:iq)(c:Int)(u:iq):∃e,cN A s (.int a t) (.int c u) e/\(e=a7↔a=c) :=
 ⟨(a==c),SeqAt.EqAt.int_int a t c u,by simp⟩
theorem rcLt_int(A:aB)(s:ae)(a:Int)(t:iq)(c:Int)(u:iq)(prog:au)(w:aA)(E:k8z)(Q:k8z)(h:Q (.bool (decide (a<c))) s) :
  ar (aw prog w) A (i5 .Lt (.int a t) (.int c u)) Q E s :=
 (lt_int h:ar (aw prog w) A (aW .Lt (.int a t) (.int c u)) Q E s)
section
open PySem.SeqAt
open PySem.AutoSeq1 (wpAny_loadPart')
open PySem.MeetsSeq PySem.MeetsSeq2 PySem.MeetsSeq3
theorem Kd(l b:aa)(items items2:Array a8)(n n2:Nat)(dd dd2:Option aa)(sl sl2:Array (Option a8))(ns ms:List Int)(hi:de items.toList ns)(hj:de items2.toList ms) :
  kC (d9.«tuple.__lt__» ⟨[.ref l,.ref b],[]⟩)
   (λ_ R s=>s.heap.get? l=a3 { cls:=.type "tuple",dict:=dd,data:=.seq items n,slots:=sl }/\s.heap.get? b=a3 { cls:=.type "tuple",dict:=dd2,data:=.seq items2 n2,slots:=sl2 } /\
    R (.ok (.ret (.bool (lexLt ns ms)))) s) :=
 .of_wp λprog w A R s h=>by
  obtain⟨hp,g,d,tk,os⟩:=s;obtain⟨hl,hb,h⟩:=h;have f2:=gu;have z1:items.size=ns.length:=by rw[<-hi.length];simp
  have z2:items2.size=ms.length:=by rw[<-hj.length];simp
  wp_walk using dw hl,dw hb,gX _ (λrest b s'=>b.1=a5/\s'=⟨hp,g,d,tk,os⟩/\∃(vs ws:List a8)(ns' ms':List Int),rest=vs.zip ws /\
   de vs ns'/\de ws ms'/\ns'.length+items2.size=ms'.length+items.size/\R (.ok (.ret (.bool (lexLt ns' ms')))) ⟨hp,g,d,tk,os⟩) _
  case turn =>
   rintro⟨y,x⟩ rest b s' ⟨hb',rfl,vs,ws,ns',ms',hz,hvi,hwi,hlen,hR⟩;cases hvi with
   |nil=>rw[List.zip_nil_left]at hz;cases hz
   |cons a t hvi' =>
    cases hwi with
    |nil=>rw[List.zip_nil_right]at hz;cases hz
    |cons c u hwi' =>
     rw[jF]at hz;injection hz with hyx hrest;injection hyx with hy hx;subst hy hx;rw[lexLt_cons]at hR;simp only[xx]at hlen;obtain⟨e,he,hiff⟩:=eqAt_int A.in1 ⟨hp,g,d,tk,os⟩ a t c u;refine a6 (he prog w _ _ ?_);cases e with
     |true =>
      rw[if_pos (hiff.mp rfl)]at hR
      wp_walk
      exact⟨rfl,rfl,_,_,_,_,hrest,hvi',hwi',by omega,hR⟩
     |false =>
      rw[if_neg (λq=>absurd (hiff.mpr q) xf)]at hR;have hri:=rcLt_int A.in1 ⟨hp,g,d,tk,os⟩ a t c u prog w
      wp_walk using hri
      exact⟨_,rfl,by simpa using hR⟩
  case fin =>
   rintro⟨b1,b2⟩ s' ⟨hb',rfl,vs,ws,ns',ms',hz,hvi,hwi,hlen,hR⟩;simp only at hb';subst hb';have hv:lexLt ns' ms'=decide (items.size<items2.size):=by
    cases hvi with
    |nil =>
     cases hwi with
     |nil =>simp only[Pr]at hlen;rw[Ko];exact(decide_eq_false nofun).symm
     |cons c u hw =>simp only[Pr,xx]at hlen;rw[Ds];exact(decide_eq_true nofun).symm
    |cons a t hv =>
     cases hwi with
     |nil =>simp only[Pr,xx]at hlen;rw[Dt];exact(decide_eq_false nofun).symm
     |cons c u hw =>rw[jF]at hz;cases hz
   rw[hv]at hR
   wp_walk
   exact⟨_,rfl,by simpa [eG]using hR⟩
  case h =>exact⟨rfl,rfl,items.toList,items2.toList,ns,ms,rfl,hi,hj,by omega,h⟩
end
section
variable{prog:au}{w:aA}{A:aB}{E:k8z}{s:ae}
theorem lt_tupInts{l b:aa}{items items2:Array a8}{ns ms:List Int}{Q:k8z}(hl:iH s.heap l items)(hb:iH s.heap b items2)(hi:de items.toList ns)(hj:de items2.toList ms)
  (hu:A.units<aM) (h:Q (.bool (lexLt ns ms)) s):ar (aw prog w) A (aW .Lt (.ref l) (.ref b)) Q E s:=by
 obtain⟨⟨cls,dd,data,sl⟩,ho,hc,n,hd⟩:=id hl;obtain⟨⟨cls2,dd2,data2,sl2⟩,ho2,hc2,n2,hd2⟩:=id hb;simp only at hc hd hc2 hd2;subst hc hd hc2 hd2;exact jR (op:=.Lt) ⟨_,ho,rfl⟩ ⟨_,ho2,rfl⟩ hZ gR (gM _ _) (Kd l b items items2 n n2 dd dd2 sl sl2 ns ms hi hj)
  ⟨ho,ho2,show bO (lexLt ns ms)≠iw/\Q (.bool (lexLt ns ms)) s from⟨(λx=>nomatch x),h⟩⟩ hu
theorem cat_tup{t b:aa}{vs ws:List a8}{Q:k8z}(ht:iH s.heap t vs.toArray)(hb:iH s.heap b ws.toArray)(hv:vs≠[])
  (h1:ws=[]->Q (.ref t) s) (h2:ws≠[]->Q (.ref s.heap.objs.size) { s with heap:=s.heap.push { cls:=.type "tuple",data:=.seq (vs++ws).toArray } })
  (hsz:vs.length+ws.length<=aq):ar (aw prog w) A (bc .Add (.ref t) (.ref b)) Q E s:=by
 obtain⟨⟨cls,dd,data,sl⟩,ho,hc,n,hd⟩:=id ht;obtain⟨⟨cls2,dd2,data2,sl2⟩,ho2,hc2,n2,hd2⟩:=id hb;simp only at hc hd hc2 hd2;subst hc hd hc2 hd2;have e:vs.toArray++ws.toArray=(vs++ws).toArray:=by simp
 by_cases hw:ws=[]
 .exact gH ⟨_,ho,rfl⟩ ⟨_,ho2,rfl⟩ gZ iU dN dC (dr _ _)
   (tuple_addW1 t b vs.toArray ws.toArray n n2 dd dd2 sl sl2 (by simpa using hv) (by simp[hw])) ⟨ho,ho2,h1 hw⟩
 .refine gH ⟨_,ho,rfl⟩ ⟨_,ho2,rfl⟩ gZ iU dN dC (dr _ _)
   (tuple_addW2 t b vs.toArray ws.toArray n n2 dd dd2 sl sl2 (by simpa using hv) (by simpa using hw) (by rw[X5,X5];exact hsz)) ⟨ho,ho2,?_⟩
  rw[e];exact h2 hw
noncomputable def sIx(n d:Nat):Option Int->Nat
 |none=>d
 |some v=>if v<0 then(v+(n:Int)).toNat else min v.toNat n
theorem sIx_none(n d:Nat):sIx n d a5=d:=rfl
theorem sIx_nat(n d k:Nat):sIx n d (a3 (k:Int))=min k n:=by show(if (k:Int)<0 then((k:Int)+(n:Int)).toNat else min (k:Int).toNat n)=min k n;rw[if_neg nofun,Xh]
theorem jeq(n d:Nat)(hd:d<=n)(o:Option Int):sIx n d o<=n:=by
 cases o with
 |none=>exact hd
 |some v =>
  show(if v<0 then(v+(n:Int)).toNat else min v.toNat n)<=n;by_cases hv:v<0
  .rw[if_pos hv];omega
  .rw[if_neg hv];exact Nat.min_le_right _ _
theorem j2s(v:Int)(n d:Nat):(if v<0 then max (v+(n:Int)) 0 else min v (n:Int))=((sIx n d (a3 v):Nat):Int):=by
 show(if v<0 then max (v+(n:Int)) 0 else min v (n:Int))=(((if v<0 then(v+(n:Int)).toNat else min v.toNat n):Nat):Int)
 by_cases hv:v<0
 .simp only[if_pos hv];omega
 .simp only[if_neg hv];omega
theorem j4h(lo hi:Option Int)(n:Nat):cQ lo hi 1 (n:Int)=(((sIx n 0 lo:Nat):Int),((sIx n n hi:Nat):Int)):=by
 have h1:¬((1:Int)<0):=by omega
 unfold cQ;simp only[h1,if_false];refine Prod.ext ?_ ?_
 .cases lo with
  |none=>rfl
  |some v=>exact j2s v n 0
 .cases hi with
  |none=>rfl
  |some v=>exact j2s v n n
theorem j3h(i j:Nat):bI (i:Int) (j:Int) 1=j-i:=by
 unfold bI;have h1:(1:Int)>0:=by omega
 simp only[h1,if_true,Int.ediv_one];split<;>omega
theorem N6{v:a8}{o:Option Int}{Q:Option Int->ae->Prop}(p:fG v o)(h:Q o s):ar (aw prog w) A (lO v) Q E s:=by
 cases p with
 |none=>exact mR h
 |int i t=>exact slicePart_int h
theorem Ow{sl:aa}{vl vu:a8}{lo hi:Option Int}{n:Nat}{Q:Int×Int×Nat->ae->Prop}(hs:s.heap.IsSliceOf sl vl vu .none)(pl:fG vl lo)(pu:fG vu hi)
  (h:Q (((sIx n 0 lo:Nat):Int),1,sIx n n hi-sIx n 0 lo) s):ar (aw prog w) A (fe (.ref sl) (pure (n:Int))) Q E s:=by
 obtain⟨os,hos,hcs,hds⟩:=id hs;unfold fe lP;refine a6 (a6 (bx hos hds (x:=vl) rfl (a6 (bx hos hds (x:=vu) rfl (a6 (bx hos hds (x:=.none) rfl (aj ?_)))))));refine a6 (mR ?_);show ar _ _ (if ((1:Int)==0)=a7 then _ else _) _ _ s;rw[if_neg (by decide)];refine a6 (N6 pl (a6 (N6 pu (a6 (aj ?_)))));show ar _ _ (match cQ lo hi 1 (n:Int)with|(lo,hi)=>pure (lo,(1:Int),bI lo hi 1)) _ _ s;rw[j4h lo hi n];show ar _ _ (pure (((sIx n 0 lo:Nat):Int),(1:Int),bI ((sIx n 0 lo:Nat):Int) ((sIx n n hi:Nat):Int) 1)) _ _ s;rw[j3h];exact aj h
theorem j8h(xs:Array a8)(i k:Nat):((aE k).filterMap λ(m:Nat)=>xs[((i:Int)+(m:Int)*1).toNat]?).toArray=((xs.toList.drop i).take k).toArray:=by
 have e:(λ(m:Nat)=>xs[((i:Int)+(m:Int)*1).toNat]?)=λm=>xs[i+m]?:=by
  funext m
  have:((i:Int)+(m:Int)*1).toNat=i+m:=by omega
  rw[this]
 rw[e];have:=pick_run xs i k;rw[List.filterMap_map]at this;have e2:((λx=>xs[x]?) ∘ λx=>i+x)=λm=>xs[i+m]?:=rfl;rw[e2]at this;rw[this]
theorem getItem_tuple_cut{t sl:aa}{items:Array a8}{vl vu:a8}{lo hi:Option Int}{Q:k8z}(ht:iH s.heap t items)(hs:s.heap.IsSliceOf sl vl vu .none)(pl:fG vl lo)(pu:fG vu hi)
  (hw:¬(sIx items.size 0 lo=0/\sIx items.size items.size hi=items.size))
  (h:Q (.ref s.heap.objs.size) { s with heap:=s.heap.push { cls:=.type "tuple",data:=.seq ((items.toList.drop (sIx items.size 0 lo)).take (sIx items.size items.size hi-sIx items.size 0 lo)).toArray } })
  (hsz:items.size<=aq):ar (aw prog w) A (jT (.ref t) (.ref sl)) Q E s:=by
 have htake:sizeOk (.seq ((items.toList.drop (sIx items.size 0 lo)).take (sIx items.size items.size hi-sIx items.size 0 lo)).toArray):=by show((items.toList.drop (sIx items.size 0 lo)).take (sIx items.size items.size hi-sIx items.size 0 lo)).toArray.size<=aq;rw[X5,Xl,pq,cY];omega
 have hj:sIx items.size items.size hi<=items.size:=jeq _ _ (X3 _) hi;obtain⟨os,hos,hcs,hds⟩:=id hs;have hTs:s.TypeIs (.ref sl) "slice":=⟨os,hos,hcs⟩
 unfold jT
 try with_reducible refine bC ?_
 first|refine a6 (aj ?_)|skip
 refine a6 (wpAny_sequenceKey ht.typeIs (by decide) ?_);refine a6 (bG (name:=aR "__getitem__") ht.typeIs kZ
  (bF kZ ht.typeIs entry_tuple_getitem ?_ (args_tuple_getitem _ _)))
 show ar _ _ (lN (.ref t) >>= _) _ _ s;refine a6 (tupleItemsOf_ ht ?_);refine a6 (wpAny_typeOf hTs ?_);rw[if_pos (by decide)];refine a6 (Ow hs pl pu ?_);have hno:¬((((sIx items.size 0 lo:Nat):Int)==0&&(1:Int)==1&&(sIx items.size items.size hi-sIx items.size 0 lo)==items.size)=a7):=by intro q;rw[Xg,Xg]at q;have q1:((sIx items.size 0 lo:Nat):Int)=0:=eq_of_beq q.1.1;have q2:sIx items.size items.size hi-sIx items.size 0 lo=items.size:=eq_of_beq q.2;exact hw ⟨by omega,by omega⟩
 show ar _ _ (if (((sIx items.size 0 lo:Nat):Int)==0&&(1:Int)==1&&(sIx items.size items.size hi-sIx items.size 0 lo)==items.size)=a7 then _ else _) _ _ s;rw[if_neg hno,j8h]
 first
  |exact a6 (m:=ba _) (aN (aj ⟨_,rfl,aj h⟩) htake)
  |exact a6 (m:=ba _) (aN (a6 (aj (aj ⟨_,rfl,aj h⟩))) htake)
  |exact a6 (a6 (m:=ba _) (aN (aj (aj ⟨_,rfl,aj h⟩)) htake))
  |exact a6 (a6 (m:=ba _) (aN (aj ⟨_,rfl,aj h⟩) htake))
end
end HT
namespace L2
open PySem PySem.Spec PyProof.Rows
abbrev TO:=St->Hp->(Option Int->Hp->Prop)->Prop
def PO(X:Cx)(e:Option ai)(t:TO):Prop :=
 ∀(pins:k90) (s:ae) (σ:St) (H:Hp) (Q:Option Int->Hp->Prop),Inv X pins σ H s->t σ H Q ->
  ar (aw X.prog X.w) X.A (evalPart e X.env) (λu s'=>∃o H',Inv X pins σ H' s'/\fG u o/\Q o H') X.xe s
def jbh:TO:=λ_ H Q=>Q a5 H
def jio(t:TE):TO:=λσ H Q=>t σ H λx H1=>∃i,x=.int i/\Q (a3 i) H1
theorem intsAre_of{ns:List Int}:∀{us:List a8},Vals (ns.map V.int) us->de us ns:=by
 induction ns with
 |nil=>intro us r;rw[Ph]at r;cases r;exact .nil
 |cons n ns ih =>
  intro us r;rw[xu]at r;cases r with
  |cons r1 r2 =>obtain⟨t,e⟩:=r1;subst e;exact .cons n t (ih r2)
section
variable{X:Cx}{e:ai}{te:TE}{lo hi:Option ai}{tl th:TO}{pos p2:aJ}
theorem jc6:PO X a5 jbh:=by intro pins s σ H Q I h;rw[mX];exact aj ⟨a5,H,I,.none,h⟩
theorem jc5(h:PE X e te):PO X (a3 e) (jio te):=by intro pins s σ H Q I hw;rw[evalPart_some];refine thn (h pins s σ H _ I hw) λu s1 ⟨x,H1,I1,r1,q1⟩=>?_;obtain⟨i,rfl,q⟩:=q1;obtain⟨t,rfl⟩:=r1;exact⟨a3 i,H1,I1,.int i t,q⟩
def SlR(X:Cx)(r:V->Option Int->Option Int->Hp->VK->Prop):Prop :=
 ∀(pins:k90) (s:ae) (σ:St) (H:Hp) (x:V) (v vl vu:a8) (lo hi:Option Int) (sl:aa) (Q:VK),Inv X pins σ H s->RelV x v->s.heap.IsSliceOf sl vl vu .none->fG vl lo->fG vu hi->r x lo hi H Q ->
  ∃T id,typeLookup (.type T) "__getitem__" = pure (a3 (.builtin id))/\s.TypeIs v T/\ar (aw X.prog X.w) X.A (jT v (.ref sl)) (EP X pins σ Q) X.xe s
def tSl(r:V->Option Int->Option Int->Hp->VK->Prop)(te:TE)(tl th:TO):TE:=λσ H Q=>te σ H λx H1=>tl σ H1 λl H2=>th σ H2 λu H3=>r x l u H3 Q
theorem Bd{r:V->Option Int->Option Int->Hp->VK->Prop}(hr:SlR X r)(he:PE X e te)(hl:PO X lo tl)(hu:PO X hi th):PE X (.Subscript e (.Slice lo hi a5 p2) pos) (tSl r te tl th):=by intro pins s σ H Q I h;refine Subscript_ (thn (he pins s σ H _ I h) λv s1 ⟨x,H1,I1,r1,q1⟩=>?_);refine wpAny_Slice (thn (hl pins s1 σ H1 _ I1 q1) λvl s2 ⟨l,H2,I2,pl,q2⟩=>thn (hu pins s2 σ H2 _ I2 q2) λvu s3 ⟨u,H3,I3,pu,q3⟩=>?_);rw[mX];refine aj ?_;have I4:Inv X pins σ H3 { s3 with heap:=s3.heap.push { cls:=.type "slice",data:=.fields #[vl,vu,.none] } }:=I3.kept (t':=s3.toks) λb ob q=>xn _ q;obtain⟨T,id,hT,ht,hg⟩:=hr pins { s3 with heap:=s3.heap.push { cls:=.type "slice",data:=.fields #[vl,vu,.none] } } σ H3 x v vl vu l u s3.heap.objs.size Q I4 r1 (Heap.IsSliceOf.new ..) pl pu q3;show ar (aw X.prog X.w) X.A (n4 e (.Slice lo hi a5 p2) v (.ref s3.heap.objs.size)) (EP X pins σ Q) X.xe { s3 with heap:=s3.heap.push { cls:=.type "slice",data:=.fields #[vl,vu,.none] } };exact mQ (ops:=[.ref s3.heap.objs.size,v]) ht hT hg (by with_unfolding_all rfl)
noncomputable def Mh(xs:List V)(lo hi:Option Int):List V:=(xs.drop (HT.sIx xs.length 0 lo)).take (HT.sIx xs.length xs.length hi-HT.sIx xs.length 0 lo)
theorem Oi(xs:List V)(lo hi:Option Int):(Mh xs lo hi).length<=xs.length:=by unfold Mh;rw[Xl,pq];omega
def jln(K:k8y):V->Option Int->Option Int->Hp->VK->Prop:=λx lo hi H Q=>∃a xs,x=.ref a/\SqT K H a xs /\
 ¬(HT.sIx xs.length 0 lo=0/\HT.sIx xs.length xs.length hi=xs.length)/\∀p,H p=a5->Q (.ref p) (upd H p (.tup (Mh xs lo hi)))
theorem jeg:SlR X (jln X.K):=by
 intro pins s σ H x v vl vu lo hi sl Q I rx hs pl pu h;obtain⟨a,xs,rfl,hx,hw,q⟩:=h;cases rx;obtain⟨its,r,ht,hz⟩:=I.tuple hx;have hlen:its.toArray.size=xs.length:=by rw[X5];exact r.length.symm
 refine⟨"tuple",_,slot_tuple_getitem.lookup,ht.typeIs,?_⟩;refine HT.getItem_tuple_cut ht hs pl pu (by rw[hlen];exact hw) ?_ (by rw[hlen];exact hz);rw[hlen];refine⟨.ref s.heap.objs.size,_,I.laid (t':=s.toks) (o:=.tup (Mh xs lo hi)) (λb ob q=>xn _ q) (X3 _) ?_,rfl,q _ (I.hok.fresh (X3 _))⟩;exact⟨Xi (Oi xs lo hi) hz,_,(r.drop (HT.sIx xs.length 0 lo)).take (HT.sIx xs.length xs.length hi-HT.sIx xs.length 0 lo),IsTup.new _ _,Vf.new _ _⟩
def jj5(K:k8y):R2:=λx y H Q=>∃a b xs ys,x=.ref a/\y=.ref b/\SqT K H a xs/\SqT K H b ys/\xs≠[]/\xs.length+ys.length<=aq /\
 (ys=[]->Q (.ref a) H)/\(ys≠[]->∀p,H p=a5->Q (.ref p) (upd H p (.tup (xs++ys))))
theorem Vals.nil_iff{xs:List V}{us:List a8}(r:Vals xs us):us=[]↔xs=[]:=by
 cases r with
 |nil=>simp
 |cons _ _=>simp
theorem jcg:OpR X (bc .Add) (jj5 X.K):=by intro pins s σ H x y v u Q I rx ry h;obtain⟨a,b,xs,ys,rfl,rfl,ha,hb,hx,hz,q1,q2⟩:=h;cases rx;cases ry;obtain⟨its,r1,p1,_⟩:=I.tuple ha;obtain⟨its2,r2,p2,_⟩:=I.tuple hb;refine HT.cat_tup p1 p2 (λz=>hx (r1.nil_iff.mp z)) (λz=>⟨.ref a,H,I,rfl,q1 (r2.nil_iff.mp z)⟩) (λz=>?_) (by rw[<-r1.length,<-r2.length];exact hz);refine⟨.ref s.heap.objs.size,_,I.laid (t':=s.toks) (o:=.tup (xs++ys)) (λb ob q=>xn _ q) (X3 _) ?_,rfl,q2 (λw=>z (r2.nil_iff.mpr w)) _ (I.hok.fresh (X3 _))⟩;exact⟨by rw[X6];exact hz,_,r1.append r2,IsTup.new _ _,Vf.new _ _⟩
end
noncomputable def ixN(n:Nat)(i:Int):Option Nat:=if 0<=i then(if i<n then a3 i.toNat else a5)else if -(n:Int)<=i then a3 (i+n).toNat else a5
noncomputable def atI{α:Type}(xs:List α)(i:Int):Option α:=(ixN xs.length i).bind λj=>xs[j]?
theorem jcu{n:Nat}{i:Int}{j:Nat}(h:ixN n i=a3 j):seqIndex? i n=a3 j/\j<n/\-(n:Int)<=i/\i<n:=by
 unfold ixN at h;by_cases h0:0<=i
 .rw[if_pos h0]at h;by_cases h1:i<n
  .rw[if_pos h1]at h;have e:i.toNat=j:=ax h;exact⟨by rw[seqIndex_of h0 h1,e],by omega,by omega,h1⟩
  .rw[if_neg h1]at h;cases h
 .rw[if_neg h0]at h;by_cases h1:-(n:Int)<=i
  .rw[if_pos h1]at h;have e:(i+n).toNat=j:=ax h;exact⟨by rw[seqIndex_neg nofun h1,e],by omega,h1,by omega⟩
  .rw[if_neg h1]at h;cases h
theorem Cp{α:Type}{xs:List α}{i:Int}{v:α}(h:atI xs i=a3 v):∃j,seqIndex? i xs.length=a3 j/\xs[j]?=a3 v/\j<xs.length/\-(xs.length:Int)<=i/\i<xs.length:=by
 unfold atI at h;cases e:ixN xs.length i with
 |none=>rw[e]at h;cases h
 |some j =>rw[e]at h;obtain⟨h1,h2,h3,h4⟩:=jcu e;exact⟨j,h1,h,h2,h3,h4⟩
theorem jdw{α:Type}{xs:List α}{j:Nat}{v:α}(h:xs[j]?=a3 v):atI xs (j:Int)=a3 v:=by
 have hj:j<xs.length:=(Xa.mp h).1;have e:ixN xs.length (j:Int)=a3 j:=by unfold ixN;rw[if_pos nofun,if_pos nofun];simp
 unfold atI;rw[e];exact h
def Ys(b:ai):Prop:=∀o i,subscripted b a4 o i=operate [o,i] (jT o i)
def IxR(X:Cx)(r:R2):Prop :=
 ∀(value slice:ai)(pins:k90) (s:ae) (σ:St) (H:Hp) (x y:V) (v u:a8) (Q:VK),Inv X pins σ H s->RelV x v->RelV y u->r x y H Q ->
  subscripted slice a4 v u=operate [v,u] (jT v u)->ar (aw X.prog X.w) X.A (n4 value slice v u) (EP X pins σ Q) X.xe s
def MtR(X:Cx)(id:String)(r:V->List V->Hp->VK->Prop):Prop :=
 ∀(pins:k90) (s:ae) (σ:St) (H:Hp) (x:V) (xs:List V) (v:a8) (us:List a8) (Q:VK),Inv X pins σ H s->RelV x v->Vals xs us->r x xs H Q ->
  ar (aw X.prog X.w) X.A (call (.builtin id) (v::us)) (EP X pins σ Q) X.xe s
section
variable{X:Cx}{a b:ai}{ta tb:TE}{pos:aJ}
theorem Wl{r:R2}(hr:IxR X r)(ha:PE X a ta)(hb:PE X b tb)(hs:Ys b):PE X (.Subscript a b pos) (tOp r ta tb):=by intro pins s σ H Q I h;exact Subscript_ (j9y ha hb I h λv u s2 x y H2 I2 rx ry q=>hr a b pins s2 σ H2 x y v u Q I2 rx ry q (hs _ _))
def jf5(K:k8y):R2:=λx y H Q=>∃p xs i v,x=.ref p/\y=.int i/\SqL K H p xs/\atI xs i=a3 v/\Q v H
def jf3(K:k8y):R2:=λx y H Q=>∃p xs i v,x=.ref p/\y=.int i/\SqT K H p xs/\atI xs i=a3 v/\Q v H
def jf4:R2:=λx y H Q=>∃z i c,x=.str z/\y=.int i/\z.length<=aq/\atI z.cps.toList i=a3 c/\Q (.str ⟨#[c]⟩) H
theorem jct:IxR X (jf5 X.K):=by
 intro value slice pins s σ H x y v u Q I rx ry h hs;obtain⟨p,xs,i,z,rfl,rfl,hq,he,q⟩:=h;cases rx;obtain⟨t,rfl⟩:=ry;obtain⟨its,r,pl,hz⟩:=I.list hq;obtain⟨j,h1,h2,h3,h4,h5⟩:=Cp he;obtain⟨w,ew,rw'⟩:=r.get h2;have hl:=r.length;have hn:=W8;have fin:EP X pins σ Q w s:=⟨z,H,I,rw',q⟩
 by_cases h0:0<=i
 .have hj:i.toNat=j:=by rw[seqIndex_of h0 h5]at h1;exact ax h1
  exact item_listR pl.isList h0 nofun (by rw[hj];simpa using ew) fin hs
 .have hj:(i+(its.toArray.size:Int)).toNat=j:=by rw[seqIndex_neg nofun h4]at h1;rw[X5,<-hl];exact ax h1
  exact jU (x:=w) pl.isList.typeIs slot_list_getitem.lookup
   (wpAny_getItem_list_neg (Q:=λr s'=>r=w/\EP X pins σ Q r s') pl.isList nofun (by rw[X5]<;>omega) nofun (by rw[hj];simpa using ew) ⟨rfl,fin⟩) hs
theorem Nq:IxR X (jf3 X.K):=by
 intro value slice pins s σ H x y v u Q I rx ry h hs;obtain⟨p,xs,i,z,rfl,rfl,hq,he,q⟩:=h;cases rx;obtain⟨t,rfl⟩:=ry;obtain⟨its,r,pl,hz⟩:=I.tuple hq;obtain⟨j,h1,h2,h3,h4,h5⟩:=Cp he;obtain⟨w,ew,rw'⟩:=r.get h2;have hl:=r.length;have hn:=W8;have fin:EP X pins σ Q w s:=⟨z,H,I,rw',q⟩
 exact jU (x:=w) pl.typeIs slot_tuple_getitem.lookup
  (getItem_tuple (j:=j) (Q:=λr s'=>r=w/\EP X pins σ Q r s') pl nofun nofun (by rw[X5,<-hl];exact h1) (by simpa using ew) ⟨rfl,fin⟩) hs
theorem jgf:IxR X jf4:=by
 intro value slice pins s σ H x y v u Q I rx ry h hs;obtain⟨z,i,c,rfl,rfl,hz,he,q⟩:=h;obtain⟨t,rfl⟩:=rx;obtain⟨t',rfl⟩:=ry;obtain⟨j,h1,h2,h3,h4,h5⟩:=Cp he;have hl:z.cps.toList.length=z.length:=by simp[mG]
 rw[hl]at h1 h4 h5;have hn:=W8;exact mQ (gm s z t) slot_str_getitem.lookup (getItem_str (c:=c) (by
  have e1:decide (i < -(2^63:Int))=a4:=decide_eq_false nofun
  have e2:decide (i>=2^63)=a4:=decide_eq_false nofun
  rw[e1,e2,i7]) (by rw[h1];simpa using h2) ⟨.str ⟨#[c]⟩,H,I.tok _,⟨_,rfl⟩,q⟩) hs
theorem Eb(lo hi:Option Int)(n:Nat):(df lo hi a5 n).1=((HT.sIx n 0 lo:Nat):Int)/\(df lo hi a5 n).2.1=((HT.sIx n n hi:Nat):Int)/\(df lo hi a5 n).2.2=1:=by
 refine⟨?_,?_,rfl⟩
 .cases lo with
  |none=>simp[df,HT.sIx]
  |some i =>
   simp only[df,HT.sIx,jE,show(1:Int)>0 by decide,if_true];by_cases h:i<0
   .simp only[h,if_true]<;>omega
   .simp only[h,if_false]<;>omega
 .cases hi with
  |none=>simp[df,HT.sIx]
  |some i =>
   simp only[df,HT.sIx,jE,show(1:Int)>0 by decide,if_true];by_cases h:i<0
   .simp only[h,if_true]<;>omega
   .simp only[h,if_false]<;>omega
theorem Kl(its:List a8)(lo hi:Option Int):slicePick its.toArray lo hi a5=((its.drop (HT.sIx its.length 0 lo)).take (HT.sIx its.length its.length hi-HT.sIx its.length 0 lo)).toArray:=by obtain⟨h1,h2,h3⟩:=Eb lo hi its.toArray.size;unfold slicePick;rw[h1,h2,h3];simp only[sliceRange_one,pick_run,X5]<;>rfl
def jlp(K:k8y):V->Option Int->Option Int->Hp->VK->Prop:=λx lo hi H Q=>∃a xs,x=.ref a/\SqL K H a xs/\∀p,H p=a5->Q (.ref p) (upd H p (.lst (Mh xs lo hi)))
theorem jbk:SlR X (jlp X.K):=by intro pins s σ H x v vl vu lo hi sl Q I rx hs pl pu h;obtain⟨a,xs,rfl,hx,q⟩:=h;cases rx;obtain⟨its,r,ht,hz⟩:=I.list hx;have hlen:=r.length;refine⟨"list",_,slot_list_getitem.lookup,ht.isList.typeIs,?_⟩;refine wpAny_getItem_list_slice ht.isList hs pl pu .none (by simp) ?_ (by rw[X5]<;>omega);rw[Kl,<-hlen];refine⟨.ref s.heap.objs.size,_,I.laid (t':=s.toks) (o:=.lst (Mh xs lo hi)) (λb ob q=>xn _ q) (X3 _) ?_,rfl,q _ (I.hok.fresh (X3 _))⟩;exact⟨Xi (Oi xs lo hi) hz,_,0,(r.drop (HT.sIx xs.length 0 lo)).take (HT.sIx xs.length xs.length hi-HT.sIx xs.length 0 lo),X4 _ rfl⟩
theorem Mj:Jt X (.builtin "len") (λxs H Q=>∃p ys,xs=[.ref p]/\(SqL X.K H p ys\/SqT X.K H p ys)/\Q (.int ys.length) H):=by
 intro pins s σ H xs us Q I r h;obtain⟨p,ys,rfl,hq,q⟩:=h;obtain⟨u,rfl,rx⟩:=vals1 r;cases rx;have hn:=W8;rcases hq with hq|hq
 .obtain⟨its,r',pl,hz⟩:=I.list hq;have hlen:=r'.length;exact Calls.call_len_list pl.isList (by simp only[X5]<;>omega) ⟨.int ys.length,H,I.tok _,⟨s.toks+1,by rw[X5,hlen]⟩,q⟩
 .obtain⟨its,r',pl,hz⟩:=I.tuple hq;have hlen:=r'.length;exact len_tuple pl (by simp only[X5]<;>omega) ⟨.int ys.length,H,I.tok _,⟨s.toks+1,by rw[X5,hlen]⟩,q⟩
theorem j0w:Jt X (.builtin "len") (λxs H Q=>∃z,xs=[.str z]/\z.length<=aq/\Q (.int z.length) H):=by intro pins s σ H xs us Q I r h;obtain⟨z,rfl,hz,q⟩:=h;obtain⟨u,rfl,t,rfl⟩:=vals1 r;have hn:=W8;exact len_str nofun ⟨.int z.length,H,I.tok _,⟨_,rfl⟩,q⟩
theorem j0v:Jt X (.type "list") (λxs H Q=>∃p ys,xs=[.ref p]/\(SqL X.K H p ys\/SqT X.K H p ys)/\∀l,H l=a5->Q (.ref l) (upd H l (.lst ys))):=by
 intro pins s σ H xs us Q I r h;obtain⟨p,ys,rfl,hq,q⟩:=h;obtain⟨u,rfl,rx⟩:=vals1 r;cases rx;have fin:∀(its:List a8),Vals ys its->ys.length<=aq->∀(h':aD)(c':Nat),(∀b o',s.heap.get? b=a3 o'->h'.get? b=a3 o') ->
   h'.get? s.heap.objs.size=a3 { cls:=.type "list",dict:=a5,data:=.seq its.toArray c',slots:=#[] }->EP X pins σ Q (.ref s.heap.objs.size) { s with heap:=h' }:=λits r' hz h' c' kp e =>
  ⟨.ref s.heap.objs.size,_,I.laid (t':=s.toks) kp (X3 _) (show jh X.prog X.w _ h' _ (.lst ys) from⟨hz,its,c',r',e⟩),rfl,q _ (I.hok.fresh (X3 _))⟩
 rcases hq with hq|hq
 .obtain⟨its,r',pl,hz⟩:=I.list hq;have hlen:=r'.length;obtain⟨o,ho,hc,n,hd⟩:=pl.isList;exact mZ p (.inl rfl) ho hc hd (λh' c' kp e=>fin its r' hz h' c' kp e) (by simp only[X5]<;>omega)
 .obtain⟨its,r',pl,hz⟩:=I.tuple hq;have hlen:=r'.length;obtain⟨o,ho,hc,n,hd⟩:=pl;exact mZ p (.inr rfl) ho hc hd (λh' c' kp e=>fin its r' hz h' c' kp e) (by simp only[X5]<;>omega)
theorem Kq:Jt X (.type "tuple") (λxs H Q=>∃p ys,xs=[.ref p]/\((SqL X.K H p ys/\∀l,H l=a5->Q (.ref l) (upd H l (.tup ys)))\/(SqT X.K H p ys/\Q (.ref p) H))):=by
 intro pins s σ H xs us Q I r h;obtain⟨p,ys,rfl,h⟩:=h;obtain⟨u,rfl,rx⟩:=vals1 r;cases rx;rcases h with ⟨hq,q⟩|⟨hq,q⟩
 .obtain⟨its,r',pl,hz⟩:=I.list hq;have hlen:=r'.length;refine call_tuple_list pl.isList (λh' kp=>?_) (by simp only[X5]<;>omega);have I1:Inv X pins σ H { s with heap:=h' }:=I.kept (t':=s.toks) kp;have I2:Inv X pins σ (upd H h'.objs.size (.tup ys)) { s with heap:=h'.push { cls:=.type "tuple",data:=.seq its.toArray } } :=
   I1.laid (t':=s.toks) (λb o e=>xn _ e) (X3 _) (show jh X.prog X.w _ _ _ (.tup ys) from⟨hz,its,r',IsTup.new _ _,Vf.new _ _⟩)
  exact⟨.ref h'.objs.size,_,I2,rfl,q _ (I1.hok.fresh (X3 _))⟩
 .obtain⟨its,r',pl,hz⟩:=I.tuple hq;exact call_tuple_same pl ⟨.ref p,H,I,rfl,q⟩
def tyV(K:k8y)(T:String)(x:V)(H:Hp):Prop:=match x with
 |.str _=>T = "str"
 |.int _=>T = "int"
 |.ref p=>(T = "list"/\∃xs,SqL K H p xs)\/(T = "tuple"/\∃xs,SqT K H p xs) \/
   (T = "dict"/\((∃kvs,H p=a3 (.dK kvs))\/∃kvs,H p=a3 (.dT kvs)))\/(T = "set"/\∃S n,H p=a3 (.set S n))
 |_=>False
theorem j4r{pins:k90}{σ:St}{H:Hp}{s:ae}{T:String}{x:V}{v:a8}(I:Inv X pins σ H s)(r:RelV x v)(ty:tyV X.K T x H) :
  s.TypeIs v T/\∀a,v=.ref a->∃ob,s.heap.get? a=a3 ob/\ob.dict=a5:=by
 cases x with
 |str z =>obtain⟨t,rfl⟩:=r;cases(show T = "str" from ty);exact⟨gm s z t,λ_ e=>nomatch e⟩
 |int i =>obtain⟨t,rfl⟩:=r;cases(show T = "int" from ty);exact⟨gn s i t,λ_ e=>nomatch e⟩
 |ref p =>
  cases r;rcases ty with ⟨rfl,xs,hq⟩|⟨rfl,xs,hq⟩|⟨rfl,hk⟩|⟨rfl,S,n,hk⟩
  .obtain⟨its,_,pl,_⟩:=I.list hq;refine⟨pl.isList.typeIs,λa e=>?_⟩;cases e;obtain⟨o,n,e,c,hd,_⟩:=pl;exact⟨o,e,hd⟩
  .obtain⟨its,_,⟨o,e1,e2,_⟩,_⟩:=I.tuple hq;refine⟨⟨o,e1,e2⟩,λa e=>?_⟩;cases e;exact⟨o,e1,I.tupD hq o e1⟩
  .have z:∃o,s.heap.get? p=a3 o/\o.ExactDict:=by
    rcases hk with ⟨kvs,hk⟩|⟨kvs,hk⟩
    .obtain⟨_,_,_,_,o,_,_,e,ex,_⟩:=I.hok p _ hk;exact⟨o,e,ex⟩
    .obtain⟨_,_,_,_,o,_,_,e,ex,_⟩:=I.hok p _ hk;exact⟨o,e,ex⟩
   obtain⟨o,e,ex⟩:=z;refine⟨⟨o,e,ex.1⟩,λa e2=>?_⟩;cases e2;exact⟨o,e,ex.2.1⟩
  .obtain⟨o,_,_,_,e,ex,_⟩:=I.hok p _ hk;refine⟨⟨o,e,ex.1⟩,λa e2=>?_⟩;cases e2;exact⟨o,e,ex.2.1⟩
 |_=>exact b8 ty
def jle(K:k8y)(T:String)(r:V->List V->Hp->VK->Prop)(to:TE):TE:=λσ H Q=>to σ H λx H1=>tyV K T x H1/\r x [] H1 Q
def tBM(K:k8y)(T:String)(r:V->List V->Hp->VK->Prop)(to:TE)(t:TA):TE:=λσ H Q=>to σ H λx H1=>tyV K T x H1/\t σ H1 λxs H2=>r x xs H2 Q
variable{o e:ai}{es:List ai}{to:TE}{t:TA}{name:af}{apos cpos:aJ}{T id:String}{r:V->List V->Hp->VK->Prop}
theorem jfi (pa:PlainAttrs T) (slot:Slot T name id) (hty:mK (.builtin id)=pure (.type "method_descriptor")) (hm:MtR X id r) (ho:PE X o to)
  (hbase:aL o name X.env (ay o X.env)=ay o X.env:=by rfl) (hline:(apos.endLine==cpos.line)=a7:=by rfl):PE X (.Call (.Attribute o name apos) [] [] cpos) (jle X.K T r to):=by
 intro pins s σ H Q I h;refine j3 hbase hline (thn (ho pins s σ H _ I h) λv s1 ⟨x,H1,I1,r1,ty,q1⟩=>?_);obtain⟨h1,h2⟩:=j4r I1 r1 ty;exact⟨T,id,pa,slot,hty,h1,h2,dX rfl (iP (hm pins s1 σ H1 x [] v [] Q I1 r1 .nil q1))⟩
theorem Wm (pa:PlainAttrs T) (slot:Slot T name id) (hty:mK (.builtin id)=pure (.type "method_descriptor")) (hm:MtR X id r) (ho:PE X o to) (ha:PA X (e::es) t)
  (hbase:aL o name X.env (ay o X.env)=ay o X.env:=by rfl)
  (hfew:((aO cpos (a9 (e::es) X.env)).all (λx=>!x.1)&&(bB cpos (aY [] X.env)).all (λx=>x.1.isSome)
   && decide ((e::es).length+([]:List aZ).length+(if ([]:List aZ).isEmpty then 0 else 1)<30))=a7:=by rfl)
  (hline:(apos.endLine==cpos.line)=a7:=by rfl) (hs:a9 (e::es) X.env=(a4,ay e X.env)::a9 es X.env:=by rfl) (hplain:(aO cpos (a9 es X.env)).any (·.1)=a4:=by rfl) :
  PE X (.Call (.Attribute o name apos) (e::es) [] cpos) (tBM X.K T r to t):=by
 intro pins s σ H Q I h;refine wpAny_Call_method_late hbase hfew hline rfl (thn (ho pins s σ H _ I h) λv s1 ⟨x,H1,I1,r1,ty,q1⟩=>?_);obtain⟨h1,h2⟩:=j4r I1 r1 ty;refine⟨T,id,pa,slot,hty,h1,h2,?_⟩;have hA:=ha cpos pins s1 σ H1 _ I1 q1;rw[hs]at hA ⊢;refine dX (by show(a4 || (aO cpos (a9 es X.env)).any (·.1))=a4;rw[hplain]<;>rfl) (iD ?_);exact thn hA λus s2 ⟨vs,H2,I2,r2,q2⟩=>hm pins s2 σ H2 x vs v us Q I2 r1 r2 q2
/- xs.append(e),list.index on a module's tuple .. are MtR facts of 06m -/
end
def MtM(X:Cx)(id:String)(r:V->List V->Hp->VK->Prop):Prop :=
 ∀(pins:k90) (s:ae) (σ:St) (H:Hp) (x:V) (xs:List V) (v:a8) (us:List a8) (Q:VK),Inv X pins σ H s->RelV x v->Vals xs us->r x xs H Q ->
  ar (aw X.prog X.w) X.A (call (.builtin id) (v::us)) (EP X pins σ Q) X.xe s
theorem Vals.one{x:V}{us:List a8}(h:Vals [x] us):∃u,us=[u]/\RelV x u:=by cases h with|cons r t=>cases t;exact⟨_,rfl,r⟩
theorem Vals.two:∀{x y:V}{us:List a8},Vals [x,y] us->∃u v,us=[u,v]/\RelV x u/\RelV y v
 |_,_,_,.cons r (.cons q .nil)=>⟨_,_,rfl,r,q⟩
theorem Vals.dropLast{xs:List V}{us:List a8}(h:Vals xs us):Vals xs.dropLast us.dropLast:=by
 induction h with
 |nil=>exact .nil
 |cons r t ih =>
  cases t with
  |nil=>exact .nil
  |cons q t'=>exact .cons r ih
theorem Vals.reverse{xs:List V}{us:List a8}(h:Vals xs us):Vals xs.reverse us.reverse:=by
 induction h with
 |nil=>exact .nil
 |cons r t ih=>rw[jX,jX];exact Vals.append ih (.cons r .nil)
theorem Vals.rep{xs:List V}{us:List a8}(h:Vals xs us):∀k:Nat,Vals (ah k xs).flatten (ah k us).flatten
 |0=>.nil
 |k+1=>by rw[Pn,Pn,Tg,Tg];exact Vals.append h (Vals.rep h k)
theorem foldl_rep(its:List a8):∀(k:Nat)(acc:List a8),
  dm (λx1 x2=>x1++x2) acc.toArray (ah k its.toArray)=(acc++(ah k its).flatten).toArray
 |0,acc=>by simp
 |k+1,acc=>by
  have e:acc.toArray++its.toArray=(acc++its).toArray:=by simp
  have e2:(acc++its)++(ah k its).flatten=acc++(ah (k+1) its).flatten:=by rw[Pn,Tg,Tw]
  rw[<-e2,<-foldl_rep its k (acc++its),<-e,Pn,cq]
section
variable{X:Cx}{pins:k90}{σ:St}{H:Hp}{s:ae}{l b:aa}{xs ys zs:List V}
theorem Inv.lset{its its':List a8}{n:Nat}{f:Array a8->Array a8}{t':Nat}(I:Inv X pins σ H s)(hH:H l=a3 (.lst xs))
  (e:s.heap.get? l=a3 { cls:=.type "list",data:=.seq its.toArray n }) (hf:f its.toArray=its'.toArray) (hv:Vals ys its') (hz:ys.length<=aq) :
  Inv X pins σ (upd H l (.lst ys)) { s with heap:=s.heap.update l (dq f),toks:=t' }:=by
 have q:=PySem.IsL.update e f;rw[hf]at q;refine I.write (x:=l) (e:=l) (by rw[hH];exact trivial) (.inl rfl) (λb' u hb hu=>(il s.heap (dq f) (c8 hb)).trans hu) ⟨_,q⟩ ?_;exact⟨hz,its',_,hv,q⟩
theorem Inv.lnew{its:List a8}{t':Nat}(I:Inv X pins σ H s)(hv:Vals ys its)(hz:ys.length<=aq) :
  Inv X pins σ (upd H s.heap.objs.size (.lst ys)) { s with heap:=s.heap.push { cls:=.type "list",data:=.seq its.toArray },toks:=t' } :=
 I.laid (λ_ _ q=>xn _ q) (X3 _) ⟨hz,its,0,hv,X4 _ rfl⟩
theorem Inv.fresh(I:Inv X pins σ H s):H s.heap.objs.size=a5:=I.hok.fresh (X3 _)
theorem Inv.lstM(I:Inv X pins σ H s)(hH:H l=a3 (.lst xs)):xs.length<=aq/\∃(its:List a8)(n:Nat),Vals xs its/\xs.length=its.length/\s.heap.get? l=a3 { cls:=.type "list",data:=.seq its.toArray n }:=by obtain⟨z,its,n,r,e⟩:=I.hok l _ hH;exact⟨z,its,n,r,r.length,e⟩
theorem Ey{n:Nat}(h:n<=aq):bM n=a4:=by unfold bM;exact decide_eq_false nofun
end
section
variable{X:Cx}
def jc3:V->List V->Hp->VK->Prop:=λx vs H Q=>∃l xs y,x=.ref l/\vs=[y]/\H l=a3 (.lst xs)/\xs.length<aq/\Q .non (upd H l (.lst (xs++[y])))
theorem Li:MtM X "list.append" jc3:=by intro pins s σ H x vs v us Q I rx rv h;obtain⟨l,xs,y,rfl,rfl,hH,hz,q⟩:=h;cases rx;obtain⟨u,rfl,ru⟩:=rv.one;obtain⟨z,its,n,r,hl,e⟩:=I.lstM hH;refine bD iB ⟨_,e,rfl⟩ F.entry_list_append (F.args_list_append_2 _ _) (PySem.list_append l its.toArray n u (by rw[X5];omega)) ⟨e,?_⟩;refine⟨.non,_,I.lset (its':=its++[u]) hH e (by simp) (r.append (.cons ru .nil)) ?_,rfl,q⟩;rw[X6,List.length_singleton];omega
def jc2:V->List V->Hp->VK->Prop:=λx vs H Q=>∃l b xs zs,x=.ref l/\vs=[.ref b]/\H l=a3 (.lst xs)/\H b=a3 (.lst zs)/\xs.length+zs.length<=aq/\Q .non (upd H l (.lst (xs++zs)))
theorem j62:MtM X "list.extend" jc2:=by
 intro pins s σ H x vs v us Q I rx rv h;obtain⟨l,b,xs,zs,rfl,rfl,hH,hB,hz,q⟩:=h;cases rx;obtain⟨u,rfl,ru⟩:=rv.one;cases ru;obtain⟨z,its,n,r,hl,e⟩:=I.lstM hH;obtain⟨z2,its2,n2,r2,hl2,e2⟩:=I.lstM hB;have hsz:its.toArray.size+its2.toArray.size<=aq:=by rw[X5,X5];omega
 have hlong:¬(!its.toArray.isEmpty&&bM (its.toArray.size+its2.toArray.size))=a7:=by rw[Ey hsz,gP];exact xf
 refine bD iA ⟨_,e,rfl⟩ F.entry_list_extend (F.args_list_extend_2 _ _)
  (AutoSeq1.list_extend_list_list_0 l its.toArray n b its2.toArray n2 hlong (by rw[X5];omega) nofun) ⟨e,e2,?_⟩
 refine⟨.non,_,I.lset (its':=its++its2) hH e (by simp) (r.append r2) ?_,rfl,q⟩;rw[X6];omega
def jlr:R2:=λx y H Q=>∃l k xs,x=.ref l/\y=.int k/\H l=a3 (.lst xs)/\-(2^63)<=k/\k<2^63/\xs.length*k.toNat<=aq /\
 ∀p,H p=a5->Q (.ref p) (upd H p (.lst (ah k.toNat xs).flatten))
theorem len_rep{α:Type}(xs:List α)(k:Nat):(ah k xs).flatten.length=k*xs.length:=by
 induction k with
 |zero=>simp
 |succ k ih=>rw[Pn,Tg,X6,ih,lS,Nat.add_comm]
theorem jfp:OpR X (bc .Mult) jlr:=by
 intro pins s σ H x y v u Q I rx ry h;obtain⟨l,k,xs,rfl,rfl,hH,h1,h2,hz,q⟩:=h;cases rx;obtain⟨t,rfl⟩:=ry;obtain⟨z,its,n,r,hl,e⟩:=I.lstM hH;have hlen:its.toArray.size*k.toNat<=aq:=by rw[X5,<-hl];exact hz
 have hcap:¬its.toArray.size*k.toNat>(2^63-1)/8:=by
  have:(aq:Nat)<=(2^63-1)/8:=by decide
  omega
 have hfit:¬(!Builtin.List.listFitsIndex k)=a7:=by rw[fitsIndex_both h1 h2];exact xf
 have hlong:¬bM (its.toArray.size*k.toNat)=a7:=by rw[Ey hlen];exact xf
 have hnew:dm (λx1 x2=>x1++x2) #[] (ah (if its.toArray.isEmpty=a7 then 0 else k.toNat) its.toArray)=(ah k.toNat its).flatten.toArray:=by
  have f0:∀m:Nat,dm (λx1 x2=>x1++x2) #[] (ah m its.toArray)=(ah m its).flatten.toArray:=λm=>by have:=foldl_rep its m [];rw[cW]at this;exact this
  rw[f0];cases its with
  |nil=>simp
  |cons a r'=>rw[if_neg (by simp)]
 refine iO (T:="list") (U:="int") (by decide) ⟨_,e,rfl⟩ (λs'=>gn s' k t) noFill_list_mul lh eO repeat_list F.slot_int_index.lookup
  (bD eO (gn s k t) kT (kP _ _) (int___rmul___int_list k t l its.toArray n)
   ⟨e,rfl,⟨_,e,rfl⟩,bD F.slot_list_mul ⟨_,e,rfl⟩ F.entry_list_mul (F.args_list_mul_2 _ _) (AutoListH.list___mul___list_int_3 l its.toArray n k t hfit hcap hlong) ⟨e,?_⟩⟩)
 rw[hnew];exact⟨.ref _,_,I.lnew (t':=s.toks) (r.rep k.toNat) (by rw[len_rep,fX];exact hz),rfl,q _ I.fresh⟩
end
section
variable{prog:au}{w:aA}{A:aB}{E:k8z}{s:ae}
end
section
variable{X:Cx}
end
end L2
namespace Att
open PySem PySem.W PySem.Calls PyProof.Rows
theorem Nu{P:mP}{h:aD}:∀(ns:List Int)(vs:List a8),WellAll P h vs (ns.map WData.int)->de vs ns:=by
 intro ns;induction ns with
 |nil =>intro vs w;rw[Ph]at w;cases w;exact .nil
 |cons n ns ih =>
  intro vs w;rw[xu]at w;cases w with
  |cons a b =>cases a;exact .cons _ _ (ih _ b)
theorem j5b{l:dF}{n:Nat}(hn:l.most=a3 n){P:mP}{h:aD}{args:List WData}{vals:List a8}
  (hpre:l.row.toRowW.claim.pre args=a7) (hwl:WellAll P h vals args) :
  ∃a vs ns,vals=[aC a]/\args=[WData.list (ns.map WData.int)]/\h.get? a=a3 { cls:=.type "list",data:=.seq vs.toArray }/\de vs ns/\ns.length<=n:=by
 have hsh:WShape.hasAll [] args [.list .int]=a7:=(pre_splitW hpre).1;have hc:l.pre.holds [] { args:=args }=a7:=(pre_splitW hpre).2;obtain⟨d,r,rfl,h1,h2⟩:=hasAllW_cons hsh;obtain rfl:=hasAllW_nil h2;obtain⟨xs,rfl,h3⟩:=hasW_list h1;obtain⟨ns,rfl⟩:=items_int h3;have hlen:ns.length<=n:=by
  unfold OpenLaw.pre at hc;have h4:(WTm.not (.lt (.lit (.int (n:Int))) (.len (.arg 0)))).holds [] { args:=[.list (ns.map .int)] }=a7:=by have h4:=(holds_andW hc).1;rw[hn]at h4;exact h4
  have h5:=condW_of h4 (w_not (w_lt w_lit (w_len_list (w_arg rfl))));rw[xj]at h5;refine Nat.le_of_not_lt λq=>?_;have q':(n:Int)<((ns.length:Nat):Int):=by omega
  first
   |(rw[decide_eq_true q']at h5;exact absurd h5 (by decide))
   |(simp at h5;omega)
 cases hwl with
 |cons w1 w2 =>
  cases w2;cases w1 with
  |list ho hall=>exact⟨_,_,ns,rfl,rfl,ho,Nu ns _ hall,hlen⟩
theorem j5l(l:dF)(args:List WData):l.row.toRowW.claim.post args (.bool a7) args=a7 :=
 postW_of (r:=l.row.toRowW) (X:=(a7==a7))
  (show WShape.has [] (.bool a7) .bool=a7 by first|rfl|decide|simp[WShape.has,WShape.arms,WShape.armsAll])
  (show(WTm.eq .res (.lit (.bool a7))).value [] { args:=args,res:=a3 (.bool a7),after:=args }=a3 (.bool (a7==a7))from w_eq_bool (w_res rfl) w_lit) rfl
theorem attach_call{l:dF}{n:Nat}{q:au}{loose:List af}{XP:(af->Option a8)->aD->Prop}{YP:aA->aD->Prop}{d:DefRec}
  (hn:l.most=a3 n) (hdf:d.params.defaults=[])
  (call:∀(w:aA)(s₀ s₁:ae)(mg mb:k91)(fa:aa)(o:cE)(pm cd doc:a8)(a:aa) (vs:List a8) (ns:List Int),
   Ground q loose [] XP w s₀ mg mb s₁.heap->YP w s₁.heap ->
   s₁.heap.get? fa=a3 o->o.data=.func (docDef d.name d.params d.body d.scope pm cd doc)->s₁.heap.CodeRec cd d.name->mg d.name=a3 (.ref fa) ->
   s₁.heap.get? a=a3 { cls:=.type "list",data:=.seq vs.toArray }->de vs ns->ns.length<=n->s₁.gens = #[] ->
   bK (aw l.prog w) gJ (.call (.ref fa) ⟨[.ref a],[]⟩) (λr s'=>r=.ok (.ret (.bool a7))/\OldK s₁.heap s'.heap/\s'.os=s₁.os/\eA s'.gens) s₁) :
  iR q loose XP YP l.row.toRowW d [] (λf vs=>iW f vs):=by
 intro w s₀ s₁ mg mb G Y fa o pm cd doc dV kV ho hd hcd hD hmg hg args vals as hpre hlay hrd hwl hlo;obtain rfl:dV=.none:=Dflts.none hD hdf;obtain rfl:kV=.none:=Dflts.noKw hD;obtain⟨a,vs,ns,rfl,rfl,hobj,hints,hlen⟩:=j5b hn hpre hwl;refine enter_call (bA (call w s₀ s₁ mg mb fa o pm cd doc a vs ns G Y ho (fd_plain hd) hcd hmg hobj hints hlen hg) λr s' hq=>?_);obtain⟨rfl,h2,h3,h4⟩:=hq;exact⟨.inl ⟨.bool a7,.bool a7,[],rfl,λ_=>rfl,.bool a7,j5l l _,λ_=>⟨List.Pairwise.nil,λ_ hm=>(nomatch hm)⟩⟩,h2,h3,h4⟩
section
variable{prog:au}{w:aA}{A:aB}{E:k8z}{s:ae}{K:mF}
end
end Att
namespace L2
open PySem PySem.Spec PyProof.Rows
theorem Cz:∀{vs:List a8}{ns:List Int},de vs ns->Vals (ns.map V.int) vs
 |_,_,.nil=>.nil
 |_,_,.cons n t h=>.cons ⟨t,rfl⟩ (Cz h)
def Only(ts:List (aa×af))(H:Hp):Prop:=(∀b,H b=a5\/(∃o xs,H b=a3 (.frz o (.lst xs)))\/∃q,(b,q)∈ts/\H b=a3 (.cod q))/\∀t∈ts,H t.1=a3 (.cod t.2)
def jaa(ts:List (aa×af))(h:aD):Prop:=(ts.map (·.1)).Nodup/\∀t∈ts,(∃c,jK h c t.1)/\h.get? t.1=a3 (W.tabObj #[])
theorem j1q:∀{ts:List (aa×af)} {b:aa} {q:af},ts.lookup b=a3 q->(b,q)∈ts
 |p::r,b,q,h=>by
  rw[Xj]at h;cases e:b==p.1 with
  |true=>rw[e]at h;cases h;rw[beq_iff_eq.mp e];exact xr ..
  |false=>rw[e]at h;exact kj _ (j1q h)
theorem lookup_tab:∀{ts:List (aa×af)},(ts.map (·.1)).Nodup->∀t∈ts,ts.lookup t.1=a3 t.2
 |[],_,_,h=>by cases h
 |p::r,nd,t,ht=>by
  rw[xu]at nd;rcases xm.mp ht with e|ht
  .subst e;rw[Xj,beq_self_eq_true]
  .have ne:(t.1==p.1)=a4:=beq_eq_false_iff_ne.mpr λz=>(Xk.mp nd).1 (z▸f9 ht);rw[Xj,ne];exact lookup_tab (Xk.mp nd).2 t ht
theorem j8t{P:au}{w:aA}{K:k8y}{mg mb:k91}{CX:CXT}{k:Nat}{fa a:aa}{fd:aG}{x:af}{sp:Sp}{s₁:ae}{vs:List a8}{ns:List Int}{ts:List (aa×af)}
  (KX:K.In s₁.heap) (hns:s₁.heap.Ns ak mg) (hb:s₁.heap.Ns dS mb) (hbb:∀x:af,x ≠ "__name__"->mb x=cR x) (hlim:s₁.heap.NoLimit)
  (hbm:∃bm ob,mg "__builtins__" = a3 (.ref bm)/\bm≠dS/\s₁.heap.get? bm=a3 ob/\ob.cls=.type "module"/\ob.dict=a3 dS/\ob.data=.plain) (hT:jaa ts s₁.heap) (hK0:W.noTabs K=a7) (hg:s₁.gens = #[])
  (ha:s₁.heap.get? a=a3 { cls:=.type "list",data:=.seq vs.toArray }) (hi:de vs ns) (hl:ns.length<=aq) (hr:Room k gJ)
  (F:∀base:aD,K.In base->base.Ns ak mg->FnOk P w K mg base CX k fa fd [x] sp) (hbind:∀(s:ae)(u:a8),dD s fd ⟨[u],[]⟩ [(x,u)])
  (hsp:∀H:Hp,Only ts H->SqL K H a (ns.map V.int)->sp [.ref a] H (λv H'=>v=.bl a7/\∀b o,H b=a3 o->H' b=a3 o) λ_ _ _=>False)
  (hCX:∀H e s',CX [] H s₁ (λ_ _ _=>False) e s'->False) :
  bK (aw P w) gJ (.call (.ref fa) ⟨[.ref a],[]⟩) (λr s'=>r=.ok (.ret (.bool a7))/\OldK s₁.heap s'.heap/\s'.os=s₁.os/\eA s'.gens) s₁:=by
 have rv:=Cz hi;have lenV:=hi.length;have at_:∀{q:af}{b:aa},(b,q)∈ts->s₁.heap.get? b=a3 (W.tabObj #[]):=λ{q b} h=>(hT.2 _ h).2;have core:∀H:Hp,Only ts H->SqL K H a (ns.map V.int)->HOk P w H s₁.heap->(∀b,H b≠a5->b=a\/∃q,(b,q)∈ts)->(H a≠a5->K.lookup a=a5) ->
   bK (aw P w) gJ (.call (.ref fa) ⟨[.ref a],[]⟩) (λr s'=>r=.ok (.ret (.bool a7))/\OldK s₁.heap s'.heap/\s'.os=s₁.os/\eA s'.gens) s₁:=by
  intro H hO hS hok hA hK;have base_of:∀{b:aa}{o:cE},s₁.heap.get? b=a3 o->H b=a5->(Wq s₁.heap H).get? b=a3 o:=λe n=>j93 e n;have noA:∀{b:aa}{o:cE},s₁.heap.get? b=a3 o->(∀vs n,o.data≠.seq vs n)->(∀vs,o.data≠.fields vs)->H b=a5:=λ{b o} e d d2=>by
   cases q:H b with
   |none=>rfl
   |some u =>
    rcases hA b (by rw[q];simp)with e'|⟨q',e'⟩
    .subst e';rw[ha]at e;cases e;exact absurd rfl (d _ _)
    .rw[at_ e']at e;cases e;exact absurd rfl (d2 _)
  have nsK:∀{b:aa}{m:k91},s₁.heap.Ns b m->(Wq s₁.heap H).Ns b m:=λ{b m} ⟨o,es,ep,e,d,r⟩=>⟨o,es,ep,base_of e (noA e (λ_ _ z=>by rw[d]at z;cases z) λ_ z=>by rw[d]at z;cases z),d,r⟩
  have hKb:K.In (Wq s₁.heap H):=λb o e=>base_of (KX b o e) (by
   cases q:H b with
   |none=>rfl
   |some u =>
    rcases hA b (by rw[q];simp)with e'|⟨q',e'⟩
    .subst e'
     rw[hK (by rw[q];simp)]at e;cases e
    .have e2:=KX b o e
     rw[at_ e']at e2
     have h2:=Xq.mp hK0 (b,o) (W.mem_of_lookupK e)
     cases e2
     exact absurd (show a4=a7 from h2) xf)
  have hM:Mod K mg (Wq s₁.heap H):=⟨hKb,nsK hns,⟨mb,nsK hb,hbb⟩,(let ⟨mc,h1,h2⟩:=hlim;⟨mc,nsK h1,h2⟩),
   let ⟨bm,ob,b1,b2,b3,b4,b5,b6⟩:=hbm;⟨bm,ob,b1,b2,base_of b3 (noA b3 (λ_ _ z=>by rw[b6]at z;cases z) λ_ z=>by rw[b6]at z;cases z),b4,b5,b6⟩⟩
  have e0:Env0 P w K mg (Wq s₁.heap H) gJ [] s₁ H:=⟨rfl,hM,λb o e=>jci e,Nat.le_of_eq (j6d _ _),trivial,λb hb=>absurd (show b∈([]:List aa)from hb) (by simp),hok,.of_eq hg⟩
  refine bA ((F _ hKb (nsK hns)).run gJ [] s₁ H ⟨[.ref a],[]⟩ [.ref a] [.ref a] _ _ hr e0 (hbind s₁ (.ref a)) (.cons rfl .nil) (hsp H hO hS)) λr s' h=>?_;cases r with
  |error e=>exact(hCX H e s' h).elim
  |ok fl =>
   cases fl with
   |next=>exact b8 h
   |brk=>exact b8 h
   |cont=>exact b8 h
   |ret u =>
    obtain⟨v,H',os,bare,un,hok',r',q,sm⟩:=h;have q':v=.bl a7:=q;subst q';obtain rfl:u=bO a7:=r';have main:∀b o,s₁.heap.get? b=a3 o->s'.heap.get? b=a3 o\/((∃q,(b,q)∈ts)/\o=W.tabObj #[]/\∃ps,s'.heap.get? b=a3 (W.tabObj ps)):=λb o e=>by
     cases q:H b with
     |none=>exact .inl (un.keep b o e q (by intro z;exact absurd (show b∈([]:List aa)from z) (by simp)) (by simp))
     |some u =>
      rcases hO.1 b with z|⟨ob,xs,z⟩|⟨q',hq,z⟩
      .rw[q]at z;cases z
      .have z2:=un.frzs b ob _ z;obtain⟨e1,_⟩:=hok b _ z;obtain⟨e2,_⟩:=hok' b _ z2;rw[e]at e1;cases e1;exact .inl e2
      .obtain⟨ps,e2,_⟩:=(show jh P w H' s'.heap b (.cod q')from hok' b _ (sm b _ z))
       rw[at_ hq]at e;exact .inr ⟨⟨q',hq⟩,(ax e).symm,ps,e2⟩
    refine⟨rfl,⟨λb o e=>?_,λb o e=>?_⟩,os,bare⟩
    .rcases main b o e with z|⟨⟨q,hq⟩,rfl,ps,z⟩
     .exact .inl z
     .obtain⟨c,hc⟩:=(hT.2 _ hq).1;exact .inr (.inl ⟨(hc.tab (at_ hq)).isCodeTable,rfl,#[],ps,rfl,by rw[z,Array.empty_append]⟩)
    .rcases main b o e with z|⟨_,_,ps,z⟩
     .exact⟨o,z⟩
     .exact⟨_,z⟩
 have lkT:∀b q,ts.lookup b=a3 q->(b,q)∈ts:=λb q h=>j1q h;have ofT:∀t∈ts,ts.lookup t.1=a3 t.2:=lookup_tab hT.1;have okT:∀(H:Hp) b q,(b,q)∈ts->jh P w H s₁.heap b (.cod q):=λH b q h=>⟨#[],at_ h,trivial,λpos cv z=>by cases z⟩
 cases hk:K.lookup a with
 |some o =>
  have e:=KX a o hk;rw[ha]at e;cases e;refine core (λb=>(ts.lookup b).map HO.cod) ⟨λb=>?_,λt ht=>by show(ts.lookup t.1).map HO.cod=_;rw[ofT t ht];rfl⟩ (.inr ⟨_,vs.toArray,_,hk,rfl,rfl,rfl,by rw[X5,lenV];exact hl,by simpa using rv⟩) (λb u z=>?_) (λb z=>?_) λz=>?_
  .cases e:ts.lookup b with
   |none=>exact .inl (by show(ts.lookup b).map HO.cod=_;rw[e];rfl)
   |some q=>exact .inr (.inr ⟨q,lkT b q e,by show(ts.lookup b).map HO.cod=_;rw[e];rfl⟩)
  .obtain⟨q,e,rfl⟩:=Xu.mp z;exact okT _ b q (lkT b q e)
  .cases e:ts.lookup b with
   |none=>exact absurd (by show(ts.lookup b).map HO.cod=_;rw[e];rfl) z
   |some q=>exact .inr ⟨q,lkT b q e⟩
  .cases e:ts.lookup a with
   |none=>exact absurd (by show(ts.lookup a).map HO.cod=_;rw[e];rfl) z
   |some q=>have:=at_ (lkT a q e);rw[ha]at this;cases this
 |none =>
  have na:∀q,(a,q)∉ts:=λq h=>by have:=at_ h;rw[ha]at this;cases this
  refine core (λb=>if b=a then a3 (.frz { cls:=.type "list",data:=.seq vs.toArray } (.lst (ns.map V.int))) else(ts.lookup b).map HO.cod) ⟨λb=>?_,λt ht=>?_⟩ (.inl (.inr ⟨{ cls:=.type "list",data:=.seq vs.toArray },if_pos rfl⟩)) (λb u z=>?_) (λb z=>?_) λ_=>hk
  .by_cases hb:b=a
   .exact .inr (.inl ⟨_,_,if_pos hb⟩)
   .cases e:ts.lookup b with
    |none=>exact .inl (by show(if b=a then _ else _)=_;rw[if_neg hb,e];rfl)
    |some q=>exact .inr (.inr ⟨q,lkT b q e,by show(if b=a then _ else _)=_;rw[if_neg hb,e];rfl⟩)
  .have nb:t.1≠a:=λz=>na t.2 (z▸ht);show(if t.1=a then _ else _)=_;rw[if_neg nb,ofT t ht];rfl
  .by_cases hb:b=a
   .have z':=(if_pos hb).symm.trans z;cases z';subst hb;exact⟨ha,by rw[xj];exact hl,vs,_,rv,ha⟩
   .have z':=(if_neg hb).symm.trans z;obtain⟨q,e,rfl⟩:=Xu.mp z';exact okT _ b q (lkT b q e)
  .by_cases hb:b=a
   .exact .inl hb
   .cases e:ts.lookup b with
    |none=>exact absurd (by show(if b=a then _ else _)=_;rw[if_neg hb,e];rfl) z
    |some q=>exact .inr ⟨q,lkT b q e⟩
theorem walk_of{l:dF}{n k:Nat}{q:au}{loose:List af}{XP:(af->Option a8)->aD->Prop}{YP:aA->aD->Prop}{d:DefRec}{K:mP->k8y}{CX:aA->CXT}{sp:aA->Sp}{x:af}{ts:aA->List (aa×af)}
  (hn:l.most=a3 n) (hn2:n<=aq) (hdf:d.params.defaults=[]) (hr:Room k gJ)
  (hY:∀(w:aA)(h:aD),YP w h->(K w.params).In h/\jaa (ts w) h) (hK0:∀w:aA,W.noTabs (K w.params)=a7)
  (F:∀(w:aA)(mg:k91)(fa:aa)(h:aD),(K w.params).In h->h.Ns ak mg->mg d.name=a3 (.ref fa) ->
   ∃fd:aG,(∀(s:ae)(u:a8),dD s fd ⟨[u],[]⟩ [(x,u)]) /\
    ∀base:aD,(K w.params).In base->base.Ns ak mg->FnOk l.prog w (K w.params) mg base (CX w) k fa fd [x] (sp w))
  (hsp:∀(w:aA)(H:Hp)(a:aa)(ns:List Int),ns.length<=n->Only (ts w) H->SqL (K w.params) H a (ns.map V.int)->sp w [.ref a] H (λv H'=>v=.bl a7/\∀b o,H b=a3 o->H' b=a3 o) λ_ _ _=>False)
  (hCX:∀(w:aA)(H:Hp)(s:ae)(e:a8)(s':ae),CX w [] H s (λ_ _ _=>False) e s'->False) :
  iR q loose XP YP l.row.toRowW d [] (λf vs=>iW f vs):=by
 refine Att.attach_call hn hdf λw s₀ s₁ mg mb fa o pm cd doc a vs ns G Y ho hd hcd hmg hobj hints hlen hg=>?_;obtain⟨KX,hT⟩:=hY w _ Y;obtain⟨fd,hb,hF⟩:=F w mg fa _ KX G.T.g hmg;exact j8t KX G.T.g G.T.b G.T.builtins G.T.nolimit G.T.bmain hT (hK0 w) hg hobj hints (Xi hlen hn2) hr hF hb (λH hO hS=>hsp w H a ns hlen hO hS) λH e s'=>hCX w H s₁ e s'
end L2
/- THE LAST THEOREM (shape;LID,My.* are yours):
 My.Adr: a structure of the addresses that your layer names (classes,functions);My.Txt K t: a structure (Prop) of the equations over K;
 My.txt_mk:{K} {implicit addresses ..} (e1:dz K ak "law" = a3 (a3 (.ref f))) (e2:K.lookup f=a3 ⟨oc,od,.func (fnOf "law" "law" params body scope dV kV doc pm an cdv ct),sl⟩) (e3:codeIn K cdv "law" = a7) ..:∃t,My.Txt K t
(the tactic k_is has no namespace: write k_is) -/
namespace L2
open PySem PySem.Spec PyProof.Rows
noncomputable def qg(s:aP):dG:=match s with
 |.FunctionDef _ a _ _ _ _ _ _ _ _=>a
 |_=>{ posonlyargs:=[],args:=[],vararg:=a5,kwonlyargs:=[],kw_defaults:=[],kwarg:=a5,defaults:=[] }
noncomputable def jd(s:aP):List aP:=match s with
 |.FunctionDef _ _ b _ _ _ _ _ _ _=>b
 |_=>[]
noncomputable def j0(s:aP):b9:=match s with
 |.FunctionDef _ _ _ _ _ _ sc _ _ _=>sc
 |_=>{ kind:=.function,names:=[],isGenerator:=a4,isCoroutine:=a4 }
noncomputable abbrev CX0:CXT:=λ_ _ _ _ _ _=>False
noncomputable abbrev E0:XK:=λ_ _ _=>False
theorem Ky{X:Cx}:j0z CX0 X E0:=λ_ _ _ _ _ _ _ h=>h.elim
structure Fun(K:k8y)(x qual:af)(st:aP)(f:aa)(fd:aG):Prop where
 ex:∃(oc:a8)(od:Option aa)(dV kV doc pm:a8)(an:Option aa)(cdv ct:a8)(osl:Array (Option a8)),
  fd=W.fnOf x qual (qg st) (jd st) (j0 st) dV kV doc pm an cdv ct/\K.lookup f=a3 ⟨oc,od,.func fd,osl⟩/\W.codeIn K cdv qual=a7
 kp:W.keepIn K (.ref f)=a7
section
variable{P:au}{w:aA}{K:k8y}{mg:k91}{base:aD}
theorem Fun.binds{x qual:af}{st:aP}{f:aa}{kV doc pm:a8}{an:Option aa}{cdv ct:a8}{ps:List af}(F:Fun K x qual st f (W.fnOf x qual (qg st) (jd st) (j0 st) .none kV doc pm an cdv ct))
  (h:∀(kV doc pm:a8)(an:Option aa)(cdv ct:a8)(us:List a8),us.length=ps.length->cD (W.fnOf x qual (qg st) (jd st) (j0 st) .none kV doc pm an cdv ct) ⟨us,[]⟩=pure (ps.zip us)):Binds K (W.fnOf x qual (qg st) (jd st) (j0 st) .none kV doc pm an cdv ct) ps []:=.all (h kV doc pm an cdv ct)
theorem W9{x qual:af}{st:aP}{f:aa}{oc:a8}{od an:Option aa}{osl:Array (Option a8)}{dV kV doc pm cdv ct:a8}(l:K.lookup f=a3 ⟨oc,od,.func (W.fnOf x qual (qg st) (jd st) (j0 st) dV kV doc pm an cdv ct),osl⟩)
  (c:W.codeIn K cdv qual=a7) (k:W.keepIn K (.ref f)=a7):Fun K x qual st f (W.fnOf x qual (qg st) (jd st) (j0 st) dV kV doc pm an cdv ct):=⟨⟨oc,od,dV,kV,doc,pm,an,cdv,ct,osl,rfl,l,c⟩,k⟩
end
section
variable{X:Cx}
end
theorem j3y{A B:Prop}(h:B):if a4=a7 then A else B:=by rw[if_neg xf];exact h
theorem j3x{A B:Prop}(h:A):if a7=a7 then A else B:=by rw[if_pos rfl];exact h
def j4(H H':Hp):Prop:=∀b o,H b=a3 o->H' b=a3 o
theorem j4.refl(H:Hp):j4 H H:=λ_ _ h=>h
theorem j4.trans{H H1 H2:Hp}(a:j4 H H1)(b:j4 H1 H2):j4 H H2:=λc o h=>b c o (a c o h)
theorem j4.free{H H':Hp}(e:j4 H H'){l:aa}(h:H' l=a5):H l=a5:=by
 cases q:H l with
 |none=>rfl
 |some o =>rw[e l o q]at h;cases h
theorem j4.seq{K:k8y}{H H':Hp}{a:aa}{xs:List V}(e:j4 H H')(h:SqL K H a xs):SqL K H' a xs:=by
 rcases h with (h|⟨o,h⟩)|h
 .exact .inl (.inl (e _ _ h))
 .exact .inl (.inr ⟨o,e _ _ h⟩)
 .exact .inr h
set_option genInjectivity true in
inductive D where
 |non
 |bl (b:Bool)
 |int (i:Int)
 |str (x:af)
 |tup (ds:List D)
 |lst (ds:List D)
 |dct (ks:List (List Int)) (ds:List D)
 |sct (kvs:List (af×Int))
 |fn (x:af) (cs:List D)
noncomputable def kvI(kvs:List (af×Int)):List (Key×V):=kvs.map λp=>(.inr p.1,.int p.2)
noncomputable def ju(x:af):af:=x ++ ".<locals>." ++ "<lambda>"
noncomputable abbrev Tx:=dG×ai×b9
noncomputable def jlx:ai->Option Tx
 |.Lambda a b sc _=>a3 (a,b,sc)
 |.Call _ es _ _=>match es.getLast? with
  |some (.Lambda a b sc _)=>a3 (a,b,sc)
  |_=>a5
 |_=>a5
noncomputable def Bj(b:List aP):Option Tx:=match b.getLast? with
 |some (.Return (a3 e) _)=>jlx e
 |_=>a5
noncomputable def Z7(K:k8y)(x:af):Option Tx:=match W.nsIn K ak x with
 |some (a3 (.ref f))=>match K.lookup f with
  |some ⟨_,_,.func fd,_⟩=>match fd.body with
   |.stmts b=>Bj b
   |_=>a5
  |_=>a5
 |_=>a5
noncomputable def v7(sc:b9):List af:=((sc.names.filter λp=>p.2==.free).map (·.1)).reverse
def vz(H:Hp):List aa->List V->Prop
 |[],vs=>vs=[]
 |c::cs,vs=>∃v r o u,vs=v::r/\H c=a3 (.frz o (.own 0))/\o.data=.cell (a3 u)/\RelV v u/\vz H cs r
theorem vz.mono{H H':Hp}(g:j4 H H'):∀{cs:List aa}{vs:List V},vz H cs vs->vz H' cs vs
 |[],_,h=>h
 |_::_,_,⟨v,r,o,u,e,h,d,rv,l⟩=>⟨v,r,o,u,e,g _ _ h,d,rv,l.mono g⟩
structure LamAt(K:k8y)(H:Hp)(x:af)(a c:aa)(t:Tx)(cl:List (af×aa))(vs:List V):Prop where
 tx:Z7 K x=a3 t
 fo:∃pm ctv,H a=a3 (.frz (W.kla_obj "<lambda>" (ju x) t.1 t.2.1 t.2.2 cl pm c ctv) (.own 0))
 co:∃oc,H c=a3 (.frz oc (.own 0))/\O8 oc (ju x)
 nm:cl.map (·.1)=v7 t.2.2
 nd:(cl.map (·.2)).Nodup
 cs:vz H (cl.map (·.2)) vs
theorem LamAt.mono{K:k8y}{H H':Hp}{x:af}{a c:aa}{tx:Tx}{cl:List (af×aa)}{vs:List V}(g:j4 H H')(h:LamAt K H x a c tx cl vs):LamAt K H' x a c tx cl vs :=
 ⟨h.tx,let ⟨pm,ctv,e⟩:=h.fo;⟨pm,ctv,g _ _ e⟩,let ⟨oc,e,q⟩:=h.co;⟨oc,g _ _ e,q⟩,h.nm,h.nd,h.cs.mono g⟩
noncomputable def del(H:Hp)(A:List aa):Hp:=λb=>if b∈A then a5 else H b
section
variable{H H' F:Hp}{A A':List aa}{a b:aa}{o:HO}
theorem qj(h:b∈A):del H A b=a5:=if_pos h
theorem j6(h:b∉A):del H A b=H b:=if_neg h
theorem of_del(h:del H A b=a3 o):b∉A/\H b=a3 o:=by
 by_cases e:b∈A
 .rw[qj e]at h;cases h
 .rw[j6 e]at h;exact⟨e,h⟩
theorem jf(g:j4 H H'):j4 (del H A) (del H' A):=λb o h=>by obtain⟨n,e⟩:=of_del h;rw[j6 n];exact g b o e
end
theorem j4.seqT{K:k8y}{H H':Hp}{a:aa}{xs:List V}(e:j4 H H')(h:SqT K H a xs):SqT K H' a xs:=by
 rcases h with (h|⟨o,h⟩)|h
 .exact .inl (.inl (e _ _ h))
 .exact .inl (.inr ⟨o,e _ _ h⟩)
 .exact .inr h
mutual
def Enc(K:k8y)(H:Hp):D->V->Prop
 |.non,v=>v=.non
 |.bl b,v=>v=.bl b
 |.int i,v=>v=.int i
 |.str x,v=>v=.str x
 |.tup ds,v=>∃a xs,v=.ref a/\SqT K H a xs/\j5 K H ds xs
 |.lst ds,v=>∃a xs,v=.ref a/\SqL K H a xs/\j5 K H ds xs
 |.dct ks ds,v=>∃(a:aa)(xs:List (List Int×aa×a8)) (ep:Nat) (vs:List V),v=.ref a/\H a=a3 (.dI xs ep)/\ks=(xs.map λx=>x.1)/\(∀x∈xs,SqT K H x.2.1 (x.1.map V.int))/\Vals vs (xs.map λx=>x.2.2)/\j5 K H ds vs
 |.sct kvs,v=>∃a:aa,v=.ref a/\H a=a3 (.dK (kvI kvs))
 |.fn x ds,v=>∃(a c:aa)(tx:Tx)(cl:List (af×aa)) (vs:List V),v=.ref a/\LamAt K H x a c tx cl vs/\j5 K (del H (cl.map (·.2))) ds vs
def j5(K:k8y)(H:Hp):List D->List V->Prop
 |[],xs=>xs=[]
 |d::ds,xs=>∃x r,xs=x::r/\Enc K H d x/\j5 K H ds r
end
mutual
theorem Enc.mono{K:k8y}{H H':Hp}(g:j4 H H'):∀{d:D}{v:V},Enc K H d v->Enc K H' d v
 |.non,_,h=>h
 |.bl _,_,h=>h
 |.int _,_,h=>h
 |.str _,_,h=>h
 |.tup _,_,⟨a,xs,e,q,l⟩=>⟨a,xs,e,g.seqT q,j5.mono g l⟩
 |.lst _,_,⟨a,xs,e,q,l⟩=>⟨a,xs,e,g.seq q,j5.mono g l⟩
 |.dct _ _,_,⟨a,xs,ep,vs,e,q,ek,kt,rv,l⟩=>⟨a,xs,ep,vs,e,g _ _ q,ek,λx hx=>g.seqT (kt x hx),rv,j5.mono g l⟩
 |.sct _,_,⟨a,e,q⟩=>⟨a,e,g _ _ q⟩
 |.fn _ _,_,⟨a,c,tx,cl,vs,e,q,l⟩=>⟨a,c,tx,cl,vs,e,q.mono g,j5.mono (jf g) l⟩
theorem j5.mono{K:k8y}{H H':Hp}(g:j4 H H'):∀{ds:List D}{xs:List V},j5 K H ds xs->j5 K H' ds xs
 |[],_,h=>h
 |_::_,_,⟨x,r,e,h,l⟩=>⟨x,r,e,Enc.mono g h,j5.mono g l⟩
end
section
variable{K:k8y}{H H':Hp}{ds ds':List D}{xs ys:List V}
theorem j5.length:∀{ds:List D}{xs:List V},j5 K H ds xs->xs.length=ds.length
 |[],_,h=>by cases h;rfl
 |_::_,_,⟨x,r,e,_,l⟩=>by subst e;simp[j5.length l]
theorem j5.get:∀{ds:List D}{xs:List V}{i:Nat}{d:D},j5 K H ds xs->ds[i]?=a3 d->∃x,xs[i]?=a3 x/\Enc K H d x
 |[],_,i,d,_,e=>by simp at e
 |_::_,_,0,d,⟨x,r,e,h,_⟩,q=>by subst e;simp at q;subst q;exact⟨x,rfl,h⟩
 |_::_,_,i+1,d,⟨x,r,e,_,l⟩,q=>by subst e;simp at q;obtain⟨y,hy,hd⟩:=j5.get l q;exact⟨y,by simpa using hy,hd⟩
theorem j5.get':∀{ds:List D}{xs:List V}{i:Nat}{x:V},j5 K H ds xs->xs[i]?=a3 x->∃d,ds[i]?=a3 d/\Enc K H d x
 |[],_,i,d,h,e=>by cases h;simp at e
 |d::_,_,0,y,⟨x,r,e,h,_⟩,q=>by subst e;simp at q;subst q;exact⟨d,rfl,h⟩
 |_::_,_,i+1,y,⟨x,r,e,_,l⟩,q=>by subst e;simp at q;obtain⟨y,hy,hd⟩:=j5.get' l q;exact⟨y,by simpa using hy,hd⟩
theorem j5.append:∀{ds ds':List D}{xs ys:List V},j5 K H ds xs->j5 K H ds' ys->j5 K H (ds++ds') (xs++ys)
 |[],_,_,_,h,h'=>by cases h;exact h'
 |_::_,_,_,_,⟨x,r,e,h,l⟩,h'=>by subst e;exact⟨x,_,rfl,h,j5.append l h'⟩
theorem j5.one{d:D}{x:V}(h:Enc K H d x):j5 K H [d] [x]:=⟨x,[],rfl,h,rfl⟩
theorem j5.take:∀{ds:List D}{xs:List V}(n:Nat),j5 K H ds xs->j5 K H (ds.take n) (xs.take n)
 |[],_,n,h=>by cases h;simp;exact rfl
 |_::_,_,0,⟨x,r,e,h,l⟩=>by simp;exact rfl
 |_::_,_,n+1,⟨x,r,e,h,l⟩=>by subst e;exact⟨x,_,rfl,h,j5.take n l⟩
theorem j5.drop:∀{ds:List D}{xs:List V}(n:Nat),j5 K H ds xs->j5 K H (ds.drop n) (xs.drop n)
 |[],_,n,h=>by cases h;simp;exact rfl
 |_::_,_,0,h=>h
 |_::_,_,n+1,⟨x,r,e,h,l⟩=>by subst e;exact j5.drop n l
theorem j5.rep{ds:List D}{xs:List V}(h:j5 K H ds xs):∀k:Nat,j5 K H (ah k ds).flatten (ah k xs).flatten
 |0=>rfl
 |k+1=>by rw[Pn,Pn,Tg,Tg];exact h.append (j5.rep h k)
theorem j5.ints(ns:List Int):j5 K H (ns.map D.int) (ns.map V.int):=by
 induction ns with
 |nil=>exact rfl
 |cons n ns ih=>exact⟨_,_,rfl,rfl,ih⟩
end
section
variable{H H' F:Hp}{A A':List aa}{a b:aa}{o:HO}
theorem zy:del H []=H:=funext λb=>if_neg (by simp)
theorem jo:j4 (del H A) H:=λ_ _ h=>(of_del h).2
theorem vy(h:∀b,b∈A'->b∈A):j4 (del H A) (del H A'):=λb o e=>by obtain⟨n,e⟩:=of_del e;rw[j6 λz=>n (h b z)];exact e
theorem Yp(h:a∈A):del (upd H a o) A=del H A:=funext λb=>by
 by_cases e:b∈A
 .rw[qj e,qj e]
 .rw[j6 e,j6 e,jb];rintro rfl;exact e h
noncomputable def mrg(A:List aa)(H F:Hp):Hp:=λb=>if b∈A then H b else F b
theorem Jg(h:b∈A):mrg A H F b=H b:=if_pos h
theorem jg(h:b∉A):mrg A H F b=F b:=if_neg h
theorem Z9(h:∀a∈A,F a=a5):del (mrg A H F) A=F:=funext λb=>by
 by_cases e:b∈A
 .rw[qj e,h b e]
 .rw[j6 e,jg e]
theorem Ba(g:j4 (del H A) F):j4 H (mrg A H F):=λb o e=>by
 by_cases z:b∈A
 .rw[Jg z];exact e
 .rw[jg z];exact g b o (by rw[j6 z];exact e)
theorem j7(h:H a=a5):j4 H (upd H a o):=λb u q=>by rw[jb (vd q h)];exact q
end
def Hd(o:Option HO):Prop:=(∃xs,o=a3 (.lst xs))\/∃xs ep,o=a3 (.dI xs ep)
section
variable{X:Cx}{pins:k90}{σ σ':St}{H F:Hp}{s s':ae}{A:List aa}
theorem Inv.noFs(I:Inv X pins σ H s){b:aa}(hb:b∈X.fs):H b=a5:=by
 have q:b∈frs X.stack:=by
  rcases I.ok.stk with e|⟨e,_⟩
  .rw[e];exact hb
  .rw[e];have hb:b∈frs X.outer:=hb;unfold frs at hb ⊢;rw[c9];split
   .exact hb
   .exact kj _ hb
 exact I.stkFree b q
theorem Inv.hide(I:Inv X pins σ H s)(hA:∀a∈A,Hd (H a)):Inv X (pins++qx A s.heap) σ (del H A) s where
 ok:=I.ok
 os:=I.os
 bare:=I.bare
 base:={
  keep:=I.base.keep
  slot:=I.base.slot
  free:=λb o e n hx=>by
   have q:=I.base.free b o e n hx
   by_cases z:b∈A
   .exact qj z
   .rw[j6 z];exact q
  there:=I.base.there
  tups:=λb xs e=>by
   have q:=I.base.tups b xs e
   rw[j6];exact q
   intro z;rcases hA b z with ⟨ys,e'⟩|⟨ys,ep,e'⟩<;>(rw[q]at e';cases e')
  frzs:=λb o u e=>by
   have q:=I.base.frzs b o u e
   rw[j6];exact q
   intro z;rcases hA b z with ⟨ys,e'⟩|⟨ys,ep,e'⟩<;>(rw[q]at e';cases e')
  tbls:=λb ps e=>by
   obtain⟨more,q⟩:=I.base.tbls b ps e
   refine⟨more,?_⟩
   rw[j6];exact q
   intro z;rcases hA b z with ⟨ys,e'⟩|⟨ys,ep,e'⟩<;>(rw[q]at e';cases e') }
 loc:=I.loc
 cell:=I.cell
 free:=by
  by_cases z:X.env.locals∈A
  .exact qj z
  .rw[j6 z];exact I.free
 freeC:=λx c e=>by
  by_cases z:c∈A
  .exact qj z
  .rw[j6 z];exact I.freeC x c e
 pin:=λp hp=>by
  rw[<-Tw]at hp;rcases Pq.mp hp with hp|hp
  .obtain⟨h1,h2,h3⟩:=I.pin p hp;refine⟨h1,?_,h3⟩;by_cases z:p.1∈A
   .exact qj z
   .rw[j6 z];exact h2
  .obtain⟨h1,h2⟩:=Lh hp;rcases hA _ h1 with ⟨xs,e⟩|⟨xs,ep,e⟩
   .refine⟨h2,qj h1,λz=>?_,λz=>?_,λv z=>?_⟩
    .rw[z,I.free]at e;cases e
    .rw[I.noFs z]at e;cases e
    .obtain⟨_,its,n,_,q⟩:=(show jh X.prog X.w H s.heap p.1 (.lst xs)from I.hok _ _ e)
     rw[h2]at q;rw[ax q]at z;cases z
   .refine⟨h2,qj h1,λz=>?_,λz=>?_,λv z=>?_⟩
    .rw[z,I.free]at e;cases e
    .rw[I.noFs z]at e;cases e
    .obtain⟨_,_,_,ob,es,q,_,qd,_⟩:=(show jh X.prog X.w H s.heap p.1 (.dI xs ep)from I.hok _ _ e)
     rw[h2]at q;rw[ax q,qd]at z;cases z
 hok:=λa o e=>by
  obtain⟨n,e⟩:=of_del e;refine jh.stay (I.hok a o e) (λb u _ q=>q) (λb q=>?_) (λb xs q=>?_) (λb _ _ q=>?_)
  .rw[j6];exact q;intro z;rcases hA b z with ⟨ys,e'⟩|⟨ys,ep,e'⟩<;>(rw[q]at e';cases e')
  .rw[j6];exact q;intro z;rcases hA b z with ⟨ys,e'⟩|⟨ys,ep,e'⟩<;>(rw[q]at e';cases e')
  .rw[j6];exact q;intro z;rcases hA b z with ⟨ys,e'⟩|⟨ys,ep,e'⟩<;>(rw[q]at e';cases e')
 len:=I.len
theorem Inv.unhide(I0:Inv X pins σ H s)(hA:∀a∈A,Hd (H a))(I:Inv X (pins++qx A s.heap) σ' F s') :
  (∀a∈A,F a=a5)/\Inv X pins σ' (mrg A H F) s':=by
 have pinned:∀a∈A,∃o,s.heap.get? a=a3 o/\s'.heap.get? a=a3 o/\F a=a5:=λa ha=>by
  have ob:∃o,s.heap.get? a=a3 o:=by
   rcases hA a ha with ⟨xs,e⟩|⟨xs,ep,e⟩
   .obtain⟨_,its,n,_,q⟩:=(show jh X.prog X.w H s.heap a (.lst xs)from I0.hok _ _ e)
    exact⟨_,q⟩
   .obtain⟨_,_,_,o,es,q,_⟩:=(show jh X.prog X.w H s.heap a (.dI xs ep)from I0.hok _ _ e)
    exact⟨_,q⟩
  obtain⟨o,q⟩:=ob;obtain⟨h1,h2,_⟩:=I.pin (a,_) (Xd _ (Xd _ (Qg ha q)));exact⟨_,q,h1,h2⟩
 have hF:∀a∈A,F a=a5:=λa ha=>let ⟨_,_,_,q⟩:=pinned a ha;q;have out:∀{b:aa}{o:HO},F b=a3 o->b∉A:=λ{b o} e z=>by rw[hF b z]at e;cases e
 refine⟨hF,?_⟩;exact{
  ok:=I.ok
  os:=I.os
  bare:=I.bare
  base:={
   keep:=I.base.keep
   slot:=I.base.slot
   free:=λb o e n hx=>by
    by_cases z:b∈A
    .rw[Jg z];exact I0.base.free b o e n hx
    .rw[jg z];exact I.base.free b o e n hx
   there:=I.base.there
   tups:=λb xs e=>by
    have q:=I.base.tups b xs e
    rw[jg (out q)];exact q
   frzs:=λb o u e=>by
    have q:=I.base.frzs b o u e
    rw[jg (out q)];exact q
   tbls:=λb ps e=>by
    obtain⟨more,q⟩:=I.base.tbls b ps e
    exact⟨more,by rw[jg (out q)];exact q⟩ }
  loc:=I.loc
  cell:=I.cell
  free:=by
   by_cases z:X.env.locals∈A
   .rw[Jg z];exact I0.free
   .rw[jg z];exact I.free
  freeC:=λx c e=>by
   by_cases z:c∈A
   .rw[Jg z];exact I0.freeC x c e
   .rw[jg z];exact I.freeC x c e
  pin:=λp hp=>by
   obtain⟨h1,h2,h3⟩:=I.pin p (by rw[<-Tw];exact Xr _ hp)
   refine⟨h1,?_,h3⟩
   by_cases z:p.1∈A
   .rw[Jg z];exact(I0.pin p hp).2.1
   .rw[jg z];exact h2
  hok:=λa o e=>by
   by_cases z:a∈A
   .rw[Jg z]at e
    obtain⟨o',q1,q2,_⟩:=pinned a z
    rcases hA a z with ⟨xs,e'⟩|⟨xs,ep,e'⟩
    .rw[e']at e;cases e
     obtain⟨hl,its,n,r,q⟩:=(show jh X.prog X.w H s.heap a (.lst xs)from I0.hok _ _ e')
     rw[q]at q1;cases q1
     exact⟨hl,its,n,r,q2⟩
    .rw[e']at e;cases e
     obtain⟨z1,z2,z3,ob,es,q,z4⟩:=(show jh X.prog X.w H s.heap a (.dI xs ep)from I0.hok _ _ e')
     rw[q]at q1;cases q1
     exact⟨z1,z2,z3,_,es,q2,z4⟩
   .rw[jg z]at e
    refine jh.stay (I.hok a o e) (λb u _ q=>q) (λb q=>?_) (λb xs q=>?_) (λb _ _ q=>?_)
    .rw[jg (out q)];exact q
    .rw[jg (out q)];exact q
    .rw[jg (out q)];exact q
  len:=I.len }
end
def Qd(X:Cx)(e:ai):TE:=λσ H Q=>∀pins s,Inv X pins σ H s->ar (aw X.prog X.w) X.A (ay e X.env) (EP X pins σ Q) X.xe s
def j80(X:Cx)(e:ai):TT:=λσ H Q=>∀pins s,Inv X pins σ H s->ar (aw X.prog X.w) X.A (gp e X.env (ay e X.env)) (TP X pins σ Q) X.xe s
def Oz(X:Cx)(es:List ai):TA:=λσ H Q=>∀pos pins s,Inv X pins σ H s->ar (aw X.prog X.w) X.A (lz (aO pos (a9 es X.env))) (AP X pins σ Q) X.xe s
def j81(X:Cx)(st:aP):TS:=λD σ H=>∀pins s,Inv X pins σ H s->ar (aw X.prog X.w) X.A (exec st X.env) (SP X pins D) X.xe s
def Yi(X:Cx)(sts:List aP):TS:=λD σ H=>∀pins s,Inv X pins σ H s->ar (aw X.prog X.w) X.A (execs sts X.env) (SP X pins D) X.xe s
def Ej(X:Cx)(tg iter:ai):TI:=λσ H R=>∀pins s,Inv X pins σ H s ->
 ar (aw X.prog X.w) X.A (ay iter X.env) (λv s1=>ar (aw X.prog X.w) X.A (iF v) (PIE X pins σ tg R) X.xe s1) X.xe s
section
variable{X:Cx}{e tg:ai}{es:List ai}{st:aP}{sts:List aP}{σ:St}{H:Hp}
theorem peS:PE X e (Qd X e):=λpins s _ _ _ I h=>h pins s I
theorem ptS:PT X e (j80 X e):=λpins s _ _ _ I h=>h pins s I
theorem paS:PA X es (Oz X es):=λpos pins s _ _ _ I h=>h pos pins s I
theorem psS:PS X st (j81 X st):=λpins s _ _ _ I h=>h pins s I
theorem Wj:PSs X sts (Yi X sts):=λpins s _ _ _ I h=>h pins s I
theorem piS:PI X tg e (Ej X tg e):=λpins s _ _ _ I h=>h pins s I
theorem PE.to{t:TE}(h:PE X e t){Q:VK}(q:t σ H Q):Qd X e σ H Q:=λpins s I=>h pins s σ H Q I q
theorem PT.to{t:TT}(h:PT X e t){Q:Bool->Hp->Prop}(q:t σ H Q):j80 X e σ H Q:=λpins s I=>h pins s σ H Q I q
theorem PA.to{t:TA}(h:PA X es t){Q:List V->Hp->Prop}(q:t σ H Q):Oz X es σ H Q:=λpos pins s I=>h pos pins s σ H Q I q
theorem PS.to{t:TS}(h:PS X st t){D:Ends}(q:t D σ H):j81 X st D σ H:=λpins s I=>h pins s σ H D I q
theorem PSs.to{t:TS}(h:PSs X sts t){D:Ends}(q:t D σ H):Yi X sts D σ H:=λpins s I=>h pins s σ H D I q
theorem PI.to{t:TI}(h:PI X tg e t){R:It->Hp->Prop}(q:t σ H R):Ej X tg e σ H R:=λpins s I=>h pins s σ H R I q
theorem j3e{A:List aa}{Q Q':VK}(hA:∀a∈A,Hd (H a))(h:Qd X e σ (del H A) Q')(hq:∀v F,Q' v F->(∀a∈A,F a=a5)->Q v (mrg A H F)):Qd X e σ H Q :=
 λpins s I=>thn (h _ s (I.hide hA)) λv s' ⟨x,F,I',r,q⟩=>let ⟨n,I2⟩:=I.unhide hA I';⟨x,_,I2,r,hq x F q n⟩
theorem j3d{A:List aa}{R R':It->Hp->Prop}(hA:∀a∈A,Hd (H a))(h:Ej X tg e σ (del H A) R')(hq:∀J F,R' J F->(∀a∈A,F a=a5)->R J (mrg A H F)):Ej X tg e σ H R :=
 λpins s I=>thn (h _ s (I.hide hA)) λv s' h1=>thn h1 λitv s2 ⟨it,fp,tn,J,F,e,I',T,t0,fk,q⟩=>by
  obtain⟨n,I2⟩:=I.unhide hA I';refine⟨it,fp,tn,J,_,e,I2,T,t0,λb hb=>?_,hq J F q n⟩;obtain⟨f0,f1,f2,f3,f4,f5⟩:=fk b hb;refine⟨?_,f1,f2,f3,f4,λp hp=>f5 p (by rw[<-Tw];exact Xr _ hp)⟩;by_cases z:b∈A
  .exfalso;have ob:∃o,s.heap.get? b=a3 o:=by
    rcases hA b z with ⟨xs,e⟩|⟨xs,ep,e⟩
    .obtain⟨_,its,n,_,q⟩:=(show jh X.prog X.w H s.heap b (.lst xs)from I.hok _ _ e)
     exact⟨_,q⟩
    .obtain⟨_,_,_,o,es,q,_⟩:=(show jh X.prog X.w H s.heap b (.dI xs ep)from I.hok _ _ e)
     exact⟨_,q⟩
   obtain⟨o,q⟩:=ob;exact f5 (b,o) (Xd _ (Xd _ (Qg z q))) rfl
  .rw[jg z];exact f0
end
inductive Sl where
 |un
 |val (d:D)
 |own (a:aa) (ds:List D)
 |raw (a:aa) (o:cE) (x:af)
noncomputable abbrev Rho:=List Sl
noncomputable def Sl.addr:Sl->Option aa
 |.own a _=>a3 a
 |_=>a5
noncomputable def owns(ρ:Rho):List aa:=ρ.filterMap Sl.addr
theorem Z1{ρ:Rho}{i:Nat}{a:aa}{ds:List D}(h:ρ[i]?=a3 (.own a ds)):a∈owns ρ:=t6.mpr ⟨_,Xm h,rfl⟩
theorem Vs{ρ:Rho}{a:aa}(h:a∈owns ρ):∃(i:Nat)(ds:List D),ρ[i]?=a3 (.own a ds):=by
 obtain⟨s,hs,e⟩:=t6.mp h;obtain⟨i,hi⟩:=List.mem_iff_getElem?.mp hs;cases s with
 |own b ds=>cases e;exact⟨i,ds,hi⟩
 |un=>cases e
 |val d=>cases e
 |raw b o x=>cases e
theorem jl(s:Sl)(ρ:Rho):owns (s::ρ)=(match s.addr with|some a=>a::owns ρ|none=>owns ρ):=by unfold owns;rw[c9];cases s.addr<;>rfl
theorem ji{s:Sl}(hs:s.addr=a5):∀{ρ:Rho}{i:Nat},(owns (ρ.set i s)).Sublist (owns ρ)
 |[],_=>List.Sublist.refl _
 |x::r,0=>by
  rw[t7,jl,jl,hs];cases x.addr with
  |none=>exact List.Sublist.refl _
  |some a=>exact List.sublist_cons_self _ _
 |x::r,i+1=>by
  rw[t8,jl,jl];have ih:=ji hs (ρ:=r) (i:=i);cases x.addr with
  |none=>exact ih
  |some a=>exact ih.cons_cons a
theorem Y8{a:aa}{ds ds':List D}:∀{ρ:Rho}{i:Nat},ρ[i]?=a3 (.own a ds)->owns (ρ.set i (.own a ds'))=owns ρ
 |[],_,h=>by simp at h
 |x::r,0,h=>by simp at h;subst h;rw[t7,jl,jl];rfl
 |x::r,i+1,h=>by simp at h;rw[t8,jl,jl,Y8 h]
theorem Oh{s:Sl}(hs:s.addr=a5):∀{ρ:Rho}{i:Nat},(∀a l,ρ[i]?≠a3 (.own a l))->owns (ρ.set i s)=owns ρ
 |[],_,_=>rfl
 |x::r,0,h=>by
  rw[t7,jl,jl,hs];cases x with
  |own a l=>exact absurd rfl (h a l)
  |un=>rfl
  |val d=>rfl
  |raw a o x=>rfl
 |x::r,i+1,h=>by rw[t8,jl,jl,Oh hs (λa l=>by simpa using h a l)]
theorem Q4{a:aa}{ds:List D}:∀{ρ:Rho}{i:Nat},(owns ρ).Nodup->a∉owns ρ->(owns (ρ.set i (.own a ds))).Nodup/\∀b∈owns (ρ.set i (.own a ds)),b=a\/b∈owns ρ
 |[],_,n,_=>⟨n,λb hb=>.inr hb⟩
 |x::r,0,n,h=>by
  rw[t7,jl];rw[jl]at n h;have e:(Sl.own a ds).addr=a3 a:=rfl;rw[e];cases q:x.addr with
  |none =>rw[q]at n h;exact⟨Xk.mpr ⟨h,n⟩,λb hb=>(xm.mp hb).elim .inl λz=>.inr (by rw[jl,q];exact z)⟩
  |some c =>rw[q]at n h;exact⟨Xk.mpr ⟨λz=>h (kj _ z),(Xk.mp n).2⟩,λb hb=>(xm.mp hb).elim .inl λz=>.inr (by rw[jl,q];exact kj _ z)⟩
 |x::r,i+1,n,h=>by
  rw[t8,jl];rw[jl]at n h;cases q:x.addr with
  |none =>rw[q]at n h;obtain⟨i1,i2⟩:=Q4 (ds:=ds) (i:=i) n h;exact⟨i1,λb hb=>(i2 b hb).elim .inl λz=>.inr (by rw[jl,q];exact z)⟩
  |some c =>
   rw[q]at n h;obtain⟨n1,n2⟩:=Xk.mp n;obtain⟨i1,i2⟩:=Q4 (ds:=ds) (i:=i) n2 (λz=>h (kj _ z));refine⟨Xk.mpr ⟨λz=>?_,i1⟩,λb hb=>?_⟩
   .rcases i2 c z with e|z
    .subst e;exact h (xr ..)
    .exact n1 z
   .rcases xm.mp hb with e|z
    .exact .inr (by rw[jl,q];exact e▸xr ..)
    .exact(i2 b z).elim .inl λz=>.inr (by rw[jl,q];exact kj _ z)
theorem Yw{a:aa}{l l':List D}:∀{ρ:Rho}{i j:Nat},(owns ρ).Nodup->ρ[i]?=a3 (.own a l)->ρ[j]?=a3 (.own a l')->i=j
 |[],i,_,_,h,_=>by simp at h
 |x::r,0,0,_,_,_=>rfl
 |x::r,0,j+1,n,h,h'=>by simp at h h';subst h;rw[jl]at n;exact absurd (Z1 h') (Xk.mp n).1
 |x::r,i+1,0,n,h,h'=>by simp at h h';subst h';rw[jl]at n;exact absurd (Z1 h) (Xk.mp n).1
 |x::r,i+1,j+1,n,h,h'=>by
  simp at h h';have n':(owns r).Nodup:=by
   rw[jl]at n;cases q:x.addr with
   |none=>rw[q]at n;exact n
   |some c=>rw[q]at n;exact(Xk.mp n).2
  rw[Yw n' h h']
noncomputable def Zt:List af:=["worst_cost_of_ask","least_numbers","whole_cost_of_ask","round_numbers"]
def TabOk(K:k8y)(H:Hp):Prop:=∀x∈Zt,∀c P,W.tabIn K x=a3 (c,P)->H P=a3 (.cod (ju x))
section
variable{K:k8y}{H H':Hp}
theorem TabOk.mono(h:TabOk K H)(g:j4 H H'):TabOk K H':=λx hx c P e=>g _ _ (h x hx c P e)
theorem TabOk.upd{a:aa}{o u:HO}(h:TabOk K H)(e:H a=a3 u)(n:∀q,u≠.cod q):TabOk K (upd H a o):=λx hx c P z=>by have q:=h x hx c P z;rw[jb];exact q;intro y;subst y;rw[e]at q;exact n _ (ax q)
theorem TabOk.del{A:List aa}(h:TabOk K H)(hA:∀a∈A,∃xs,H a=a3 (.lst xs)):TabOk K (del H A):=λx hx c P z=>by have q:=h x hx c P z;rw[j6];exact q;intro y;obtain⟨xs,e⟩:=hA _ y;rw[q]at e;cases e
end
noncomputable def rfN:af:="@"
def Ia(K:k8y)(F:Hp)(a:aa)(o:cE)(x:af):Prop:=x=rfN\/(F a=a3 (.frz o (.own a))/\W.nsIn K ak x=a3 (a3 o.cls))
theorem Ia.mono{K:k8y}{F F':Hp}{a:aa}{o:cE}{x:af}(h:Ia K F a o x)(g:j4 F F'):Ia K F' a o x:=h.elim .inl λh=>.inr ⟨g _ _ h.1,h.2⟩
structure Rep(K:k8y)(ρ:Rho)(σ:St)(H:Hp):Prop where
 len:σ.length=ρ.length
 val:∀(i:Nat)(d:D),ρ[i]?=a3 (.val d)->∃v,σ[i]?=a3 (a3 v)/\Enc K (del H (owns ρ)) d v
 own:∀(i:Nat)(a:aa)(ds:List D),ρ[i]?=a3 (.own a ds)->σ[i]?=a3 (a3 (.ref a))/\∃xs,H a=a3 (.lst xs)/\j5 K (del H (owns ρ)) ds xs
 nd:(owns ρ).Nodup
 raw:∀(i:Nat)(a:aa)(o:cE)(x:af),ρ[i]?=a3 (.raw a o x)->σ[i]?=a3 (a3 (.ref a))/\Ia K (del H (owns ρ)) a o x
 tb:TabOk K H
section
variable{K:k8y}{ρ ρ':Rho}{σ:St}{H H':Hp}{i:Nat}{d:D}{v:V}{a:aa}{ds ds':List D}{xs:List V}
theorem Rep.owned(R:Rep K ρ σ H):∀a∈owns ρ,∃xs,H a=a3 (.lst xs):=λa h=>by obtain⟨i,ds,e⟩:=Vs h;obtain⟨_,xs,q,_⟩:=R.own i a ds e;exact⟨xs,q⟩
theorem Rep.fresh(R:Rep K ρ σ H)(h:H a=a5):a∉owns ρ:=λz=>by obtain⟨xs,e⟩:=R.owned a z;rw[h]at e;cases e
theorem Rep.grow(R:Rep K ρ σ H)(g:j4 H H'):Rep K ρ σ H' :=
 ⟨R.len,λi d e=>let ⟨v,q,h⟩:=R.val i d e;⟨v,q,h.mono (jf g)⟩,λi a ds e=>let ⟨q,xs,h,l⟩:=R.own i a ds e;⟨q,xs,g _ _ h,l.mono (jf g)⟩,R.nd,λi a o x e=>let ⟨q,h⟩:=R.raw i a o x e;⟨q,h.mono (jf g)⟩,R.tb.mono g⟩
theorem getElem?_set_of{α:Type}{l:List α}{i j:Nat}{x y:α}(h:(l.set i x)[j]?=a3 y):(i=j/\y=x/\i<l.length)\/(i≠j/\l[j]?=a3 y):=by
 rw[fQ]at h;split at h
 .rename_i e;subst e;split at h
  .rename_i z;cases h;exact .inl ⟨rfl,rfl,z⟩
  .cases h
 .rename_i e;exact .inr ⟨e,h⟩
theorem Zg{α:Type}{l:List α}{i:Nat}{x:α}(h:i<l.length):(l.set i x)[i]?=a3 x:=by simp[h]
theorem qe{α:Type}{l:List α}{i j:Nat}{x:α}(h:i≠j):(l.set i x)[j]?=l[j]?:=by simp[h]
theorem Rep.set_val(R:Rep K ρ σ H)(e:Enc K (del H (owns ρ)) d v):Rep K (ρ.set i (.val d)) (σ.set i (a3 v)) H:=by
 have sub:(owns (ρ.set i (.val d))).Sublist (owns ρ):=ji rfl;have g:j4 (del H (owns ρ)) (del H (owns (ρ.set i (.val d)))):=vy λb hb=>sub.subset hb;refine⟨by simp[R.len],λj d' h=>?_,λj a ds h=>?_,sub.nodup R.nd,λj a o x h=>?_,R.tb⟩
 .rcases getElem?_set_of h with ⟨rfl,z,hl⟩|⟨n,h⟩
  .cases z;exact⟨v,Zg (by rw[R.len];exact hl),e.mono g⟩
  .obtain⟨u,q,h⟩:=R.val j d' h;exact⟨u,by rw[qe n];exact q,h.mono g⟩
 .rcases getElem?_set_of h with ⟨rfl,z,_⟩|⟨n,h⟩
  .cases z
  .obtain⟨q,xs,h,l⟩:=R.own j a ds h;exact⟨by rw[qe n];exact q,xs,h,l.mono g⟩
 .rcases getElem?_set_of h with ⟨rfl,z,_⟩|⟨n,h⟩
  .cases z
  .obtain⟨q,h⟩:=R.raw j a o x h;exact⟨by rw[qe n];exact q,h.mono g⟩
theorem Rep.set_un{v:Option V}(R:Rep K ρ σ H):Rep K (ρ.set i .un) (σ.set i v) H:=by
 have sub:(owns (ρ.set i .un)).Sublist (owns ρ):=ji rfl;have g:j4 (del H (owns ρ)) (del H (owns (ρ.set i .un))):=vy λb hb=>sub.subset hb;refine⟨by simp[R.len],λj d' h=>?_,λj a ds h=>?_,sub.nodup R.nd,λj a o x h=>?_,R.tb⟩
 .rcases getElem?_set_of h with ⟨rfl,z,hl⟩|⟨n,h⟩
  .cases z
  .obtain⟨u,q,h⟩:=R.val j d' h;exact⟨u,by rw[qe n];exact q,h.mono g⟩
 .rcases getElem?_set_of h with ⟨rfl,z,_⟩|⟨n,h⟩
  .cases z
  .obtain⟨q,xs,h,l⟩:=R.own j a ds h;exact⟨by rw[qe n];exact q,xs,h,l.mono g⟩
 .rcases getElem?_set_of h with ⟨rfl,z,_⟩|⟨n,h⟩
  .cases z
  .obtain⟨q,h⟩:=R.raw j a o x h;exact⟨by rw[qe n];exact q,h.mono g⟩
theorem Rep.set_own(R:Rep K ρ σ H)(g:j4 H H')(ha:H a=a5)(e:H' a=a3 (.lst xs))(l:j5 K (del H' (a::owns ρ)) ds xs):Rep K (ρ.set i (.own a ds)) (σ.set i (a3 (.ref a))) H':=by
 have na:=R.fresh ha;obtain⟨nd,sub⟩:=Q4 (ds:=ds) (i:=i) R.nd na;have g1:j4 (del H' (a::owns ρ)) (del H' (owns (ρ.set i (.own a ds)))):=vy λb hb=>by
  rcases sub b hb with e|z
  .exact e▸xr ..
  .exact kj _ z
 have g2:j4 (del H (owns ρ)) (del H' (a::owns ρ)):=λb o q=>by
  obtain⟨n,q⟩:=of_del q;rw[j6];exact g b o q;intro z;rcases xm.mp z with e|z
  .subst e;rw[ha]at q;cases q
  .exact n z
 refine⟨by simp[R.len],λj d' h=>?_,λj b ds' h=>?_,nd,λj b o x h=>?_,R.tb.mono g⟩
 .rcases getElem?_set_of h with ⟨rfl,z,hl⟩|⟨n,h⟩
  .cases z
  .obtain⟨u,q,h⟩:=R.val j d' h;exact⟨u,by rw[qe n];exact q,h.mono (g2.trans g1)⟩
 .rcases getElem?_set_of h with ⟨rfl,z,hl⟩|⟨n,h⟩
  .cases z;exact⟨Zg (by rw[R.len];exact hl),xs,e,l.mono g1⟩
  .obtain⟨q,ys,h,l⟩:=R.own j b ds' h;exact⟨by rw[qe n];exact q,ys,g _ _ h,l.mono (g2.trans g1)⟩
 .rcases getElem?_set_of h with ⟨rfl,z,hl⟩|⟨n,h⟩
  .cases z
  .obtain⟨q,h⟩:=R.raw j b o x h;exact⟨by rw[qe n];exact q,h.mono (g2.trans g1)⟩
theorem Rep.upd_own(R:Rep K ρ σ H)(h:ρ[i]?=a3 (.own a ds))(l:j5 K (del H (owns ρ)) ds' xs):Rep K (ρ.set i (.own a ds')) σ (upd H a (.lst xs)):=by
 have eo:owns (ρ.set i (.own a ds'))=owns ρ:=Y8 h;have ed:del (upd H a (.lst xs)) (owns ρ)=del H (owns ρ):=Yp (Z1 h);refine⟨by simp[R.len],λj d' q=>?_,λj b l' q=>?_,by rw[eo];exact R.nd,λj b o x q=>?_,let ⟨_,_,z,_⟩:=R.own i a ds h;R.tb.upd z λ_ y=>by cases y⟩
 .rw[eo,ed];rcases getElem?_set_of q with ⟨_,z,_⟩|⟨n,q⟩
  .cases z
  .exact R.val j d' q
 .rw[eo,ed];rcases getElem?_set_of q with ⟨rfl,z,_⟩|⟨n,q'⟩
  .cases z;exact⟨(R.own i a ds h).1,xs,j9,l⟩
  .obtain⟨z,ys,y,l''⟩:=R.own j b l' q';refine⟨z,ys,?_,l''⟩;have nb:b≠a:=λe=>n (Yw R.nd h (e▸q'));rw[jb nb];exact y
 .rw[eo,ed];rcases getElem?_set_of q with ⟨_,z,_⟩|⟨n,q⟩
  .cases z
  .exact R.raw j b o x q
theorem Rep.freeze(R:Rep K ρ σ H)(h:ρ[i]?=a3 (.own a ds)):Rep K (ρ.set i (.val (.lst ds))) σ H:=by
 obtain⟨hs,xs,hx,l⟩:=R.own i a ds h;have sub:(owns (ρ.set i (.val (.lst ds)))).Sublist (owns ρ):=ji rfl;have g:j4 (del H (owns ρ)) (del H (owns (ρ.set i (.val (.lst ds))))):=vy λb hb=>sub.subset hb;have na:a∉owns (ρ.set i (.val (.lst ds))):=λz=>by
  obtain⟨j,l',q⟩:=Vs z;rcases getElem?_set_of q with ⟨_,z,_⟩|⟨n,q⟩
  .cases z
  .exact n (Yw R.nd h q)
 refine⟨by simp[R.len],λj d' q=>?_,λj b l' q=>?_,sub.nodup R.nd,λj b o x q=>?_,R.tb⟩
 .rcases getElem?_set_of q with ⟨rfl,z,_⟩|⟨n,q⟩
  .cases z;exact⟨_,hs,a,xs,rfl,.inl (.inl (by rw[j6 na];exact hx)),l.mono g⟩
  .obtain⟨u,q,h⟩:=R.val j d' q;exact⟨u,q,h.mono g⟩
 .rcases getElem?_set_of q with ⟨rfl,z,_⟩|⟨n,q⟩
  .cases z
  .obtain⟨q,ys,h,l⟩:=R.own j b l' q;exact⟨q,ys,h,l.mono g⟩
 .rcases getElem?_set_of q with ⟨_,z,_⟩|⟨n,q⟩
  .cases z
  .obtain⟨q,h⟩:=R.raw j b o x q;exact⟨q,h.mono g⟩
end
def DE(X:Cx)(ρ:Rho)(e:ai)(d:D):Prop:=∀σ H Q,Rep X.K ρ σ H->(∀v H',j4 H H'->Enc X.K (del H' (owns ρ)) d v->Q v H')->Qd X e σ H Q
def DT(X:Cx)(ρ:Rho)(e:ai)(d:D):Prop:=∀σ H Q,Rep X.K ρ σ H->(∀v H',j4 H H'->Enc X.K H' d v->Q v H')->Qd X e σ H Q
def DO(X:Cx)(ρ:Rho)(e:ai)(ds:List D):Prop:=∀σ H Q,Rep X.K ρ σ H->(∀a xs H',j4 H H'->H a=a5->H' a=a3 (.lst xs)->j5 X.K (del H' (a::owns ρ)) ds xs->Q (.ref a) H')->Qd X e σ H Q
def DL(X:Cx)(ρ:Rho)(e:ai)(ds:List D):Prop:=∀σ H Q,Rep X.K ρ σ H->(∀a xs H',j4 H H'->H' a=a3 (.lst xs)->j5 X.K (del H' (owns ρ)) ds xs->Q (.ref a) H')->Qd X e σ H Q
def DB(X:Cx)(ρ:Rho)(e:ai)(b:Bool):Prop:=∀σ H Q,Rep X.K ρ σ H->(∀H',j4 H H'->Q b H')->j80 X e σ H Q
def DA(X:Cx)(ρ:Rho)(es:List ai)(ds:List D):Prop:=∀σ H Q,Rep X.K ρ σ H->(∀vs H',j4 H H'->j5 X.K (del H' (owns ρ)) ds vs->Q vs H')->Oz X es σ H Q
def DTA(X:Cx)(ρ:Rho)(es:List ai)(ds:List D):Prop:=∀σ H Q,Rep X.K ρ σ H->(∀vs H',j4 H H'->j5 X.K H' ds vs->Q vs H')->Oz X es σ H Q
def j7z(X:Cx)(e:ai):TT:=λσ H Q=>∀whole pins s,Inv X pins σ H s->ar (aw X.prog X.w) X.A (gp e X.env whole) (TP X pins σ Q) X.xe s
theorem pwS{X:Cx}{e:ai}:PW X e (j7z X e):=λwhole pins s _ _ _ I h=>h whole pins s I
theorem PW.to{X:Cx}{e:ai}{t:TT}{σ:St}{H:Hp}(h:PW X e t){Q:Bool->Hp->Prop}(q:t σ H Q):j7z X e σ H Q:=λwhole pins s I=>h whole pins s σ H Q I q
def DW(X:Cx)(ρ:Rho)(e:ai)(b:Bool):Prop:=∀σ H Q,Rep X.K ρ σ H->(∀H',j4 H H'->Q b H')->j7z X e σ H Q
mutual
noncomputable def Z6:D->Bool
 |.lst _=>a4
 |.dct _ _=>a4
 |.sct _=>a4
 |.fn _ _=>a4
 |.tup ds=>jz ds
 |_=>a7
noncomputable def jz:List D->Bool
 |[]=>a7
 |d::ds=>Z6 d&&jz ds
end
mutual
theorem Enc.hide{K:k8y}{H:Hp}{A:List aa}(hA:∀a∈A,Hd (H a)):∀{d:D}{v:V},Z6 d=a7->Enc K H d v->Enc K (del H A) d v
 |.non,_,_,h=>h
 |.bl _,_,_,h=>h
 |.int _,_,_,h=>h
 |.str _,_,_,h=>h
 |.lst _,_,n,_=>by cases n
 |.dct _ _,_,n,_=>by cases n
 |.sct _,_,n,_=>by cases n
 |.fn _ _,_,n,_=>by cases n
 |.tup ds,_,n,⟨a,xs,e,q,l⟩=>by
  refine⟨a,xs,e,?_,j5.hide hA (by simpa [Z6]using n) l⟩;have out:∀{o:HO},H a=a3 o->(∀ys,o≠.lst ys)->(∀ys ep,o≠.dI ys ep)->del H A a=a3 o:=λ{o} h z z2=>by
   rw[j6];exact h;intro y;rcases hA a y with ⟨ys,e'⟩|⟨ys,ep,e'⟩
   .rw[h]at e';cases e';exact z ys rfl
   .rw[h]at e';cases e';exact z2 ys ep rfl
  rcases q with (q|⟨o,q⟩)|q
  .exact .inl (.inl (out q (λ_ z=>by cases z) λ_ _ z=>by cases z))
  .exact .inl (.inr ⟨o,out q (λ_ z=>by cases z) λ_ _ z=>by cases z⟩)
  .exact .inr q
theorem j5.hide{K:k8y}{H:Hp}{A:List aa}(hA:∀a∈A,Hd (H a)):∀{ds:List D}{xs:List V},jz ds=a7->j5 K H ds xs->j5 K (del H A) ds xs
 |[],_,_,h=>h
 |d::ds,_,n,⟨x,r,e,h,l⟩=>by
  have n':Z6 d=a7/\jz ds=a7:=by simpa [jz]using n
  exact⟨x,r,e,Enc.hide hA n'.1 h,j5.hide hA n'.2 l⟩
end
section
variable{X:Cx}{ρ:Rho}{e a b c:ai}{es:List ai}{d da db:D}{ds ds':List D}{i j:Int}{pos:aJ}{k:Nat}{x:af}
theorem DE.toT(h:DE X ρ e d):DT X ρ e d:=λσ H Q R q=>h σ H Q R λv H' g l=>q v H' g (l.mono jo)
theorem DT.toE(h:DT X ρ e d)(n:Z6 d=a7:=by rfl):DE X ρ e d:=λσ H Q R q=>h σ H Q R λv H' g l=>q v H' g (l.hide (λa ha=>.inl ((R.grow g).owned a ha)) n)
theorem DO.toL(h:DO X ρ e ds):DL X ρ e ds:=λσ H Q R q=>h σ H Q R λa xs H' g n m l=>q a xs H' g m (l.mono (vy λb hb=>kj _ hb))
theorem DO.toE(h:DO X ρ e ds):DE X ρ e (.lst ds):=λσ H Q R q=>h σ H Q R λa xs H' g n m l =>q _ H' g ⟨a,xs,rfl,.inl (.inl (by rw[j6 (R.fresh n)];exact m)),l.mono (vy λb hb=>kj _ hb)⟩
theorem DL.toT(h:DL X ρ e ds):DT X ρ e (.lst ds):=λσ H Q R q=>h σ H Q R λa xs H' g m l=>q _ H' g ⟨a,xs,rfl,.inl (.inl m),l.mono jo⟩
theorem DW.toB{k:Bool}(h:DW X ρ e k):DB X ρ e k:=λσ H Q R q pins s I=>h σ H Q R q _ pins s I
theorem DE.eq(h:DE X ρ e d){d':D}(q:d=d'):DE X ρ e d':=q▸h
theorem DB.eq{b b':Bool}(h:DB X ρ e b)(q:b=b'):DB X ρ e b':=q▸h
end
section
variable{X:Cx}{ρ:Rho}{e a b c:ai}{es:List ai}{d da db:D}{ds ds':List D}{i j:Int}{pos p:aJ}{k:Nat}{x:af}
theorem DE.var(k:Nat)(h:ρ[k]?=a3 (.val d))(hN:X.N[k]?=a3 x:=by rfl)(hv:Vis X.env.scope x:=by first|exact aX rfl|exact bN (aX rfl)|exact bN (bN rfl))
  (hd:(x==k92)=a4:=by decide) (hcd:(x==k93)=a4:=by decide):DE X ρ (.Name x pos) d:=λσ H Q R q=>by
 obtain⟨v,hs,en⟩:=R.val k d h;exact(Jk hN hv hd hcd).to ⟨v,hs,q v H (j4.refl H) en⟩
theorem DL.var(k:Nat){l:aa}(h:ρ[k]?=a3 (.own l ds))(hN:X.N[k]?=a3 x:=by rfl)(hv:Vis X.env.scope x:=by first|exact aX rfl|exact bN (aX rfl)|exact bN (bN rfl))
  (hd:(x==k92)=a4:=by decide) (hcd:(x==k93)=a4:=by decide):DL X ρ (.Name x pos) ds:=λσ H Q R q=>by
 obtain⟨hs,xs,m,en⟩:=R.own k l ds h;exact(Jk hN hv hd hcd).to ⟨_,hs,q l xs H (j4.refl H) m en⟩
theorem DE.glob {u:a8} {v:V} (hg:Gl X x) (hm:X.mg x=a3 u) (r:RelV v u) (h:∀H,Enc X.K H d v) (hd:(x==k92)=a4:=by decide):DE X ρ (.Name x pos) d :=
 λσ H Q R q=>(Mx hg hm r hd).to (q v H (j4.refl H) (h _))
theorem DE.int{i:Int}{n:Nat}{pos:aJ}:DE X ρ (.Constant (.int i) n pos) (.int i):=λσ H Q R q=>jfh.to (q _ H (j4.refl H) rfl)
theorem DE.bl{b:Bool}{n:Nat}:DE X ρ (.Constant (.bool b) n pos) (.bl b):=λσ H Q R q=>jjb.to (q _ H (j4.refl H) rfl)
theorem DE.non{n:Nat}:DE X ρ (.Constant .none n pos) .non:=λσ H Q R q=>Es.to (q _ H (j4.refl H) rfl)
theorem DE.str{y:af}{n:Nat}:DE X ρ (.Constant (.str y) n pos) (.str y):=λσ H Q R q=>j5s.to (q _ H (j4.refl H) rfl)
theorem DE.arI0{op:kB}{g:Int->Int->Int}(ho:OpR X (bc op) (rI0 λi j=>.int (g i j)))(ha:DT X ρ a (.int i))(hb:DT X ρ b (.int j)):DE X ρ (.BinOp a op b pos) (.int (g i j)):=λσ H Q R q =>(Ui ho peS peS).to (ha σ H _ R λv H1 g1 e1=>hb σ H1 _ (R.grow g1) λu H2 g2 e2=>⟨i,j,e1,e2,q _ H2 (g1.trans g2) rfl⟩)
theorem DE.arI{op:kB}{C:Int->Int->Prop}{g:Int->Int->Int}(ho:OpR X (bc op) (rI C λi j=>.int (g i j)))(ha:DT X ρ a (.int i))(hb:DT X ρ b (.int j))(hC:C i j):DE X ρ (.BinOp a op b pos) (.int (g i j)):=λσ H Q R q =>(Ui ho peS peS).to (ha σ H _ R λv H1 g1 e1=>hb σ H1 _ (R.grow g1) λu H2 g2 e2=>⟨i,j,e1,e2,hC,q _ H2 (g1.trans g2) rfl⟩)
theorem DE.add(ha:DT X ρ a (.int i))(hb:DT X ρ b (.int j)):DE X ρ (.BinOp a .Add b pos) (.int (i+j)):=DE.arI0 jfu ha hb
theorem DE.sub(ha:DT X ρ a (.int i))(hb:DT X ρ b (.int j)):DE X ρ (.BinOp a .Sub b pos) (.int (i-j)):=DE.arI0 jfm ha hb
theorem DE.mul(ha:DT X ρ a (.int i))(hb:DT X ρ b (.int j))(h:j4o i j):DE X ρ (.BinOp a .Mult b pos) (.int (i*j)):=DE.arI jfr ha hb h
theorem DE.mod(ha:DT X ρ a (.int i))(hb:DT X ρ b (.int j))(h:0<j):DE X ρ (.BinOp a .Mod b pos) (.int (i%j)):=DE.arI jfs ha hb h
theorem DE.pow(ha:DT X ρ a (.int i))(hb:DT X ρ b (.int j))(h:j4n i j):DE X ρ (.BinOp a .Pow b pos) (.int (i^j.toNat)):=DE.arI jfq ha hb h
theorem DE.shl(ha:DT X ρ a (.int i))(hb:DT X ρ b (.int j))(h:j4n i j):DE X ρ (.BinOp a .LShift b pos) (.int (i*2^j.toNat)):=DE.arI (g:=λi j=>i*2^j.toNat) jfo ha hb h
theorem DE.neg(ha:DT X ρ a (.int i)):DE X ρ (.UnaryOp .USub a pos) (.int (-i)):=λσ H Q R q =>(jj9 je7 peS).to (ha σ H _ R λv H1 g1 e1=>⟨i,e1,q _ H1 g1 rfl⟩)
theorem DE.cmpI{op:iG}{g:Int->Int->Bool}(ho:OpR X (aW op) (rI0 λi j=>.bl (g i j)))(hm:aK op b=a4)(ha:DT X ρ a (.int i))(hb:DT X ρ b (.int j)):DE X ρ (.Compare a [op] [b] pos) (.bl (g i j)):=λσ H Q R q =>(Q3 ho peS peS hm).to (ha σ H _ R λv H1 g1 e1=>hb σ H1 _ (R.grow g1) λu H2 g2 e2=>⟨i,j,e1,e2,q _ H2 (g1.trans g2) rfl⟩)
theorem DB.cmpI{op:iG}{g:Int->Int->Bool}(ho:OpR X (aW op) (rI0 λi j=>.bl (g i j)))(hm:aK op b=a4)(ha:DT X ρ a (.int i))(hb:DT X ρ b (.int j)):DB X ρ (.Compare a [op] [b] pos) (g i j):=λσ H Q R q =>(Q0 ho peS peS hm).to (ha σ H _ R λv H1 g1 e1=>hb σ H1 _ (R.grow g1) λu H2 g2 e2=>⟨i,j,e1,e2,_,rfl,q H2 (g1.trans g2)⟩)
theorem DB.lt(ha:DT X ρ a (.int i))(hb:DT X ρ b (.int j)):DB X ρ (.Compare a [.Lt] [b] pos) (decide (i<j)):=DB.cmpI jaj (zb _) ha hb
theorem DB.le(ha:DT X ρ a (.int i))(hb:DT X ρ b (.int j)):DB X ρ (.Compare a [.LtE] [b] pos) (decide (i<=j)):=DB.cmpI jak (zb _) ha hb
theorem DB.gt(ha:DT X ρ a (.int i))(hb:DT X ρ b (.int j)):DB X ρ (.Compare a [.Gt] [b] pos) (decide (j<i)):=DB.cmpI jal (zb _) ha hb
theorem DB.ge(ha:DT X ρ a (.int i))(hb:DT X ρ b (.int j)):DB X ρ (.Compare a [.GtE] [b] pos) (decide (j<=i)):=DB.cmpI jam (zb _) ha hb
theorem DE.lt(ha:DT X ρ a (.int i))(hb:DT X ρ b (.int j)):DE X ρ (.Compare a [.Lt] [b] pos) (.bl (decide (i<j))):=DE.cmpI jaj (zb _) ha hb
theorem DE.le(ha:DT X ρ a (.int i))(hb:DT X ρ b (.int j)):DE X ρ (.Compare a [.LtE] [b] pos) (.bl (decide (i<=j))):=DE.cmpI jak (zb _) ha hb
theorem DE.gt(ha:DT X ρ a (.int i))(hb:DT X ρ b (.int j)):DE X ρ (.Compare a [.Gt] [b] pos) (.bl (decide (j<i))):=DE.cmpI jal (zb _) ha hb
theorem DE.ge(ha:DT X ρ a (.int i))(hb:DT X ρ b (.int j)):DE X ρ (.Compare a [.GtE] [b] pos) (.bl (decide (j<=i))):=DE.cmpI jam (zb _) ha hb
noncomputable def D.sc:D->Option V
 |.non=>a3 .non
 |.bl b=>a3 (.bl b)
 |.int i=>a3 (.int i)
 |.str x=>a3 (.str x)
 |_=>a5
theorem D.sc_enc{K:k8y}{H:Hp}{d:D}{u v:V}(h:d.sc=a3 u)(q:Enc K H d v):v=u:=by cases d<;>simp[D.sc]at h<;>subst h<;>exact q
theorem DE.eqS{u v:V}(ha:DT X ρ a da)(hb:DT X ρ b db)(h1:da.sc=a3 u:=by rfl)(h2:db.sc=a3 v:=by rfl)(h:Dm u v=a7:=by rfl):DE X ρ (.Compare a [.Eq] [b] pos) (.bl (decide (u=v))):=λσ H Q R q =>
 (Q3 jan peS peS (zb _)).to (ha σ H _ R λx H1 g1 e1=>hb σ H1 _ (R.grow g1) λy H2 g2 e2=>by
  cases D.sc_enc h1 e1;cases D.sc_enc h2 e2;exact⟨h,q _ H2 (g1.trans g2) rfl⟩)
theorem DE.neS{u v:V}(ha:DT X ρ a da)(hb:DT X ρ b db)(h1:da.sc=a3 u:=by rfl)(h2:db.sc=a3 v:=by rfl)(h:Dm u v=a7:=by rfl):DE X ρ (.Compare a [.NotEq] [b] pos) (.bl (!decide (u=v))):=λσ H Q R q =>
 (Q3 jai peS peS (zb _)).to (ha σ H _ R λx H1 g1 e1=>hb σ H1 _ (R.grow g1) λy H2 g2 e2=>by
  cases D.sc_enc h1 e1;cases D.sc_enc h2 e2;exact⟨h,q _ H2 (g1.trans g2) rfl⟩)
theorem DB.eqS{u v:V}(ha:DT X ρ a da)(hb:DT X ρ b db)(h1:da.sc=a3 u:=by rfl)(h2:db.sc=a3 v:=by rfl)(h:Dm u v=a7:=by rfl):DB X ρ (.Compare a [.Eq] [b] pos) (decide (u=v)):=λσ H Q R q =>
 (Q0 jan peS peS (zb _)).to (ha σ H _ R λx H1 g1 e1=>hb σ H1 _ (R.grow g1) λy H2 g2 e2=>by
  cases D.sc_enc h1 e1;cases D.sc_enc h2 e2;exact⟨h,_,rfl,q H2 (g1.trans g2)⟩)
theorem DB.neS{u v:V}(ha:DT X ρ a da)(hb:DT X ρ b db)(h1:da.sc=a3 u:=by rfl)(h2:db.sc=a3 v:=by rfl)(h:Dm u v=a7:=by rfl):DB X ρ (.Compare a [.NotEq] [b] pos) (!decide (u=v)):=λσ H Q R q =>
 (Q0 jai peS peS (zb _)).to (ha σ H _ R λx H1 g1 e1=>hb σ H1 _ (R.grow g1) λy H2 g2 e2=>by
  cases D.sc_enc h1 e1;cases D.sc_enc h2 e2;exact⟨h,_,rfl,q H2 (g1.trans g2)⟩)
theorem Wx(i j:Int):decide (V.int i=V.int j)=decide (i=j):=by
 by_cases h:i=j
 .subst h;simp
 .rw[decide_eq_false h,decide_eq_false (λz=>h (V.int.inj z))]
theorem j2m(i j:Bool):decide (V.bl i=V.bl j)=(i==j):=by cases i<;>cases j<;>rfl
theorem j0n(i j:af):decide (V.str i=V.str j)=decide (i=j):=by
 by_cases h:i=j
 .subst h;simp
 .rw[decide_eq_false h,decide_eq_false (λz=>h (V.str.inj z))]
theorem DE.eqI(ha:DT X ρ a (.int i))(hb:DT X ρ b (.int j)):DE X ρ (.Compare a [.Eq] [b] pos) (.bl (decide (i=j))):=(DE.eqS ha hb).eq (by rw[Wx])
theorem DE.neI(ha:DT X ρ a (.int i))(hb:DT X ρ b (.int j)):DE X ρ (.Compare a [.NotEq] [b] pos) (.bl (!decide (i=j))):=(DE.neS ha hb).eq (by rw[Wx])
theorem DB.eqI(ha:DT X ρ a (.int i))(hb:DT X ρ b (.int j)):DB X ρ (.Compare a [.Eq] [b] pos) (decide (i=j)):=(DB.eqS ha hb).eq (by rw[Wx])
theorem DB.neI(ha:DT X ρ a (.int i))(hb:DT X ρ b (.int j)):DB X ρ (.Compare a [.NotEq] [b] pos) (!decide (i=j)):=(DB.neS ha hb).eq (by rw[Wx])
theorem DE.neB{x y:Bool}(ha:DT X ρ a (.bl x))(hb:DT X ρ b (.bl y)):DE X ρ (.Compare a [.NotEq] [b] pos) (.bl (x != y)):=(DE.neS ha hb).eq (by rw[j2m];rfl)
theorem DB.neB{x y:Bool}(ha:DT X ρ a (.bl x))(hb:DT X ρ b (.bl y)):DB X ρ (.Compare a [.NotEq] [b] pos) (x != y):=(DB.neS ha hb).eq (by rw[j2m];rfl)
noncomputable def D.isNon:D->Bool
 |.non=>a7
 |_=>a4
theorem M5{K:k8y}{H:Hp}{d:D}{v:V}(q:Enc K H d v):decide (v=V.non)=d.isNon:=by
 cases d with
 |non=>cases(show v=.non from q);rfl
 |bl b=>cases(show v=.bl b from q);rfl
 |int b=>cases(show v=.int b from q);rfl
 |str b=>cases(show v=.str b from q);rfl
 |tup l=>obtain⟨a,xs,e,_⟩:=q;subst e;rfl
 |lst l=>obtain⟨a,xs,e,_⟩:=q;subst e;rfl
 |dct ks l=>obtain⟨a,xs,ep,vs,e,_⟩:=q;subst e;rfl
 |sct k=>obtain⟨a,e,_⟩:=q;subst e;rfl
 |fn x l=>obtain⟨a,c,tx,cl,vs,e,_⟩:=q;subst e;rfl
theorem DB.isN{n:Nat}{p2:aJ}(ha:DT X ρ a d):DB X ρ (.Compare a [.Is] [.Constant .none n p2] pos) d.isNon:=λσ H Q R q =>(jfb (jfk peS)).to (ha σ H _ R λx H1 g1 e1=>⟨_,rfl,by rw[M5 e1];exact q H1 g1⟩)
theorem DB.val{k:Bool}(ha:DT X ρ a (.bl k))(he:∀whole,gp a X.env whole=(do let v <-whole;jP a.pos;ip [v] (truthy v)):=by intro _;rfl):DB X ρ a k:=λσ H Q R q =>(jf8 peS he).to (ha σ H _ R λx H1 g1 e1=>⟨_,e1,q H1 g1⟩)
theorem DW.or1{k:Bool}(ha:DB X ρ a k):DW X ρ (.BoolOp .Or [a] pos) k:=λσ H Q R q=>(jf7 ptS).to (ha σ H Q R q)
theorem DW.or{k m:Bool}{rest:List ai}(ha:DB X ρ a k)(hb:k=a4->DW X ρ (.BoolOp .Or (b::rest) pos) m):DW X ρ (.BoolOp .Or (a::b::rest) pos) (k || m):=λσ H Q R q =>
 (jj6 ptS pwS).to (ha σ H _ R λH1 g1=>by
  cases k with
  |true=>exact j3x (q H1 g1)
  |false=>exact j3y (hb rfl σ H1 Q (R.grow g1) λH2 g2=>q H2 (g1.trans g2)))
theorem DB.not{k:Bool}(ha:DB X ρ a k):DB X ρ (.UnaryOp .Not a pos) (!k):=λσ H Q R q=>(jf9 ptS).to (ha σ H _ R λH1 g1=>q H1 g1)
theorem DE.and{k m:Bool}{rest:List ai}(ha:DT X ρ a (.bl k))(hb:k=a7->DE X ρ (.BoolOp .And (b::rest) pos) (.bl m)):DE X ρ (.BoolOp .And (a::b::rest) pos) (.bl (k&&m)):=λσ H Q R q =>
 (jfj peS peS).to (ha σ H _ R λx H1 g1 e1=>⟨k,e1,by
  cases k with
  |false=>exact j3y (q _ H1 g1 rfl)
  |true=>exact j3x (hb rfl σ H1 Q (R.grow g1) λv H2 g2=>q v H2 (g1.trans g2))⟩)
theorem DE.ite{k:Bool}{d':D}(hc:DB X ρ c k)(ha:k=a7->DE X ρ a d)(hb:k=a4->DE X ρ b d'):DE X ρ (.IfExp c a b pos) (if k=a7 then d else d'):=λσ H Q R q =>
 (j8i ptS peS peS).to (hc σ H _ R λH1 g1=>by
  cases k with
  |true=>exact j3x (ha rfl σ H1 Q (R.grow g1) λv H2 g2 z=>q v H2 (g1.trans g2) (by rw[if_pos rfl];exact z))
  |false=>exact j3y (hb rfl σ H1 Q (R.grow g1) λv H2 g2 z=>q v H2 (g1.trans g2) (by rw[if_neg xf];exact z)))
theorem DA.nil:DA X ρ [] []:=λσ H Q R q=>jr.to (q [] H (j4.refl H) rfl)
theorem DA.cons(ha:DE X ρ a d)(hr:DA X ρ es ds)(hs:a9 (a::es) X.env=(a4,ay a X.env)::a9 es X.env:=by rfl):DA X ρ (a::es) (d::ds):=λσ H Q R q =>(jc peS paS hs).to (ha σ H _ R λv H1 g1 e1=>hr σ H1 _ (R.grow g1) λvs H2 g2 e2=>q _ H2 (g1.trans g2) ⟨v,vs,rfl,e1.mono (jf g2),e2⟩)
theorem DTA.nil:DTA X ρ [] []:=λσ H Q R q=>jr.to (q [] H (j4.refl H) rfl)
theorem DTA.cons(ha:DT X ρ a d)(hr:DTA X ρ es ds)(hs:a9 (a::es) X.env=(a4,ay a X.env)::a9 es X.env:=by rfl):DTA X ρ (a::es) (d::ds):=λσ H Q R q =>(jc peS paS hs).to (ha σ H _ R λv H1 g1 e1=>hr σ H1 _ (R.grow g1) λvs H2 g2 e2=>q _ H2 (g1.trans g2) ⟨v,vs,rfl,e1.mono g2,e2⟩)
theorem DE.tup{n:Nat}{x1}(h:DA X ρ es ds)(hl:ds.length<=aq:=by simp only[xx,Pr];decide):DE X ρ (.Tuple es x1 pos) (.tup ds):=λσ H Q R q =>(j5r paS).to (h σ H _ R λvs H1 g1 e1=>⟨by rw[e1.length];exact hl,λp hp=>q _ _ (g1.trans (j7 hp)) ⟨p,vs,rfl,.inl (.inl (by rw[j6 ((R.grow g1).fresh hp)];exact j9)),e1.mono (jf (j7 hp))⟩⟩)
theorem DO.lst(h:DA X ρ es ds)(hl:ds.length<=aq:=by simp only[xx,Pr];decide):DO X ρ (.List es pos) ds:=λσ H Q R q =>
 (jfg paS).to (h σ H _ R λvs H1 g1 e1=>⟨by rw[e1.length];exact hl,λp hp=>q p vs _ (g1.trans (j7 hp)) (g1.free hp) j9 (e1.mono λb o z=>by
  obtain⟨n,z⟩:=of_del z
  rw[j6];exact j7 hp b o z
  intro y
  rcases xm.mp y with y|y
  .subst y;rw[hp]at z;cases z
  .exact n y)⟩)
theorem j5.atI{K:k8y}{H:Hp}{xs:List V}(h:j5 K H ds xs)(q:atI ds i=a3 d):∃x,L2.atI xs i=a3 x/\Enc K H d x:=by
 unfold L2.atI at q ⊢;rw[h.length];cases z:ixN ds.length i with
 |none=>rw[z]at q;cases q
 |some k =>rw[z]at q;exact h.get q
noncomputable def cutD(ds:List D)(lo hi:Option Int):List D:=(ds.drop (HT.sIx ds.length 0 lo)).take (HT.sIx ds.length ds.length hi-HT.sIx ds.length 0 lo)
theorem j5.cut{K:k8y}{H:Hp}{xs:List V}(h:j5 K H ds xs)(lo hi:Option Int):j5 K H (cutD ds lo hi) (Mh xs lo hi):=by unfold cutD Mh;rw[h.length];exact(h.drop _).take _
theorem Wu{K:k8y}{H1:Hp}{A:List aa}{ds:List D}{xs:List V}{p:aa}{o:HO}(hp:H1 p=a5)(e1:j5 K (del H1 A) ds xs):j5 K (del (upd H1 p o) (p::A)) ds xs:=e1.mono λb o z=>by
 obtain⟨n,z⟩:=of_del z;rw[j6];exact j7 hp b o z;intro y;rcases xm.mp y with y|y
 .subst y;rw[hp]at z;cases z
 .exact n y
theorem DO.rep(ha:DL X ρ a ds)(hb:DT X ρ b (.int i))(h1:-(2^63)<=i)(h2:i<2^63)(hl:ds.length*i.toNat<=aq):DO X ρ (.BinOp a .Mult b pos) (ah i.toNat ds).flatten:=λσ H Q R q =>
 (Ui jfp peS peS).to (ha σ H _ R λl xs H1 g1 m1 e1=>hb σ H1 _ (R.grow g1) λu H2 g2 e2 =>
  ⟨l,i,xs,rfl,e2,g2 _ _ m1,h1,h2,by rw[e1.length];exact hl,λp hp=>q p _ _ ((g1.trans g2).trans (j7 hp)) ((g1.trans g2).free hp) j9 (Wu hp ((e1.mono (jf g2)).rep _))⟩)
theorem DE.lenT (ha:DT X ρ a (.tup ds)) (hm:X.mg "len" = a5) (hg:Gl X "len":=by rfl) (hs:a9 [a] X.env=[(a4,ay a X.env)]:=by rfl) {p2:aJ}:DE X ρ (.Call (.Name "len" p2) [a] [] pos) (.int ds.length):=λσ H Q R q =>(v8 Mj hg hm gK (jc peS jr hs) (by decide) (by decide) hs).to (ha σ H _ R λv H1 g1 ⟨l,xs,e,sq,en⟩=>⟨l,xs,by rw[e],.inr sq,q _ H1 g1 (by rw[en.length];rfl)⟩)
theorem DE.lenL (ha:DT X ρ a (.lst ds)) (hm:X.mg "len" = a5) (hg:Gl X "len":=by rfl) (hs:a9 [a] X.env=[(a4,ay a X.env)]:=by rfl) {p2:aJ}:DE X ρ (.Call (.Name "len" p2) [a] [] pos) (.int ds.length):=λσ H Q R q =>(v8 Mj hg hm gK (jc peS jr hs) (by decide) (by decide) hs).to (ha σ H _ R λv H1 g1 ⟨l,xs,e,sq,en⟩=>⟨l,xs,by rw[e],.inl sq,q _ H1 g1 (by rw[en.length];rfl)⟩)
end
def framed(sp:Sp):Sp:=λvs H Q E=>∃A:List aa,(∀a∈A,∃xs,H a=a3 (.lst xs))/\sp vs (del H A) (λv F=>(∀a∈A,F a=a5)->Q v (mrg A H F)) E
theorem FnOk.framed{P:au}{w:aA}{K:k8y}{mg:k91}{base:aD}{k:Nat}{f:aa}{fd:aG}{ps:List af}{sp:Sp}(F:FnOk P w K mg base CX0 k f fd ps sp) :
  FnOk P w K mg base CX0 k f fd ps (framed sp) where
 len:=λvs H Q E ⟨A,_,h⟩=>F.len vs _ _ _ h
 run:=by
  rintro A0 outer s H args us vs Q E hr e0 hb rv ⟨A,hA,h⟩;have nd:∀{b:aa},H b=a5->del H A b=a5:=λ{b} q=>by
   by_cases z:b∈A
   .exact qj z
   .rw[j6 z];exact q
  have out:∀{b:aa}{o:HO},H b=a3 o->(∀ys,o≠.lst ys)->del H A b=a3 o:=λ{b o} q z=>by rw[j6];exact q;intro y;obtain⟨ys,e'⟩:=hA b y;rw[q]at e';cases e';exact z ys rfl
  have e1:Env0 P w K mg base A0 outer s (del H A):=⟨e0.frames,e0.mod,λb o q=>⟨(e0.bs b o q).1,nd (e0.bs b o q).2⟩,e0.bsz,e0.funs,λb hb=>nd (e0.frf b hb),
   λa o q=>by
    obtain⟨_,q⟩:=of_del q
    exact jh.stay (e0.hok a o q) (λb u _ z=>z) (λb z=>out z λ_ y=>by cases y) (λb xs z=>out z λ_ y=>by cases y) (λb _ _ z=>out z λ_ y=>by cases y),e0.bare⟩
  refine bA (F.run A0 outer s (del H A) args us vs _ E hr e1 hb rv h) λr s' hq=>?_;cases r with
  |error e=>exact(show False from hq).elim
  |ok fl =>
   cases fl with
   |next=>exact(show False from hq).elim
   |brk=>exact(show False from hq).elim
   |cont=>exact(show False from hq).elim
   |ret u =>
    obtain⟨v,H',os,bare,un,hok',rel,q⟩:=(show CE outer P w (del H A) s _ u s' from hq)
    have kept:∀a∈A,∃o,s.heap.get? a=a3 o/\s'.heap.get? a=a3 o/\H' a=a5:=λa ha=>by
     obtain⟨xs,e⟩:=hA a ha;obtain⟨_,its,n,_,z⟩:=(show jh P w H s.heap a (.lst xs)from e0.hok _ _ e)
     have nf:a∉frs outer:=λy=>by rw[e0.frf a y]at e;cases e
     exact⟨_,z,un.keep a _ z (qj ha) nf (by simp),un.free a _ z (qj ha) (by simp)⟩
    have hF:∀a∈A,H' a=a5:=λa ha=>let ⟨_,_,_,z⟩:=kept a ha;z;have outF:∀{b:aa}{o:HO},H' b=a3 o->b∉A:=λ{b o} e z=>by rw[hF b z]at e;cases e
    refine⟨v,mrg A H H',os,bare,?_,λa o e=>?_,rel,q hF⟩
    .exact{
      keep:=λb o e n=>un.keep b o e (nd n)
      slot:=λb o e n=>un.slot b o e (nd n)
      free:=λb o e n hx=>by
       by_cases z:b∈A
       .rw[Jg z];exact n
       .rw[jg z];exact un.free b o e (nd n) hx
      there:=un.there
      tups:=λb xs e=>by
       have z:=un.tups b xs (out e λ_ y=>by cases y)
       rw[jg (outF z)];exact z
      frzs:=λb o u e=>by
       have z:=un.frzs b o u (out e λ_ y=>by cases y)
       rw[jg (outF z)];exact z
      tbls:=λb ps e=>by
       obtain⟨more,z⟩:=un.tbls b ps (out e λ_ y=>by cases y)
       exact⟨more,by rw[jg (outF z)];exact z⟩ }
    .by_cases z:a∈A
     .rw[Jg z]at e;obtain⟨xs,e'⟩:=hA a z;rw[e']at e;cases e;obtain⟨hl,its,n,r,y⟩:=(show jh P w H s.heap a (.lst xs)from e0.hok _ _ e')
      obtain⟨o',q1,q2,_⟩:=kept a z;rw[y]at q1;cases q1;exact⟨hl,its,n,r,q2⟩
     .rw[jg z]at e;refine jh.stay (hok' a o e) (λb u _ q=>q) (λb q=>?_) (λb xs q=>?_) (λb _ _ q=>?_)
      .rw[jg (outF q)];exact q
      .rw[jg (outF q)];exact q
      .rw[jg (outF q)];exact q
def spP(K:k8y)(S:List D->D->Prop):Sp:=λvs H Q _=>∃A ds d,TabOk K H/\(∀a∈A,∃xs,H a=a3 (.lst xs))/\j5 K (del H A) ds vs/\S ds d/\∀v H',j4 H H'->Enc K (del H' A) d v->Q v H'
def spF(K:k8y)(S:List D->List D->Prop):Sp:=λvs H Q _=>∃A ds l,TabOk K H/\(∀a∈A,∃xs,H a=a3 (.lst xs))/\j5 K (del H A) ds vs/\S ds l /\
 ∀a xs H',j4 H H'->H a=a5->H' a=a3 (.lst xs)->j5 K (del H' (a::A)) l xs->Q (.ref a) H'
def jli(K:k8y)(S:List D->D->Prop):Sp:=λvs H Q _=>∃ds d,TabOk K H/\j5 K H ds vs/\S ds d/\∀v H',j4 H H'->Enc K H' d v->Q v H'
def jlk(K:k8y)(S:List D->List D->Prop):Sp:=λvs H Q _=>∃ds l,TabOk K H/\j5 K H ds vs/\S ds l/\∀a xs H',j4 H H'->H a=a5->H' a=a3 (.lst xs)->j5 K (del H' [a]) l xs->Q (.ref a) H'
section
variable{P:au}{w:aA}{K:k8y}{mg:k91}{base:aD}{k:Nat}{f:aa}{fd:aG}{ps:List af}
theorem FnOk.toP{S:List D->D->Prop}(F:FnOk P w K mg base CX0 k f fd ps (jli K S)):FnOk P w K mg base CX0 k f fd ps (spP K S) :=
 F.framed.imp λvs H Q E ⟨A,ds,d,tb,hA,en,hS,q⟩=>⟨A,hA,ds,d,tb.del hA,en,hS,λv F g e hF=>q v _ (Ba g) (by rw[Z9 hF];exact e)⟩
theorem FnOk.toF{S:List D->List D->Prop}(F:FnOk P w K mg base CX0 k f fd ps (jlk K S)):FnOk P w K mg base CX0 k f fd ps (spF K S) :=
 F.framed.imp λvs H Q E ⟨A,ds,l,tb,hA,en,hS,q⟩=>⟨A,hA,ds,l,tb.del hA,en,hS,λa xs F g n e l' hF=>by
  have na:a∉A:=λz=>by rw[hF a z]at e;cases e
  refine q a xs _ (Ba g) (by rw[j6 na]at n;exact n) (by rw[jg na];exact e) (l'.mono λb o z=>?_)
  obtain⟨n1,z⟩:=of_del z
  have nb:b∉A:=λy=>by rw[hF b y]at z;cases z
  rw[j6,jg nb];exact z
  intro y
  rcases xm.mp y with y|y
  .exact n1 (by rw[y];exact xg.mpr rfl)
  .exact nb y⟩
end
noncomputable def jhj:List af:=["dearest_way","cost_on_whole","worst_table","worst_plan","foe_answer","whole_table","whole_plan","mean_price"]
noncomputable def kG(us ws:List a8):List a8:=match ws with
 |[w]=>us++[w]
 |_=>[]
noncomputable def kGV(vs zs:List V):List V:=match zs with
 |[z]=>vs++[z]
 |_=>[]
def Dfl(K:k8y)(x:af)(fd:aG)(ps:List af):Prop:=x∈jhj->Binds K fd ps [.none]/\KBinds K fd ps ["prices"] kG kGV
structure Cal(X:Cx)(x:af)(sp:Sp):Prop where
 ex:∃(k:Nat)(f:aa)(fd:aG)(ps:List af),FnOk X.prog X.w X.K X.mg X.base CX0 k f fd ps sp/\Room (k+1) X.A/\X.mg x=a3 (.ref f)/\W.keepIn X.K (.ref f)=a7/\Binds X.K fd ps []/\Dfl X.K x fd ps
section
variable{X:Cx}{ρ:Rho}{e a:ai}{es:List ai}{d:D}{ds l:List D}{pos p:aJ}{x:af}
theorem DE.call{S:List D->D->Prop}(c:Cal X x (spP X.K S))(ha:DA X ρ (e::es) ds)(hS:S ds d)(hg:Gl X x:=by rfl)(hdb:(x==k92)=a4:=by decide)
  (he:a9 (e::es) X.env=(a4,ay e X.env)::a9 es X.env:=by rfl) (hpl:(aO pos (a9 es X.env)).any (·.1)=a4:=by rfl):DE X ρ (.Call (.Name x p) (e::es) [] pos) d:=λσ H Q R q=>by
 obtain⟨k,f,fd,ps,F,hr,hm,hk,hb,_⟩:=c.ex;refine(Mz F (hr.mono (P0 _)) hg hm hk hb .nil Ky paS hdb he hpl).to (ha σ H _ R λvs H1 g1 e1=>?_);show spP X.K S (vs++[]) H1 Q E0;rw[Xo];exact⟨owns ρ,ds,d,R.tb.mono g1,(R.grow g1).owned,e1,hS,λv H2 g2 z=>q v H2 (g1.trans g2) z⟩
theorem DT.call{S:List D->D->Prop}(c:Cal X x (spP X.K S))(ha:DTA X ρ (e::es) ds)(hS:S ds d)(hg:Gl X x:=by rfl)(hdb:(x==k92)=a4:=by decide)
  (he:a9 (e::es) X.env=(a4,ay e X.env)::a9 es X.env:=by rfl) (hpl:(aO pos (a9 es X.env)).any (·.1)=a4:=by rfl):DT X ρ (.Call (.Name x p) (e::es) [] pos) d:=λσ H Q R q=>by
 obtain⟨k,f,fd,ps,F,hr,hm,hk,hb,_⟩:=c.ex;refine(Mz F (hr.mono (P0 _)) hg hm hk hb .nil Ky paS hdb he hpl).to (ha σ H _ R λvs H1 g1 e1=>?_);show spP X.K S (vs++[]) H1 Q E0;rw[Xo];exact⟨[],ds,d,R.tb.mono g1,(λa h=>nomatch h),by rw[zy];exact e1,hS,λv H2 g2 z=>q v H2 (g1.trans g2) (by rw[zy]at z;exact z)⟩
theorem DO.call{S:List D->List D->Prop}(c:Cal X x (spF X.K S))(ha:DA X ρ (e::es) ds)(hS:S ds l)(hg:Gl X x:=by rfl)(hdb:(x==k92)=a4:=by decide)
  (he:a9 (e::es) X.env=(a4,ay e X.env)::a9 es X.env:=by rfl) (hpl:(aO pos (a9 es X.env)).any (·.1)=a4:=by rfl):DO X ρ (.Call (.Name x p) (e::es) [] pos) l:=λσ H Q R q=>by
 obtain⟨k,f,fd,ps,F,hr,hm,hk,hb,_⟩:=c.ex;refine(Mz F (hr.mono (P0 _)) hg hm hk hb .nil Ky paS hdb he hpl).to (ha σ H _ R λvs H1 g1 e1=>?_);show spF X.K S (vs++[]) H1 Q E0;rw[Xo];exact⟨owns ρ,ds,l,R.tb.mono g1,(R.grow g1).owned,e1,hS,λa xs H2 g2 n m z=>q a xs H2 (g1.trans g2) (g1.free n) m z⟩
end
inductive Rt where
 |val (d:D)
 |fresh (ds:List D)
noncomputable def Rt.d:Rt->D
 |.val d=>d
 |.fresh l=>.lst l
structure Po where
 nx:Rho->Prop
 rt:Rt->Prop
 bk:Rho->Prop:=λ_=>False
 ct:Rho->Prop:=λ_=>False
 ex:af->Rho->Prop:=λ_ _=>False
structure FlQ(q:a8->Prop)(N:aa->Prop)(H:Hp)(h:aD)(e:aa)(C:a8):Prop where
 new:∀b,N b->b≠e
 free:H e=a5
 obj:∃(oe:cE)(vs:Array a8)(a0:a8),h.get? e=a3 oe/\oe.cls=C/\oe.data=.fields vs/\vs[0]?=a3 a0 /\
  (vs[1]?=a3 .none\/∃(T:aa)(oT:cE)(ts:Array a8)(fl:a8),vs[1]?=a3 (.ref T)/\T≠e/\h.get? T=a3 oT/\oT.data=.fields ts/\(ts[3]?=a3 fl/\q fl)/\H T=a5/\∀b,N b->b≠T)
def flN(v:a8):Prop:=v=.none
def flF(env:cH)(v:a8):Prop:=v=.none\/∃L,env.frame=a3 L/\v=cw L
abbrev Fl(N:aa->Prop)(H:Hp)(h:aD)(e:aa)(C:a8):Prop:=FlQ flN N H h e C
theorem FlQ.up{q q':a8->Prop}{N N':aa->Prop}{H:Hp}{h:aD}{e:aa}{C:a8}(F:FlQ q N H h e C)(hq:∀v,q v->q' v)(hN:∀b,N' b->N b):FlQ q' N' H h e C:=by refine⟨λb hb=>F.new b (hN b hb),F.free,?_⟩;obtain⟨oe,vs,a0,z1,z2,z3,z4,z5⟩:=F.obj;refine⟨oe,vs,a0,z1,z2,z3,z4,z5.imp id ?_⟩;rintro⟨T,oT,ts,fl,y1,y2,y3,y4,⟨y5,y6⟩,y7,y8⟩;exact⟨T,oT,ts,fl,y1,y2,y3,y4,⟨y5,hq _ y6⟩,y7,λb hb=>y8 b (hN b hb)⟩
def Old(X:Cx)(pins:k90)(b:aa):Prop:=(∃o,X.s₀.heap.get? b=a3 o/\b∉X.ex)\/(∃p∈X.pn++pins,p.1=b)\/b=X.env.locals\/∃x,X.env.cells.lookup x=a3 b
def U9(X:Cx)(σ:St)(H:Hp)(x:af):Prop:=∀(pins:k90) (H':Hp) (s':ae) (e:aa) (C:a8),Inv X pins σ H' s'->j4 H H'->X.mg x=a3 C->FlQ (flF X.env) (Old X pins) H' s'.heap e C->X.xe (.ref e) s'
theorem U9.mono{X:Cx}{σ:St}{H H1:Hp}{x:af}(h:U9 X σ H x)(g:j4 H H1):U9 X σ H1 x:=λpins H' s' e C I g'=>h pins H' s' e C I (g.trans g')
def Fr0(ρ ρ':Rho)(H H':Hp):Prop:=j4 (del H (owns ρ)) (del H' (owns ρ'))
def Cw(K:k8y)(ρ:Rho)(H H':Hp)(v:V):Rt->Prop
 |.val d=>j4 (del H (owns ρ)) H'/\Enc K H' d v
 |.fresh ds=>∃a xs,v=.ref a/\j4 (del H (owns ρ)) (del H' [a])/\H' a=a3 (.lst xs)/\j5 K (del H' [a]) ds xs
structure EndsOk(X:Cx)(ρ:Rho)(H:Hp)(P:Po)(E:Ends):Prop where
 nx:∀ρ' σ' H',P.nx ρ'->Rep X.K ρ' σ' H'->Fr0 ρ ρ' H H'->E.nx σ' H'
 bk:∀ρ' σ' H',P.bk ρ'->Rep X.K ρ' σ' H'->Fr0 ρ ρ' H H'->E.bk σ' H'
 ct:∀ρ' σ' H',P.ct ρ'->Rep X.K ρ' σ' H'->Fr0 ρ ρ' H H'->E.ct σ' H'
 rt:∀r v H',P.rt r->Cw X.K ρ H H' v r->E.rt v H'
 ex:∀x ρ' σ' H',P.ex x ρ'->Rep X.K ρ' σ' H'->Fr0 ρ ρ' H H'->U9 X σ' H' x
theorem Cw.step{K:k8y}{ρ ρ1:Rho}{H H1 H':Hp}{v:V}{r:Rt}(f:Fr0 ρ ρ1 H H1)(h:Cw K ρ1 H1 H' v r):Cw K ρ H H' v r:=by
 cases r with
 |val d=>exact⟨f.trans h.1,h.2⟩
 |fresh ds=>obtain⟨a,xs,e,g,m,l⟩:=h;exact⟨a,xs,e,f.trans g,m,l⟩
theorem EndsOk.step{X:Cx}{ρ ρ1:Rho}{H H1:Hp}{P:Po}{E:Ends}(h:EndsOk X ρ H P E)(f:Fr0 ρ ρ1 H H1):EndsOk X ρ1 H1 P E :=
 ⟨λρ' σ' H' n R g=>h.nx ρ' σ' H' n R (f.trans g),λρ' σ' H' n R g=>h.bk ρ' σ' H' n R (f.trans g),λρ' σ' H' n R g=>h.ct ρ' σ' H' n R (f.trans g),λr v H' n g=>h.rt r v H' n (Cw.step f g),λx ρ' σ' H' n R g=>h.ex x ρ' σ' H' n R (f.trans g)⟩
theorem Fr0.grow{ρ:Rho}{H H':Hp}(g:j4 H H'):Fr0 ρ ρ H H':=jf g
theorem Fr0.refl(ρ:Rho)(H:Hp):Fr0 ρ ρ H H:=j4.refl _
theorem Fr0.drop{ρ ρ':Rho}{H:Hp}(h:∀b∈owns ρ',b∈owns ρ):Fr0 ρ ρ' H H:=vy h
theorem Fr0.new{ρ:Rho}{H H':Hp}{i:Nat}{a:aa}{ds:List D}{K:k8y}{σ:St}(R:Rep K ρ σ H)(g:j4 H H')(n:H a=a5):Fr0 ρ (ρ.set i (.own a ds)) H H':=λb o q=>by
 obtain⟨nb,q⟩:=of_del q;rw[j6];exact g b o q;intro z;rcases(Q4 (ds:=ds) (i:=i) R.nd (R.fresh n)).2 b z with e|z
 .subst e;rw[n]at q;cases q
 .exact nb z
def DS(X:Cx)(ρ:Rho)(st:aP)(P:Po):Prop:=∀σ H E,Rep X.K ρ σ H->EndsOk X ρ H P E->j81 X st E σ H
def DSs(X:Cx)(ρ:Rho)(sts:List aP)(P:Po):Prop:=∀σ H E,Rep X.K ρ σ H->EndsOk X ρ H P E->Yi X sts E σ H
section
variable{X:Cx}{ρ:Rho}{e a b c:ai}{es:List ai}{st:aP}{rest sa sb body:List aP}{P:Po}{d:D}{ds ds':List D}{pos p p1 p2 p3:aJ}{x:af}{i:Nat}
theorem DSs.nil(h:P.nx ρ):DSs X ρ [] P:=λσ H E R q=>j21.to (q.nx ρ σ H h R (Fr0.refl ρ H))
theorem DSs.cons{N:Rho->Prop}(h1:DS X ρ st { P with nx:=N })(h2:∀ρ1,N ρ1->DSs X ρ1 rest P):DSs X ρ (st::rest) P:=λσ H E R q =>(Wi psS Wj).to (h1 σ H { E with nx:=Yi X rest E } R ⟨λρ' σ' H' n R' f=>h2 ρ' n σ' H' E R' (q.step f),q.bk,q.ct,q.rt,q.ex⟩)
theorem DSs.freeze(i:Nat){l:aa}(h:ρ[i]?=a3 (.own l ds))(h2:DSs X (ρ.set i (.val (.lst ds))) body P):DSs X ρ body P:=λσ H E R q =>h2 σ H E (R.freeze h) (q.step (.drop λb hb=>(ji rfl).subset hb))
theorem DS.set(i:Nat)(he:DE X ρ e d)(h:P.nx (ρ.set i (.val d)))(hN:X.N.Nodup)(hi:X.N[i]?=a3 x:=by rfl)(hx:Loc X.env.scope x:=by first|exact aX rfl|exact bN rfl)
  (hs:aS e (a3 (.Name x p)) pos.line X.env=pure a4:=by rfl) (hf:X.fn x=a7\/X.env.scope.names.lookup x=a3 .local:=by first|exact .inl rfl|exact .inr rfl):DS X ρ (.Assign [.Name x p] e pos) P:=λσ H E R q =>
 (W7 hN hi hx peS hs hf).to (he σ H _ R λv H1 g1 e1=>q.nx _ _ H1 h ((R.grow g1).set_val e1) (j4.trans (Fr0.grow g1) (Fr0.drop λb hb=>(ji rfl).subset hb)))
theorem DS.setO(i:Nat)(he:DO X ρ e ds)(h:∀l,P.nx (ρ.set i (.own l ds)))(hN:X.N.Nodup)(hi:X.N[i]?=a3 x:=by rfl)(hx:Loc X.env.scope x:=by first|exact aX rfl|exact bN rfl)
  (hs:aS e (a3 (.Name x p)) pos.line X.env=pure a4:=by rfl) (hf:X.fn x=a7\/X.env.scope.names.lookup x=a3 .local:=by first|exact .inl rfl|exact .inr rfl):DS X ρ (.Assign [.Name x p] e pos) P:=λσ H E R q =>
 (W7 hN hi hx peS hs hf).to (he σ H _ R λl xs H1 g1 n m e1=>q.nx _ _ H1 (h l) (R.set_own g1 n m e1) (.new R g1 n))
theorem DS.if{k:Bool}(hc:DB X ρ c k)(ha:k=a7->DSs X ρ sa P)(hb:k=a4->DSs X ρ sb P):DS X ρ (.If c sa sb pos) P:=λσ H E R q =>
 (jj8 ptS Wj Wj).to (hc σ H _ R λH1 g1=>by
  cases k with
  |true=>exact j3x (ha rfl σ H1 E (R.grow g1) (q.step (.grow g1)))
  |false=>exact j3y (hb rfl σ H1 E (R.grow g1) (q.step (.grow g1))))
theorem DS.ret(he:DT X ρ e d)(h:P.rt (.val d)):DS X ρ (.Return (a3 e) pos) P:=λσ H E R q =>(Rx peS).to (he σ H _ R λv H1 g1 e1=>q.rt _ v H1 h ⟨jo.trans g1,e1⟩)
theorem DS.retO(he:DO X ρ e ds)(h:P.rt (.fresh ds)):DS X ρ (.Return (a3 e) pos) P:=λσ H E R q =>
 (Rx peS).to (he σ H _ R λl xs H1 g1 n m e1=>q.rt _ _ H1 h ⟨l,xs,rfl,(λb o z=>by
  obtain⟨nb,z⟩:=of_del z
  rw[j6];exact g1 b o z
  intro y;rw[xg.mp y,n]at z;cases z),m,e1.mono (vy λb hb=>by rw[xg.mp hb];exact xr ..)⟩)
theorem DS.retV(k:Nat){l:aa}(hk:ρ[k]?=a3 (.own l ds))(h:P.rt (.fresh ds))(hN:X.N[k]?=a3 x:=by rfl)(hv:Vis X.env.scope x:=by first|exact aX rfl|exact bN (aX rfl)|exact bN (bN rfl))
  (hd:(x==k92)=a4:=by decide) (hcd:(x==k93)=a4:=by decide):DS X ρ (.Return (a3 (.Name x p)) pos) P:=λσ H E R q=>by
 obtain⟨hs,xs,m,en⟩:=R.own k l ds hk;have g:j4 (del H (owns ρ)) (del H [l]):=vy λb hb=>by rw[xg.mp hb];exact Z1 hk
 exact(Rx (Jk hN hv hd hcd)).to ⟨_,hs,q.rt _ _ H h ⟨l,xs,rfl,g,m,en.mono g⟩⟩
theorem DS.expr(he:DT X ρ e d)(h:P.nx ρ)(hs:aS e a5 pos.line X.env=pure a4:=by rfl):DS X ρ (.Expr e pos) P:=λσ H E R q =>(Mt peS hs).to (he σ H _ R λv H1 g1 e1=>q.nx ρ σ H1 h (R.grow g1) (.grow g1))
theorem j6g{σ:St}{H H':Hp}{l:aa}{o:HO}(hk:ρ[i]?=a3 (.own l ds))(g:j4 H H'):Fr0 ρ (ρ.set i (.own l ds')) H (upd H' l o):=by unfold Fr0;rw[Y8 hk,Yp (Z1 hk)];exact jf g
theorem DS.append(i:Nat){l:aa}(hk:ρ[i]?=a3 (.own l ds))(he:DE X ρ e d)(hl:ds.length<aq)(h:P.nx (ρ.set i (.own l (ds++[d]))))
  (hN:X.N[i]?=a3 x:=by rfl) (hv:Vis X.env.scope x:=by first|exact aX rfl|exact bN (aX rfl)|exact bN (bN rfl)) (hd:(x==k92)=a4:=by decide) (hcd:(x==k93)=a4:=by decide)
  (hst:a9 [e] X.env=[(a4,ay e X.env)]:=by rfl) (hline:(p1.endLine==p2.line)=a7:=by rfl)
  (hbase:aL (.Name x p) "append" X.env (ay (.Name x p) X.env)=ay (.Name x p) X.env:=by rfl) (hfew:((aO p2 (a9 [e] X.env)).all (λx=>!x.1)&&(bB p2 (aY [] X.env)).all (λx=>x.1.isSome)
   && decide (([e]:List ai).length+([]:List aZ).length+(if ([]:List aZ).isEmpty then 0 else 1)<30))=a7:=by rfl)
  (hs:aS (.Call (.Attribute (.Name x p) "append" p1) [e] [] p2) a5 pos.line X.env=pure a4:=by rfl) :
  DS X ρ (.Expr (.Call (.Attribute (.Name x p) "append" p1) [e] [] p2) pos) P:=λσ H E R q=>by
 obtain⟨hσ,xs,m,en⟩:=R.own i l ds hk;refine(Mt (Wm cc iB PySem.F.type_list_append Li (Jk hN hv hd hcd) (jc peS jr hst) hbase hfew hline hst rfl) hs).to ?_;refine⟨_,hσ,.inl ⟨rfl,xs,.inl (.inl m)⟩,he σ H _ R λv H1 g1 e1=>⟨l,xs,v,rfl,rfl,g1 _ _ m,by rw[en.length];exact hl,?_⟩⟩;exact q.nx _ σ _ h ((R.grow g1).upd_own hk ((en.mono (jf g1)).append (.one e1))) (j6g (σ:=σ) hk g1)
theorem DS.extend(i:Nat){l:aa}(hk:ρ[i]?=a3 (.own l ds))(he:DO X ρ e ds')(hl:ds.length+ds'.length<=aq)(h:P.nx (ρ.set i (.own l (ds++ds'))))
  (hN:X.N[i]?=a3 x:=by rfl) (hv:Vis X.env.scope x:=by first|exact aX rfl|exact bN (aX rfl)|exact bN (bN rfl)) (hd:(x==k92)=a4:=by decide) (hcd:(x==k93)=a4:=by decide)
  (hst:a9 [e] X.env=[(a4,ay e X.env)]:=by rfl) (hline:(p1.endLine==p2.line)=a7:=by rfl)
  (hbase:aL (.Name x p) "extend" X.env (ay (.Name x p) X.env)=ay (.Name x p) X.env:=by rfl) (hfew:((aO p2 (a9 [e] X.env)).all (λx=>!x.1)&&(bB p2 (aY [] X.env)).all (λx=>x.1.isSome)
   && decide (([e]:List ai).length+([]:List aZ).length+(if ([]:List aZ).isEmpty then 0 else 1)<30))=a7:=by rfl)
  (hs:aS (.Call (.Attribute (.Name x p) "extend" p1) [e] [] p2) a5 pos.line X.env=pure a4:=by rfl) :
  DS X ρ (.Expr (.Call (.Attribute (.Name x p) "extend" p1) [e] [] p2) pos) P:=λσ H E R q=>by
 obtain⟨hσ,xs,m,en⟩:=R.own i l ds hk;refine(Mt (Wm cc iA PySem.F.type_list_extend j62 (Jk hN hv hd hcd) (jc peS jr hst) hbase hfew hline hst rfl) hs).to ?_;refine⟨_,hσ,.inl ⟨rfl,xs,.inl (.inl m)⟩,he σ H _ R λb ys H1 g1 n1 m1 e1=>⟨l,b,xs,ys,rfl,rfl,g1 _ _ m,m1,by rw[en.length,e1.length];exact hl,?_⟩⟩;exact q.nx _ σ _ h ((R.grow g1).upd_own hk ((en.mono (jf g1)).append (e1.mono (vy λc hc=>kj _ hc)))) (j6g (σ:=σ) hk g1)
def Ub(K:k8y)(F:Hp)(J:It)(ds:List D):Prop:=∀(i:Nat)(H:Hp)(A:List aa),j4 F (del H A)->(∀a∈A,H a≠a5) ->
 (i<ds.length->J.go i H)/\(ds.length<=i->J.stop i H)/\∀x H',J.yld i H x H'->j4 H H'/\∀d,ds[i]?=a3 d->Enc K (del H' A) d x
def DI(X:Cx)(ρ:Rho)(tg it:ai)(ds:List D):Prop:=∀σ H R,Rep X.K ρ σ H->(∀J H',j4 H H'->Ub X.K (del H' (owns ρ)) J ds->R J H')->Ej X tg it σ H R
variable{tg it:ai}
theorem j6a{K:k8y}{F:Hp}{l:aa}{xs:List V}(sq:SqL K F l xs)(en:j5 K F ds xs):Ub K F (Itl K l) ds:=λi H A g hA=>by
 have sq':SqL K H l xs:=jo.seq (g.seq sq);refine⟨λh=>?_,λh=>⟨xs,sq',by rw[en.length];exact h⟩,λx H' ⟨e,y⟩=>?_⟩
 .obtain⟨v,hv,_⟩:=en.get (kh h);exact⟨xs,v,sq',hv⟩
 .subst e;refine⟨j4.refl _,λd hd=>?_⟩;obtain⟨v,hv,ev⟩:=en.get hd;have e:=y xs sq';rw[hv]at e;cases e;exact ev.mono g
theorem j8w{K:k8y}{F:Hp}{l:aa}{xs:List V}(sq:SqT K F l xs)(en:j5 K F ds xs):Ub K F (Itt K l) ds:=λi H A g hA=>by
 have sq':SqT K H l xs:=jo.seqT (g.seqT sq);refine⟨λh=>?_,λh=>⟨xs,sq',by rw[en.length];exact h⟩,λx H' ⟨e,y⟩=>?_⟩
 .obtain⟨v,hv,_⟩:=en.get (kh h);exact⟨xs,v,sq',hv⟩
 .subst e;refine⟨j4.refl _,λd hd=>?_⟩;obtain⟨v,hv,ev⟩:=en.get hd;have e:=y xs sq';rw[hv]at e;cases e;exact ev.mono g
theorem DI.lst(h:DE X ρ it (.lst ds)):DI X ρ tg it ds:=λσ H R r q=>(jc8 peS).to (h σ H _ r λv H1 g1 ⟨l,xs,e,sq,en⟩=>⟨l,e,⟨xs,jo.seq sq⟩,q _ H1 g1 (j6a sq en)⟩)
theorem DI.tup(h:DE X ρ it (.tup ds)):DI X ρ tg it ds:=λσ H R r q=>(jfe peS).to (h σ H _ r λv H1 g1 ⟨l,xs,e,sq,en⟩=>⟨l,e,⟨xs,jo.seqT sq⟩,q _ H1 g1 (j8w sq en)⟩)
noncomputable def upto(lo:Int)(n:Nat):List D:=(aE n).map λk=>D.int (lo+(k:Nat))
theorem Nr{K:k8y}{F:Hp}(lo:Int)(n:Nat):Ub K F (Itr lo n) (upto lo n):=λi H A g hA=>by
 have hl:(upto lo n).length=n:=by unfold upto;rw[xj,Pg]
 rw[hl];refine⟨λh=>h,λh=>h,λx H' ⟨e,y⟩=>?_⟩;subst e;refine⟨j4.refl _,λd hd=>?_⟩;unfold upto at hd;rw[X7]at hd;cases z:(aE n)[i]? with
 |none=>rw[z]at hd;cases hd
 |some k =>
  rw[z]at hd;have ek:k=i:=by have:=Th (n:=n) (i:=i) (by have:=(Xa.mp z).1;rwa [Pg]at this);rw[this]at z;exact(ax z).symm
  subst ek;cases hd;exact y
theorem DI.range1 {n:Int} (h:DT X ρ a (.int n)) (hm:X.mg "range" = a5) (h1:-(2^62)<=n) (h2:n<2^62) (hg:Gl X "range":=by rfl) (hs:a9 [a] X.env=[(a4,ay a X.env)]:=by rfl):DI X ρ tg (.Call (.Name "range" p) [a] [] pos) (upto 0 n.toNat):=λσ H R r q =>(j5q hg hm (jc peS jr hs) hs).to (h σ H _ r λv H1 g1 e=>⟨n,by rw[show v=.int n from e],h1,h2,q _ H1 g1 (Nr 0 _)⟩)
theorem DI.range2 {m n:Int} (h:DT X ρ a (.int m)) (h':DT X ρ b (.int n)) (hm:X.mg "range" = a5) (h1:-(2^62)<=m) (h2:m<2^62) (h3:-(2^62)<=n) (h4:n<2^62) (hg:Gl X "range":=by rfl) (hs:a9 [a,b] X.env=[(a4,ay a X.env),(a4,ay b X.env)]:=by rfl)
  (hs2:a9 [b] X.env=[(a4,ay b X.env)]:=by rfl) (hs3:a9 [a,b] X.env=(a4,ay a X.env)::a9 [b] X.env:=by rfl):DI X ρ tg (.Call (.Name "range" p) [a,b] [] pos) (upto m (n-m).toNat):=λσ H R r q =>
 (j5p hg hm (jc peS (jc peS jr hs2) hs3) hs hs2).to (h σ H _ r λv H1 g1 e=>h' σ H1 _ (r.grow g1) λu H2 g2 e2=>⟨m,n,by rw[show v=.int m from e,show u=.int n from e2],⟨h1,h2,h3,h4⟩,q _ H2 (g1.trans g2) (Nr m _)⟩)
def j82(X:Cx)(tg:ai):TG:=λv σ H Q=>∀pins s u,Inv X pins σ H s->RelV v u->ar (aw X.prog X.w) X.A (fE tg X.env u) (λ_ s'=>∃σ' H',Inv X pins σ' H' s'/\Q σ' H') X.xe s
theorem pgS:PG X tg (j82 X tg):=λpins s σ H v u Q I r h=>h pins s u I r
theorem PG.to{t:TG}{σ:St}{H:Hp}{v:V}{Q:St->Hp->Prop}(h:PG X tg t)(q:t v σ H Q):j82 X tg v σ H Q:=λpins s u I r=>h pins s σ H v u Q I r q
def DG(X:Cx)(ρ:Rho)(tg:ai)(d:D)(ρ':Rho):Prop:=(∀b∈owns ρ',b∈owns ρ)/\∀σ H v Q,Rep X.K ρ σ H->Enc X.K (del H (owns ρ)) d v->(∀σ',Rep X.K ρ' σ' H->Q σ' H)->j82 X tg v σ H Q
theorem DG.name(i:Nat)(hN:X.N.Nodup)(hi:X.N[i]?=a3 x:=by rfl)(hx:Loc X.env.scope x:=by first|exact aX rfl|exact bN rfl)(hf:X.fn x=a7\/X.env.scope.names.lookup x=a3 .local:=by first|exact .inl rfl|exact .inr rfl):DG X ρ (.Name x p) d (ρ.set i (.val d)) :=
 ⟨λb hb=>(ji rfl).subset hb,λσ H v Q R en q=>(Mw hN hi hx hf).to (q _ (R.set_val en))⟩
theorem DS.for(W:Nat->Rho->Prop)(hi:DI X ρ tg it ds)(h0:W 0 ρ)(hs:∀i d ρ',ds[i]?=a3 d->W i ρ'->∃ρ2,DG X ρ' tg d ρ2/\DSs X ρ2 body { nx:=W (i+1),rt:=P.rt,bk:=P.nx,ct:=W (i+1),ex:=P.ex })
  (hd:∀ρ',W ds.length ρ'->P.nx ρ') (hc:X.calm=a7) (hp:d5 (aw X.prog X.w) X.A X.env X.xe) (hf:∀x,aF it X.env x=pure x:=by intro _;rfl):DS X ρ (.For tg it body [] pos) P:=λσ H E R q=>by
 refine(j5k hp hc piS pgS Wj hf).to (hi σ H _ R λJ H1 g1 ok=>?_);refine⟨λi m σ' H'=>∃ρ',W i ρ'/\Rep X.K ρ' σ' H'/\Fr0 ρ ρ' H1 H'/\m=ds.length-i/\i<=ds.length,⟨ds.length,ρ,h0,R.grow g1,Fr0.refl _ _,rfl,Ti _⟩,?_⟩;rintro i m σ' H' ⟨ρ',w,R',f,rfl,hle⟩;obtain⟨go,stop,yld⟩:=ok i H' (owns ρ') f λa ha=>by obtain⟨xs,e⟩:=R'.owned a ha;rw[e];simp
 by_cases hlt:i<ds.length
 .refine .inr ⟨go hlt,λσ2 H2=>∃ρ2,W (i+1) ρ2/\Rep X.K ρ2 σ2 H2/\Fr0 ρ ρ2 H1 H2,λσ2 H2 ⟨ρ2,w2,R2,f2⟩=>⟨ds.length-(i+1),by omega,ρ2,w2,R2,f2,rfl,hlt⟩,λx H2 y=>?_⟩;obtain⟨g2,en⟩:=yld x H2 y;obtain⟨ρ2,⟨sub,hG⟩,hB⟩:=hs i ds[i] ρ' (kh hlt) w;refine hG σ' H2 x _ (R'.grow g2) (en _ (kh hlt)) λσ3 R3=>?_;have f2:Fr0 ρ ρ2 H1 H2:=j4.trans f (j4.trans (Fr0.grow g2) (Fr0.drop sub));refine hB σ3 H2 _ R3 ⟨λρ3 σ4 H4 n R4 f4=>⟨ρ3,n,R4,f2.trans f4⟩,λρ3 σ4 H4 n R4 f4=>q.nx ρ3 σ4 H4 n R4 ((Fr0.grow g1).trans (f2.trans f4)),λρ3 σ4 H4 n R4 f4=>⟨ρ3,n,R4,f2.trans f4⟩,λr v H4 n z=>q.rt r v H4 n (Cw.step ((Fr0.grow g1).trans f2) z),λx ρ3 σ4 H4 n R4 f4=>q.ex x ρ3 σ4 H4 n R4 ((Fr0.grow g1).trans (f2.trans f4))⟩
 .have e:i=ds.length:=by omega
  subst e;exact .inl ⟨stop (X3 _),q.nx ρ' σ' H' (hd ρ' w) R' ((Fr0.grow g1).trans f)⟩
end
noncomputable def jx(N:List af)(ds:List D):Rho:=ds.map Sl.val++ah (N.length-ds.length) Sl.un
theorem Zi(N:List af)(ds:List D):owns (jx N ds)=[]:=by
 unfold owns jx;rw[List.filterMap_append];have h1:(ds.map Sl.val).filterMap Sl.addr=[]:=List.filterMap_eq_nil_iff.mpr λs hs=>by obtain⟨d,_,rfl⟩:=Xe.mp hs;rfl
 have h2:(ah (N.length-ds.length) Sl.un).filterMap Sl.addr=[]:=List.filterMap_eq_nil_iff.mpr λs hs=>by rw[(Tc.mp hs).2];rfl
 rw[h1,h2];rfl
theorem Y5{K:k8y}{H:Hp}{N:List af}{ds:List D}{vs:List V}(tb:TabOk K H)(h:j5 K H ds vs):Rep K (jx N ds) (start N vs) H:=by
 have ho:=Zi N ds;have hl:=h.length;refine⟨by unfold jx start;simp[hl],λi d e=>?_,λi a l e=>?_,by rw[ho];exact eP,λi a o y e=>?_,tb⟩
 .rw[ho,zy];unfold jx at e;by_cases z:i<ds.length
  .rw[Pa (by simpa using z),X7]at e;rw[kh z]at e;cases e;obtain⟨v,hv,en⟩:=h.get (kh z);refine⟨v,?_,en⟩;unfold start;rw[Pa (by rw[xj,hl];exact z),X7,hv];rfl
  .rw[bR (by simpa using z)]at e;have:=Xm e;cases(Tc.mp this).2
 .have:=Z1 e;rw[ho]at this;cases this
 .unfold jx at e;rcases Pq.mp (Xm e)with z|z
  .obtain⟨d,_,q⟩:=Xe.mp z;cases q
  .cases(Tc.mp z).2
section
variable{P:au}{w:aA}{K:k8y}{mg:k91}{base:aD}{x qual:af}{st:aP}{f:aa}{fd:aG}{N ps:List af}{k:Nat}
def W0(K:k8y)(f:aa)(cdv:a8):Prop:=∃(oc:a8)(od:Option aa)(fd:aG)(sl:Array (Option a8)),K.lookup f=a3 ⟨oc,od,.func fd,sl⟩/\fd.code=cdv
theorem Fun.okC{sp:Sp}(F:Fun K x qual st f fd)(S:FnScope N ps (j0 st))(len:∀vs H Q E,sp vs H Q E->vs.length=ps.length)
  (hbody:∀(cdv:a8)(A:aB)(outer:List cH)(s:ae)(H:Hp)(vs:List V)(Q:VK) (E:XK),W0 K f cdv->Room k (A.deeper (bp qual (j0 st) s.heap.objs.size f cdv))->sp vs H Q E ->
   ∃t,PSs (qi CX0 P w K mg base N qual (j0 st) f cdv A outer s H E).nox (jd st) t/\t { nx:=λ_ H'=>Q .non H',rt:=Q } (start N vs) H):FnOk P w K mg base CX0 (k+1) f fd ps sp:=by
 obtain⟨oc,od,dV,kV,doc,pm,an,cdv,ct,osl,rfl,lk,hcd⟩:=F.ex;refine j40 lk hcd S len λA outer s H vs Q E hr hsp=>?_;obtain⟨t,h,q⟩:=hbody cdv A outer s H vs Q E ⟨oc,od,_,osl,lk,rfl⟩ hr hsp;exact⟨t,h.nox,q⟩
theorem Dy{S:List D->D->Prop}(F:Fun K x qual st f fd)(Sc:FnScope N ps (j0 st))(hl:∀ds d,S ds d->ds.length=ps.length)
  (hbody:∀(cdv:a8)(A:aB)(outer:List cH)(s:ae)(H:Hp)(E:XK),W0 K f cdv->Room k (A.deeper (bp qual (j0 st) s.heap.objs.size f cdv))->∀ds d,S ds d ->
   DSs (qi CX0 P w K mg base N qual (j0 st) f cdv A outer s H E).nox (jx N ds) (jd st) { nx:=λ_=>d=.non,rt:=λr=>r.d=d }):FnOk P w K mg base CX0 (k+1) f fd ps (spP K S):=by
 refine FnOk.toP (F.okC Sc (λvs H Q E ⟨ds,d,tb,en,hS,_⟩=>by rw[en.length];exact hl ds d hS) λcdv A outer s H vs Q E hcv hr ⟨ds,d,tb,en,hS,q⟩=>⟨_,Wj,?_⟩);have ho:=Zi N ds;refine hbody cdv A outer s H E hcv hr ds d hS (start N vs) H _ (Y5 tb en) ⟨λρ' σ' H' n R f=>?_,λ_ _ _ z=>z.elim,λ_ _ _ z=>z.elim,λr v H' n z=>?_,λ_ _ _ _ z=>z.elim⟩
 .subst n;unfold Fr0 at f;rw[ho,zy]at f;exact q _ H' (f.trans jo) rfl
 .cases r with
  |val d' =>cases(show d'=d from n);obtain⟨g,en'⟩:=z;rw[ho,zy]at g;exact q v H' g en'
  |fresh l =>cases(show D.lst l=d from n);obtain⟨a,xs,e,g,m,en'⟩:=z;rw[ho,zy]at g;exact q v H' (g.trans jo) ⟨a,xs,e,.inl (.inl m),en'.mono jo⟩
theorem j98{S:List D->List D->Prop}(F:Fun K x qual st f fd)(Sc:FnScope N ps (j0 st))(hl:∀ds d,S ds d->ds.length=ps.length)
  (hbody:∀(cdv:a8)(A:aB)(outer:List cH)(s:ae)(H:Hp)(E:XK),W0 K f cdv->Room k (A.deeper (bp qual (j0 st) s.heap.objs.size f cdv))->∀ds l,S ds l ->
   DSs (qi CX0 P w K mg base N qual (j0 st) f cdv A outer s H E).nox (jx N ds) (jd st) { nx:=λ_=>False,rt:=λr=>r=.fresh l }):FnOk P w K mg base CX0 (k+1) f fd ps (spF K S):=by
 refine FnOk.toF (F.okC Sc (λvs H Q E ⟨ds,d,tb,en,hS,_⟩=>by rw[en.length];exact hl ds d hS) λcdv A outer s H vs Q E hcv hr ⟨ds,l,tb,en,hS,q⟩=>⟨_,Wj,?_⟩);have ho:=Zi N ds;refine hbody cdv A outer s H E hcv hr ds l hS (start N vs) H _ (Y5 tb en) ⟨λρ' σ' H' n R f=>n.elim,λ_ _ _ z=>z.elim,λ_ _ _ z=>z.elim,λr v H' n z=>?_,λ_ _ _ _ z=>z.elim⟩;cases(show r=.fresh l from n);obtain⟨a,xs,e,g,m,en'⟩:=z;rw[ho,zy]at g;subst e;refine q a xs H' (g.trans jo) ?_ m en';cases y:H a with
 |none=>rfl
 |some o=>have:=g a o y;rw[qj (xg.mpr rfl)]at this;cases this
end
section
variable{prog:au}{w:aA}{A:aB}{R:eB->ae->Prop}{s:ae}
theorem j0q{elt target iter:ai}{ifs:List ai}{scope:b9}{pos:aJ}{it acc:a8}{env:cH}(I:Nat->ae->Prop)
  (turn:∀n s,I n s->ar (aw prog w) A (fw it) (λr s₁=>match r with
   |none=>R (.ok .next) s₁
   |some v=>ar (aw prog w) A (eX target it v) (λ_ s₁'=>ar (aw prog w) A (fE target env v) (λ_ s₂ =>
     ar (aw prog w) A (forIn ifs a7 λc r=>if r=a7 then do let ok <-gp c env (ay c env);pure (bV ok)else pure (bV r)) (λok s₃ =>
      if ok=a7 then ar (aw prog w) A (ay elt env) (λx s₄ =>
       ar (aw prog w) A (call (.builtin "list.append") [acc,x]) (λ_ s₅=>∃m,m<n/\I m s₅) (λ_ _=>False) s₄) (λ_ _=>False) s₃
      else ∃m,m<n/\I m s₃) (λ_ _=>False) s₂) (λ_ _=>False) s₁') (λ_ _=>False) s₁) (λ_ _=>False) s)
  (n:Nat) (h:I n s) :
  bK (aw prog w) A (.compLoop (.ListComp elt [⟨target,iter,ifs,0⟩] scope pos) 0 it acc env) R s:=by
 refine codeAny_loop rfl I (λn s hI=>?_) n h;show ar _ A ((compTurn (.ListComp elt [⟨target,iter,ifs,0⟩] scope pos) 0 it acc env).onRaise (λx=>do cZ x env;mw x)) _ _ s;refine wpAny_noted ?_;rw[mY];refine a6 (d7 (a6 (aI (turn n s hI) (λr s₁ h₁=>?_) λ_ _ h'=>h'.elim)));cases r with
 |none=>exact aj h₁
 |some v =>
  refine a6 (aI h₁ (λ_ s₁' h₁'=>?_) λ_ _ h'=>h'.elim);refine a6 (aI h₁' (λ_ s₂ h₂=>a6 (aI h₂ (λok s₃ h₃=>?_) λ_ _ h'=>h'.elim)) λ_ _ h'=>h'.elim);cases ok with
  |false=>exact aj ⟨rfl,h₃⟩
  |true =>exact a6 (a6 (aI h₃ (λx s₄ h₄=>a6 (aI h₄ (λ_ s₅ h₅=>aj (aj ⟨rfl,h₅⟩)) λ_ _ h'=>h'.elim)) λ_ _ h'=>h'.elim))
end
noncomputable def zm(env:cH):List (af×br)->List (af×aa)->List (af×aa)
 |[],acc=>acc
 |(n,k)::r,acc=>zm env r (if k==.free then(match env.cells.lookup n with|some a=>(n,a)::acc|none=>acc)else acc)
theorem R8{scope:b9}{env:cH}(h:∀y∈scope.names,y.2=.free->(env.cells.lookup y.1).isSome=a7):d4 scope env=pure (zm env scope.names []):=by
 simp only[d4];have step:∀(names:List (af×br)) (acc:List (af×aa)),(∀y∈names,y.2=.free->(env.cells.lookup y.1).isSome=a7) ->
   (forIn names acc (λx r=>(do if (x.2==bf)=a7 then(do let a <-cellOf env x.1;pure (bV ((x.1,a)::r)))else pure (bV r):kY _)):kY _)=pure (zm env names acc):=by
  intro names;induction names with
  |nil=>intro acc _;rfl
  |cons y r ih =>
   intro acc hy;obtain⟨n,k⟩:=y;rw[List.forIn_cons];by_cases e:(k==bf)=a7
   .have hk:k=.free:=by simpa using e
    have hs:=hy (n,k) (xr ..) hk;obtain⟨a,ha⟩:=Xn.mp hs;have hc:cellOf env n=pure a:=by unfold cellOf;rw[ha]
    simp only[e,if_true,hc,pure_bind];rw[ih _ λz hz=>hy z (kj _ hz)];simp only[zm,e,if_true,ha]
   .have e':(k==bf)=a4:=by simpa using e
    simp only[e',Xv,if_false,pure_bind];rw[ih _ λz hz=>hy z (kj _ hz)];simp only[zm,e',Xv,if_false]
 have:=step scope.names [] h;rw[show(forIn scope.names ([]:List (af×aa)) λx r=>_)=_ from this];rfl
theorem K4{env:cH}{y:af}{c:aa}:∀{names:List (af×br)} {acc:List (af×aa)},(∀y c,acc.lookup y=a3 c->env.cells.lookup y=a3 c)->(zm env names acc).lookup y=a3 c->env.cells.lookup y=a3 c
 |[],acc,h,q=>h y c q
 |(n,k)::r,acc,h,q=>by
  unfold zm at q;refine K4 (acc:=_) ?_ q;intro z d hz;split at hz
  .split at hz
   .rename_i a ha;rw[Xj]at hz;split at hz
    .rename_i e;have e':z=n:=by simpa using e
     subst e';cases hz;exact ha
    .exact h z d hz
   .exact h z d hz
  .exact h z d hz
theorem Fj{env:cH}{y:af}:∀{names:List (af×br)} {acc:List (af×aa)},(acc.lookup y).isSome=a7->((zm env names acc).lookup y).isSome=a7
 |[],acc,h=>h
 |(n,k)::r,acc,h=>by
  unfold zm;refine Fj ?_;split
  .split
   .rw[Xj];split
    .rfl
    .exact h
   .exact h
  .exact h
theorem R9{env:cH}{y:af}(hs:(env.cells.lookup y).isSome=a7):∀{names:List (af×br)} {acc:List (af×aa)},(y,bf)∈names->((zm env names acc).lookup y).isSome=a7
 |[],acc,h=>nomatch h
 |(n,k)::r,acc,h=>by
  unfold zm;rcases xm.mp h with e|h
  .cases e;refine Fj ?_;obtain⟨a,ha⟩:=Xn.mp hs;rw[if_pos (by rfl),ha];rw[Xj];simp
  .exact R9 hs h
noncomputable def J7(scope:b9)(env:cH)(N:List af)(cs:List Nat):Bool :=
 scope.names.all (λy=>(y.2 != .cell || scope.names.lookup y.1==a3 .cell)&&(y.2 != .local || scope.names.lookup y.1==a3 .local)&&(y.2 != .free || ((env.cells.lookup y.1).isSome&&(env.kindOf y.1==a3 .cell || env.kindOf y.1==a3 .free)))) &&
 (aE N.length).all (λj=>cs.contains j || (match N[j]? with|some y=>scope.names.lookup y != a3 .local&&scope.names.lookup y != a3 .cell|none=>a7))
theorem lookup_mem{α β:Type}[BEq α][LawfulBEq α]{l:List (α×β)}{a:α}{b:β}(h:l.lookup a=a3 b):(a,b)∈l:=by
 induction l with
 |nil=>cases h
 |cons x r ih =>
  obtain⟨c,d⟩:=x;rw[Xj]at h;split at h
  .rename_i e;cases h;have e':a=c:=by simpa using e
   subst e';exact xr ..
  .exact kj _ (ih h)
theorem Jo{env:cH}{x:af}{k':br}:∀{names:List (af×br)},
  (names.map λ(n,k)=>if (k==bf&&env.scope.kind==.function&&env.kindOf n==a3 .cell) then(n,bE) else(n,k)).lookup x=a3 k' ->
  ∃k,names.lookup x=a3 k/\(k'=k\/(k=.free/\k'=.cell))
 |[],h=>by cases h
 |(n,k)::r,h=>by
  rw[xu]at h;rw[Xj];by_cases hc:(k==bf&&env.scope.kind==.function&&env.kindOf n==a3 .cell)=a7
  .dsimp only at h;rw[if_pos hc,Xj]at h;cases e:x==n with
   |true =>
    rw[e]at h;cases h;have:(k==bf)=a7:=by
     cases z:k==bf with
     |true=>rfl
     |false=>rw[z]at hc;simp at hc
    exact⟨k,rfl,.inr ⟨by simpa using this,rfl⟩⟩
   |false=>rw[e]at h;exact Jo h
  .dsimp only at h;rw[if_neg hc,Xj]at h;cases e:x==n with
   |true=>rw[e]at h;cases h;exact⟨_,rfl,.inl rfl⟩
   |false=>rw[e]at h;exact Jo h
theorem U4:∀(names:List (af×br)) (n:Nat) (acc:List (af×aa)),aQ n names acc=aQ n names []++acc
 |[],_,_=>rfl
 |(x,k)::r,n,acc=>by
  unfold aQ;split
  .rw[U4 r (n+1) ((x,n)::acc),U4 r (n+1) [(x,n)],Tw];rfl
  .exact U4 r n acc
theorem Fo:∀{names:List (af×br)} {n:Nat} {x:af} {c:aa},(x,c)∈aQ n names []->(x,bE)∈names/\n<=c
 |[],_,_,_,h=>nomatch h
 |(y,k)::r,n,x,c,h=>by
  unfold aQ at h;split at h
  .rename_i hk;rw[U4]at h;rcases Pq.mp h with h|h
   .have q:=Fo h;exact⟨kj _ q.1,Nat.le_of_succ_le q.2⟩
   .cases xg.mp h;have hk:k=bE:=by simpa using hk
    subst hk;exact⟨xr ..,X3 _⟩
  .have q:=Fo h;exact⟨kj _ q.1,q.2⟩
theorem Yk{β:Type}:∀{l m:List (af×β)} {y:af},(l++m).lookup y=(l.lookup y).or (m.lookup y)
 |[],m,y=>rfl
 |(x,b)::r,m,y=>by
  rw[cO,Xj,Xj];split
  .rfl
  .exact Yk
theorem K5{names:List (af×br)}{n:Nat}{acc:List (af×aa)}{y:af}{c:aa}(h:(aQ n names acc).lookup y=a3 c) :
  ((y,c)∈aQ n names []/\(y,bE)∈names/\n<=c)\/((aQ n names []).lookup y=a5/\acc.lookup y=a3 c):=by
 rw[U4,Yk]at h;cases e:(aQ n names []).lookup y with
 |some c'=>rw[e]at h;cases h;have q:=lookup_mem e;exact .inl ⟨q,Fo q⟩
 |none=>rw[e]at h;exact .inr ⟨rfl,h⟩
theorem jhs{names:List (af×br)}{n:Nat}{acc:List (af×aa)}{y:af}(h:(y,bE)∉names):(aQ n names acc).lookup y=acc.lookup y:=by
 rw[U4,Yk];cases e:(aQ n names []).lookup y with
 |some c'=>exact absurd (Fo (lookup_mem e)).1 h
 |none=>rfl
theorem jdq{names:List (af×br)}{n:Nat}{acc:List (af×aa)}{y:af}(h:(acc.lookup y).isSome=a7):∃c,(aQ n names acc).lookup y=a3 c:=by
 rw[U4,Yk];cases e:(aQ n names []).lookup y with
 |some c'=>exact⟨c',rfl⟩
 |none=>obtain⟨c,hc⟩:=Xn.mp h;exact⟨c,hc⟩
theorem j01{M:gL}{A:aB}{E:k8z}{s:ae}{scope:b9}{globals:aa}{closure:List (af×aa)}{qual:af}{env:cH}{Q:cH->ae->Prop}
  (hQ:Q { scope:=scope,locals:=s.heap.objs.size,globals:=globals,cells:=aQ (s.heap.objs.size+1) scope.names closure,qual:=qual,func:=a5,code:=env.code,frame:=env.frame,builtins:=env.builtins }
   { s with heap:=jv (s.heap.push { cls:=.type "dict",data:=.dict #[] }) scope.names }) :
  ar M A (dR scope globals closure [] qual a5 .none (a3 env)) Q E s:=by
 simp only[dR,eY,if_true];refine a6 (wpAny_alloc ?_);refine a6 (wpAny_layCells _ (λname kind cells=>by cases hkc:kind==bE<;>simp[hkc]) _ _ _ _ ?_);rw[show({ s with heap:=s.heap.push { cls:=.type "dict",data:=.dict #[] } }:ae).heap.objs.size=s.heap.objs.size+1 from bQ ..];exact a6 (aj (aj hQ))
noncomputable abbrev cCx(X:Cx)(scope:b9)(C:aa)(s:ae)(H:Hp)(fp:List aa)(pn:k90):Cx :=
 { X with env:=mO scope (aQ (C+1) scope.names (zm X.env scope.names [])) C X.env,s₀:=s,H₀:=H,outer:=X.stack,stack:=X.stack,ex:=fp,fn:=λx=>scope.names.lookup x==a3 .cell,pn:=pn,xe:=λ_ _=>False }
noncomputable def Yg(scope:b9)(y:af):Bool:=scope.names.lookup y==a3 .local || scope.names.lookup y==a3 .cell
theorem Vg{env:cH}:∀{names:List (af×br)} {x:af},names.lookup x=a3 .cell ->
  (names.map λ(n,k)=>if (k==bf&&env.scope.kind==.function&&env.kindOf n==a3 .cell) then(n,bE) else(n,k)).lookup x=a3 .cell
 |[],_,h=>by simp at h
 |(n,k)::r,x,h=>by
  have ih:=@Vg env r x;rw[xu];cases hx:x==n with
  |true =>simp only[Xj,hx]at h;cases h;simp[Xj,hx]
  |false =>
   simp only[Xj,hx]at h;dsimp only;by_cases hc:(k==bf&&env.scope.kind==.function&&env.kindOf n==a3 .cell)=a7
   .rw[if_pos hc];simp only[Xj,hx];exact ih h
   .rw[if_neg hc];simp only[Xj,hx];exact ih h
theorem Yo{X:Cx}{scope:b9}{C:aa}{s:ae}{H:Hp}{fp:List aa}{pn:k90}{y:af}(h:Yg scope y=a7):Loc (cCx X scope C s H fp pn).env.scope y:=by
 unfold Yg at h;rw[cu]at h;rcases h with h|h
 .exact .inl (fB (by simpa using h))
 .exact .inr (Vg (by simpa using h))
theorem W5{X:Cx}{scope:b9}{C:aa}{s:ae}{H:Hp}{fp:List aa}{pn:k90}{y:af}(h:Yg scope y=a7):(cCx X scope C s H fp pn).fn y=a7\/(cCx X scope C s H fp pn).env.scope.names.lookup y=a3 .local:=by
 unfold Yg at h;rw[cu]at h;rcases h with h|h
 .exact .inr (fB (by simpa using h))
 .exact .inl h
def DTs(X:Cx)(ρ:Rho)(ifs:List ai)(b:Bool):Prop:=match ifs with
 |[]=>b=a7
 |[c]=>DB X ρ c b
 |_=>False
theorem DTs.nil{X:Cx}{ρ:Rho}:DTs X ρ [] a7:=rfl
theorem DTs.one{X:Cx}{ρ:Rho}{c:ai}{b:Bool}(h:DB X ρ c b):DTs X ρ [c] b:=h
theorem DTs.run{X:Cx}{ρ:Rho}{ifs:List ai}{b:Bool}(h:DTs X ρ ifs b){pins:k90}{σ:St}{H:Hp}{s:ae}(I:Inv X pins σ H s)(R:Rep X.K ρ σ H) :
  ar (aw X.prog X.w) X.A (forIn ifs a7 λc r=>if r=a7 then do let ok <-gp c X.env (ay c X.env);pure (bV ok)else pure (bV r)) (λok s'=>ok=b/\∃H',Inv X pins σ H' s'/\j4 H H') X.xe s:=by
 match ifs,h with
 |[],h=>exact wpAny_tests_nil ⟨h.symm,H,I,j4.refl H⟩
 |[c],h=>exact wpAny_tests_one (thn (h σ H (λk H'=>k=b/\j4 H H') R (λH' g=>⟨rfl,g⟩) pins s I) λk s' ⟨H',I',e,g⟩=>⟨e,H',I',g⟩)
theorem Rep.weaken{K:k8y}{ρ:Rho}{σ σ':St}{H:Hp}(R:Rep K ρ σ H)(hl:σ'.length=σ.length)(h:∀(i:Nat),ρ[i]?≠a3 .un->σ'[i]?=σ[i]?):Rep K ρ σ' H :=
 ⟨by rw[hl,R.len],λi d e=>let ⟨v,q,z⟩:=R.val i d e;⟨v,by rw[h i (by rw[e];simp)];exact q,z⟩,λi a ds e=>let ⟨q,z⟩:=R.own i a ds e;⟨by rw[h i (by rw[e];simp)];exact q,z⟩,R.nd,λi a o x e=>let ⟨q,z⟩:=R.raw i a o x e;⟨by rw[h i (by rw[e];simp)];exact q,z⟩,R.tb⟩
noncomputable def mask(cs:List Nat)(σ:St):St:=σ.mapIdx λj v=>if cs.contains j then a5 else v
theorem Uu(cs:List Nat)(σ:St):(mask cs σ).length=σ.length:=by unfold mask;simp
theorem j8p{cs:List Nat}{σ:St}{j:Nat}{v:V}(h:(mask cs σ)[j]?=a3 (a3 v)):j∉cs/\σ[j]?=a3 (a3 v):=by
 unfold mask at h;rw[iQ]at h;cases e:σ[j]? with
 |none=>rw[e]at h;cases h
 |some u =>
  rw[e]at h;have h':(if cs.contains j then a5 else u)=a3 v:=ax h;by_cases z:cs.contains j=a7
  .rw[if_pos z]at h';cases h'
  .rw[if_neg z]at h';subst h';exact⟨λy=>z (by simpa using y),rfl⟩
theorem j05{cs:List Nat}{σ:St}{j:Nat}(h:j∉cs):(mask cs σ)[j]?=σ[j]?:=by
 unfold mask;rw[iQ];cases e:σ[j]? with
 |none=>rfl
 |some u=>simp[h]
def Wk(ρ2 ρ:Rho):Prop:=∀K σ H,Rep K ρ2 σ H->Rep K ρ σ H
theorem Qv(H:Hp)(A B:List aa):del (del H A) B=del H (A++B):=funext λb=>by unfold del;by_cases h1:b∈A<;>by_cases h2:b∈B<;>simp[h1,h2]
structure Loose(X:Cx)(pins:k90)(H:Hp)(C:aa):Prop where
 free:H C=a5
 loc:C≠X.env.locals
 new:X.s₀.heap.objs.size<=C
 cell:∀x c,X.env.cells.lookup x=a3 c->c≠C
 pin:∀p∈X.pn++pins,p.1≠C
section
variable{X:Cx}{pins:k90}{σ:St}{H2:Hp}{s2:ae}{ρ:Rho}{tg elt iter:ai}{ifs:List ai}{scope:b9}{pos:aJ}{ds:List D}{cs:List Nat}{p:D->Bool}{g:D->D}
theorem j0p{J:It}{fp:List aa}{it:aa}{tn:Nat->aD->Prop}(I2:Inv X pins σ H2 s2)(T:Turn X.prog X.w X.K tg J fp it tn)(st2:tn 0 s2.heap)(f2:∀b∈fp,Qm X pins H2 b)
  (hkind:scope.kind=.function) (hok:J7 scope X.env X.N cs=a7) {E:k8z} {RR:a8->aa->eB->ae->Prop}
  (hk:∀(C Dd:aa)(h₁:aD),(cCx X scope C s2 H2 fp (X.pn++pins)).Ok->Inv (cCx X scope C s2 H2 fp (X.pn++pins)) [] (mask cs σ) (upd H2 Dd (.lst [])) { s2 with heap:=h₁ }->s2.heap.objs.size=Dd->Dd<C->H2 Dd=a5->(∀b o,s2.heap.get? b=a3 o->h₁.get? b=a3 o) ->
   bK (aw X.prog X.w) X.A (.compLoop (.ListComp elt [⟨tg,iter,ifs,0⟩] scope pos) 0 (.ref it) (.ref Dd) (mO scope (aQ (C+1) scope.names (zm X.env scope.names [])) C X.env)) (RR (.ref Dd) C) { s2 with heap:=h₁ }) :
  ar (aw X.prog X.w) X.A (lA []) (λacc s₃=>ar (aw X.prog X.w) X.A (dR scope X.env.globals (zm X.env scope.names []) [] X.env.qual a5 .none (a3 X.env)) (λcenv s₄=>cenv.frame=X.env.frame /\
   bK (aw X.prog X.w) X.A (.compStart (.ListComp elt [⟨tg,iter,ifs,0⟩] scope pos) 0 (.ref it) acc { cenv with scope:=gE scope X.env }) (RR acc cenv.locals) s₄) E s₃) E s2:=by
 unfold J7 at hok;rw[Xg]at hok;obtain⟨hn,hN⟩:=hok;have hn':∀y∈scope.names,(y.2=.cell->scope.names.lookup y.1=a3 .cell)/\(y.2=.free->(X.env.cells.lookup y.1).isSome=a7/\(X.env.kindOf y.1=a3 .cell\/X.env.kindOf y.1=a3 .free)):=λy hy=>by have:=Xq.mp hn y hy;simp only[Xg,bne_iff_ne,ne_eq,cu,beq_iff_eq]at this;obtain⟨⟨a,_⟩,c⟩:=this;exact⟨λe=>a.elim (λz=>absurd e z) id,λe=>c.elim (λz=>absurd e z) id⟩
 have nocell:∀{y:af},scope.names.lookup y=a3 .free->(y,bE)∉scope.names:=λ{y} h z=>by have q:=(hn' _ z).1 rfl;rw[h]at q;cases q
 have hloc:∀(j:Nat)(y:af),X.N[j]?=a3 y->j∉cs->scope.names.lookup y≠a3 .local/\scope.names.lookup y≠a3 .cell:=λj y hj hc=>by
  have hlt:j<X.N.length:=(Xa.mp hj).1;have:=Xq.mp hN j (Xf.mpr hlt);rw[hj]at this;simp only[cu,Xg,bne_iff_ne,ne_eq]at this;rcases this with z|z
  .exact absurd (by simpa using z) hc
  .exact z
 have cl_of:∀{y:af}{c:aa},(zm X.env scope.names []).lookup y=a3 c->X.env.cells.lookup y=a3 c:=λ{y c} h=>K4 (λ_ _ z=>by cases z) h;refine aN (j01 ?_);dsimp only;generalize hH2:s2.heap.push { cls:=.type "list",dict:=a5,data:=.seq ([]:List a8).toArray }=hp2;have keep1:∀b o,hp2.get? b=a3 o->(jv (hp2.push { cls:=.type "dict",data:=.dict #[] }) scope.names).get? b=a3 o:=λb o e=>mx _ _ b o (xn _ e);have hns₁:(jv (hp2.push { cls:=.type "dict",data:=.dict #[] }) scope.names).Ns hp2.objs.size (λ_=>a5):=(Heap.Ns.new hp2 (.type "dict")).keeps (mx _ _);have okl:=cellsFrom_ok scope.names (hp2.push { cls:=.type "dict",data:=.dict #[] }) (hp2.objs.size+1) [] ⟨λ_ _ hm=>(nomatch hm),List.Pairwise.nil⟩ (by rw[bQ];exact X3 _);rw[bQ]at okl;generalize jv (hp2.push { cls:=.type "dict",data:=.dict #[] }) scope.names=h₁ at keep1 hns₁ okl ⊢;have hC:hp2.objs.size=s2.heap.objs.size+1:=by rw[<-hH2,bQ]
 have hDC:s2.heap.objs.size≠hp2.objs.size:=by rw[hC];exact X8 (dY _)
 have hCle:s2.heap.objs.size<=hp2.objs.size:=by rw[hC];exact P0 _
 have below:∀b,b<s2.heap.objs.size->b≠hp2.objs.size/\b≠s2.heap.objs.size:=λb hb=>⟨by rw[hC];exact X8 (dJ hb),X8 hb⟩
 have old:∀b o,s2.heap.get? b=a3 o->h₁.get? b=a3 o:=λb o e=>keep1 b o (hH2▸xn _ e);have hacc:h₁.get? s2.heap.objs.size=a3 { cls:=.type "list",dict:=a5,data:=.seq ([]:List a8).toArray }:=keep1 _ _ (hH2▸X4 _ rfl);have none_of:∀b,s2.heap.objs.size<=b->s2.heap.get? b=a5:=λb hb=>by
  cases e:s2.heap.get? b with
  |none=>rfl
  |some o'=>exact absurd (xq e) (Nat.not_lt.mpr hb)
 have hD0:H2 s2.heap.objs.size=a5:=I2.fresh;generalize hDd:s2.heap.objs.size=Dd at *;generalize hCc:hp2.objs.size=C at *;have hC0:H2 C=a5:=I2.hok.fresh (by rw[hDd];exact hCle);have pinlt:∀p∈X.pn++pins,p.1<Dd:=λp hp=>by rw[<-hDd];exact xq (I2.pin p hp).1
 have celllt:∀y c,X.env.cells.lookup y=a3 c->c<Dd:=λy c h=>by obtain⟨v,o,e,_⟩:=I2.cell y c h;rw[<-hDd];exact xq e
 have loclt:X.env.locals<Dd:=by rw[<-hDd];exact I2.lt
 have fplt:∀b∈fp,b<Dd:=λb hb=>by obtain⟨o,e,_⟩:=T.obj _ _ st2 b hb;rw[<-hDd];exact xq e
 have hDlt:Dd<C:=by omega
 have cellD:∀{y:af}{c:aa},(aQ (C+1) scope.names (zm X.env scope.names [])).lookup y=a3 c->((y,c)∈aQ (C+1) scope.names []/\C+1<=c)\/X.env.cells.lookup y=a3 c:=λ{y c} h=>by
  rcases K5 h with ⟨q,_,z⟩|⟨_,q⟩
  .exact .inl ⟨q,z⟩
  .exact .inr (cl_of q)
 have celln:∀{y:af}{c b:aa},(aQ (C+1) scope.names (zm X.env scope.names [])).lookup y=a3 c->b<Dd->(∀c,X.env.cells.lookup y=a3 c->c≠b)->c≠b:=λ{y c b} h hb ho=>by
  rcases cellD h with ⟨_,z⟩|q
  .exact Pz (Xw hb (Xw hDlt (Tz z)))
  .exact ho c q
 have okc:(cCx X scope C s2 H2 fp (X.pn++pins)).Ok:={
  mod:=I2.ok.mod
  kind:=hkind
  glob:=I2.ok.glob
  blt:=I2.ok.blt
  above:=by show s2.heap.objs.size<=C;rw[hDd];exact hCle
  inj:=λx y c h1 h2=>by
   rcases cellD h1 with ⟨m1,z1⟩|q1<;>rcases cellD h2 with ⟨m2,z2⟩|q2
   .exact name_of_addr okl.apart m1 m2
   .exact absurd (Xw (celllt y c q2) (Xw hDlt (Tz z1))) (Xx _)
   .exact absurd (Xw (celllt x c q1) (Xw hDlt (Tz z2))) (Xx _)
   .exact I2.ok.inj x y c q1 q2
  has:=λx h=>by
   have key:∀k',(gE scope X.env).names.lookup x=a3 k'->(k'=.cell\/k'=.free)->∃c,(aQ (C+1) scope.names (zm X.env scope.names [])).lookup x=a3 c:=λk' hk hk'=>by
    obtain⟨k,hl,e⟩:=Jo hk
    have hm:=lookup_mem hl
    have hk0:k=.free\/k=.cell:=by
     rcases e with e|e
     .subst e
      exact hk'.symm
     .exact .inl e.1
    rcases hk0 with hk0|hk0
    .subst hk0
     exact jdq (R9 ((hn' _ hm).2 rfl).1 hm)
    .subst hk0
     exact Xn.mp (W.cellsFrom_some _ _ _ (.inl hl))
   rcases h with h|h
   .exact key _ h (.inl rfl)
   .exact key _ h (.inr rfl)
  cab:=λx c h h2=>by
   have hx:scope.names.lookup x=a3 .cell:=by simpa using h
   show s2.heap.objs.size<=c
   rw[hDd]
   rcases K5 h2 with ⟨_,_,z⟩|⟨z,_⟩
   .exact di (Xw hDlt (Tz z))
   .obtain⟨c',hc'⟩:=Xn.mp (W.cellsFrom_some scope.names (C+1) [] (.inl hx))
    rw[z]at hc';cases hc'
  hd:=I2.ok.hd
  frames:=I2.ok.frames
  stk:=.inl rfl
  exf:=λb hb=>⟨X8 (Xw (fplt b hb) hDlt),λx c h=>celln h (fplt b hb) λc q=>(f2 b hb).2.2.2.2.1 x c q⟩
  bs:=I2.bs
  bsz:=Xi I2.ok.bsz I2.sz
  noex:=λb o e hb=>by
   rcases(f2 b hb).2.2.2.1 with z|z
   .exact I2.ok.noex b o e z
   .exact absurd (xq e) (Nat.not_lt.mpr (Xi I2.ok.bsz z))
  exfs:=λb hb hf=>by
   rcases xm.mp (I2.stkSub b hf)with z|z
   .exact(f2 b hb).2.1 z
   .exact(f2 b hb).2.2.1 z
  funs:=I2.stack
  frf:=I2.stkFree }
 have hpush:HOk X.prog X.w (upd H2 Dd (.lst [])) h₁:=HOk.laid I2.hok old (by rw[hDd];exact X3 _) ⟨Ti _,[],_,.nil,hacc⟩;have I0:Inv (cCx X scope C s2 H2 fp (X.pn++pins)) [] (mask cs σ) (upd H2 Dd (.lst [])) { s2 with heap:=h₁ }:={
  ok:=okc
  os:=rfl
  bare:=I2.bare
  base:=Un.laid old (by rw[hDd];exact X3 _) hD0
  loc:=by
   refine⟨_,hns₁,λj y v hj hv hvis=>?_⟩
   obtain⟨hjc,hσ⟩:=j8p hv
   obtain⟨m,hm,hlook⟩:=I2.loc
   have key:∀k',(gE scope X.env).names.lookup y=a3 k'->scope.names.lookup y=a3 .free:=λk' hk=>by
    obtain⟨k,hl,e⟩:=Jo hk
    have hmm:=lookup_mem hl
    have:k=.free:=by
     rcases e with e|e
     .subst e
      rcases hvis with z|z|z
      .have z:=hk.symm.trans z;cases z;exact absurd hl (hloc j y hj hjc).1
      .have z:=hk.symm.trans z;cases z;exact absurd hl (hloc j y hj hjc).2
      .have z:=hk.symm.trans z;cases z;rfl
     .exact e.1
    rw[hl,this]
   have hfree:scope.names.lookup y=a3 .free:=by rcases hvis with z|z|z<;>exact key _ z
   have hmm:=lookup_mem hfree
   obtain⟨hs,hk⟩:=(hn' _ hmm).2 rfl
   have hvis':Vis X.env.scope y:=by rcases hk with z|z;exact .inr (.inl z);exact .inr (.inr z)
   obtain⟨u,ru,look⟩:=hlook j y v hj hσ hvis'
   refine⟨u,ru,?_⟩
   rcases look with ⟨z,_⟩|⟨_,c,hcl,hcv⟩
   .rcases hk with y'|y'<;>rw[y']at z<;>cases z
   .refine .inr ⟨?_,c,?_,?_⟩
    .rcases hvis with z|z|z
     .exfalso
      obtain⟨k,hl,e⟩:=Jo z
      rw[hfree]at hl;cases hl
      rcases e with e|e
      .cases e
      .cases e.2
     .exact .inl z
     .exact .inr z
    .obtain⟨c',hc'⟩:=Xn.mp (R9 (acc:=[]) hs hmm)
     have:=cl_of hc'
     rw[hcl]at this;cases this
     exact(jhs (nocell hfree)).trans hc'
    .obtain⟨o,e,d⟩:=hcv
     exact⟨o,old _ _ e,d⟩
  cell:=λx c h=>by
   rcases cellD h with ⟨q,_⟩|q
   .exact⟨_,(okl.empty x c q).1⟩
   .obtain⟨v,o,e,d⟩:=I2.cell x c q
    exact⟨v,o,old _ _ e,d⟩
  free:=by show upd H2 Dd (.lst []) C=a5;rw[jb (Pz hDlt)];exact hC0
  freeC:=λx c h=>by
   rcases cellD h with ⟨_,z⟩|q
   .rw[jb (Pz (Xw hDlt (Tz z)))];exact I2.hok.fresh (by rw[hDd];exact di (Xw hDlt (Tz z)))
   .rw[jb (X8 (celllt x c q))];exact I2.freeC x c q
  pin:=λp hp=>by
   rw[Xo]at hp
   obtain⟨h1,h2,h3,h4,h5⟩:=I2.pin p hp
   have hlt:=pinlt p hp
   refine⟨old _ _ h1,by rw[jb (X8 hlt)];exact h2,X8 (Xw hlt hDlt),λz=>?_,h5⟩
   rcases xm.mp (I2.stkSub _ z)with y|y
   .exact h3 y
   .exact h4 y
  hok:=hpush
  len:=by rw[Uu];exact I2.len }
 have go:=hk C Dd h₁ okc I0 rfl hDlt hD0 old;exact⟨rfl,codeAny_compStart_list go (T.self _ 0 _ _ _ (T.keep _ _ _ st2 (λb _ o e=>old b o e)) go)⟩
theorem K1{J:It}{fp:List aa}{it:aa}{tn:Nat->aD->Prop}(I2:Inv X pins σ H2 s2)(R2:Rep X.K ρ σ H2)(T:Turn X.prog X.w X.K tg J fp it tn)(st2:tn 0 s2.heap)(f2:∀b∈fp,Qm X pins H2 b)
  (ok:Ub X.K (del H2 (owns ρ)) J ds) (hc:X.calm=a7) (hkind:scope.kind=.function) (hok:J7 scope X.env X.N cs=a7) (hcs:∀j∈cs,ρ[j]?=a3 .un) (hsz:ds.length<=aq)
  (hb:∀C s H fp pn,∀d∈ds,∃ρ2,DG (cCx X scope C s H fp pn) ρ tg d ρ2/\Wk ρ2 ρ/\owns ρ2=owns ρ/\DTs (cCx X scope C s H fp pn) ρ2 ifs (p d)/\(p d=a7->DE (cCx X scope C s H fp pn) ρ2 elt (g d)))
  {E:k8z} {RR:a8->aa->eB->ae->Prop}
  (hRR:∀D C xs H' s' m,Inv X pins σ H' s'->j4 H2 H'->H2 D=a5->H' D=a3 (.lst xs)->j5 X.K (del H' (D::owns ρ)) ((ds.filter p).map g) xs->s'.heap.Ns C m->Loose X pins H' C->RR (.ref D) C (.ok .next) s') :
  ar (aw X.prog X.w) X.A (lA []) (λacc s₃=>ar (aw X.prog X.w) X.A (dR scope X.env.globals (zm X.env scope.names []) [] X.env.qual a5 .none (a3 X.env)) (λcenv s₄ =>
   bK (aw X.prog X.w) X.A (.compStart (.ListComp elt [⟨tg,iter,ifs,0⟩] scope pos) 0 (.ref it) acc { cenv with scope:=gE scope X.env }) (RR acc cenv.locals) s₄) E s₃) E s2:=by
 refine thn (j0p (RR:=RR) I2 T st2 f2 hkind hok λC Dd h₁ okc I0 hDd hDlt hD0 old=>?_) λacc s₃ h=>thn h λcenv s₄ h=>h.2;have hDlt:@LT.lt Nat _ Dd C:=hDlt;have pinlt:∀p∈X.pn++pins,p.1<Dd:=λp hp=>by rw[<-hDd];exact xq (I2.pin p hp).1
 have celllt:∀y c,X.env.cells.lookup y=a3 c->c<Dd:=λy c h=>by obtain⟨v,o,e,_⟩:=I2.cell y c h;rw[<-hDd];exact xq e
 have loclt:X.env.locals<Dd:=by rw[<-hDd];exact I2.lt
 have fplt:∀b∈fp,b<Dd:=λb hb=>by obtain⟨o,e,_⟩:=T.obj _ _ st2 b hb;rw[<-hDd];exact xq e
 have hDo:Dd∉owns ρ:=R2.fresh hD0;have fpok:∀{H':Hp},(∀b∈fp,H' b=a5)->∀b∈fp,Qm (cCx X scope C s2 H2 fp (X.pn++pins)) [] H' b:=λ{H'} hn b hb =>⟨hn b hb,(okc.exf b hb).1,okc.exfs b hb,.inl hb,(okc.exf b hb).2,λp hp=>by rw[Xo]at hp;exact(f2 b hb).2.2.2.2.2 p hp⟩
 have R0:Rep X.K ρ (mask cs σ) H2:=R2.weaken (Uu _ _) λj hj=>j05 λz=>hj (hcs j z);have e0:del (upd H2 Dd (.lst [])) [Dd]=H2:=by
  rw[Yp (xg.mpr rfl)]
  funext b
  by_cases z:b∈[Dd]
  .rw[qj z,xg.mp z,hD0]
  .exact j6 z
 have loop:∀s₃:ae,s₃={ s2 with heap:=h₁ } ->
   bK (aw X.prog X.w) X.A (.compLoop (.ListComp elt [⟨tg,iter,ifs,0⟩] scope pos) 0 (.ref it) (.ref Dd) (mO scope (aQ (C+1) scope.names (zm X.env scope.names [])) C X.env)) (RR (.ref Dd) C) s₃:=by
  rintro s₃ rfl;refine j0q (λn s=>∃i σ' H' ys,Inv (cCx X scope C s2 H2 fp (X.pn++pins)) [] σ' H' s/\tn i s.heap/\(∀b∈fp,H' b=a5)/\i<=ds.length/\n=ds.length-i/\Rep X.K ρ σ' (del H' [Dd])/\j4 H2 (del H' [Dd])/\H' Dd=a3 (.lst ys) /\
   j5 X.K (del H' (Dd::owns ρ)) (((ds.take i).filter p).map g) ys) ?_ ds.length
   ⟨0,mask cs σ,upd H2 Dd (.lst []),[],I0,T.keep _ _ _ st2 (λb _ o e=>old b o e),λb hb=>by rw[jb (X8 (fplt b hb))];exact(f2 b hb).1,Ti _,rfl,by rw[e0];exact R0,by rw[e0];exact j4.refl _,j9,rfl⟩
  rintro n s3 ⟨i,σ3,H3,ys,I3,st3,fr3,hle,rfl,R3,g3,m3,en3⟩;have F3:j4 (del H2 (owns ρ)) (del H3 (Dd::owns ρ)):=by
   have:del H3 (Dd::owns ρ)=del (del H3 [Dd]) (owns ρ):=by rw[Qv];rfl
   rw[this];exact jf g3
  obtain⟨go,stop,yld⟩:=ok i H3 (Dd::owns ρ) F3 λa ha=>by
   rcases xm.mp ha with e|ha
   .rw[e,m3];simp
   .obtain⟨xs,e⟩:=R3.owned a ha;rw[(of_del e).2];simp
  by_cases hlt:i<ds.length
  .refine thn (T.item (cCx X scope C s2 H2 fp (X.pn++pins)) rfl rfl rfl hc i [] s3 σ3 H3 (λ_ _=>False) I3 (fpok fr3) st3 (go hlt)) λr s4 ⟨u,hr,h4⟩=>?_;subst hr;refine thn h4 λ_ s5 ⟨x,H5,I5,r5,y5,st5,fr5⟩=>?_;obtain⟨g5,en5⟩:=yld x H5 y5;have hd:ds[i]?=a3 ds[i]:=kh hlt;obtain⟨ρ2,⟨sub,hG⟩,wk,eo,hT,hE⟩:=hb C s2 H2 fp (X.pn++pins) ds[i] (Xy hlt);have m5:H5 Dd=a3 (.lst ys):=g5 _ _ m3;have hA:∀a∈[Dd],Hd (H5 a):=λa ha=>.inl ⟨ys,by rw[xg.mp ha];exact m5⟩;have I5p:=I5.pinned (fpok fr5) (T.obj _ _ st5);have I5h:=I5p.hide hA;have R5:Rep X.K ρ σ3 (del H5 [Dd]):=R3.grow (jf g5);have en5':Enc X.K (del (del H5 [Dd]) (owns ρ)) ds[i] x:=by rw[Qv];exact en5 _ hd
   refine thn (hG σ3 (del H5 [Dd]) x (λσ6 F6=>F6=del H5 [Dd]/\Rep X.K ρ2 σ6 F6) R5 en5' (λσ6 R6=>⟨rfl,R6⟩) _ s5 u I5h r5) λ_ s6 ⟨σ6,F6,I6,e6,R6⟩=>?_;subst e6;refine thn (hT.run I6 R6) λokv s7 ⟨e7,F7,I7,g7⟩=>?_;subst e7;have R7:Rep X.K ρ σ6 F7:=wk _ _ _ (R6.grow g7);have g27:j4 H2 F7:=g3.trans ((jf g5).trans g7);have en7:j5 X.K (del F7 (owns ρ)) (((ds.take i).filter p).map g) ys:=en3.mono (by
    have:del H3 (Dd::owns ρ)=del (del H3 [Dd]) (owns ρ):=by rw[Qv];rfl
    rw[this];exact jf ((jf g5).trans g7))
   have jC:∀{F:Hp}{s':ae},Inv (cCx X scope C s2 H2 fp (X.pn++pins)) ([]++qx fp s5.heap) σ6 F s'->Inv (cCx X scope C s2 H2 fp (X.pn++pins)) [] σ6 F s'/\tn (i+1) s'.heap/\∀b∈fp,F b=a5:=λ{F s'} I=>by refine⟨I.unpinned,T.keep _ _ _ st5 λb hb o e=>(I.pin (b,o) (Xd _ (Xd _ (Qg hb e)))).1,λb hb=>?_⟩;obtain⟨o,e,d⟩:=T.obj _ _ st5 b hb;exact(I.pin (b,o) (Xd _ (Xd _ (Qg hb e)))).2.1
   have tk:ds.take (i+1)=ds.take i++[ds[i]]:=by rw[dE,hd];rfl
   cases hp:p ds[i] with
   |false =>
    rw[if_neg xf];obtain⟨hF,I8⟩:=I5p.unhide hA I7;obtain⟨I9,st9,fr9⟩:=jC I8;refine⟨ds.length-(i+1),by omega,i+1,σ6,_,ys,I9,st9,fr9,hlt,rfl,by rw[Z9 hF];exact R7,by rw[Z9 hF];exact g27,by rw[Jg (xg.mpr rfl)];exact m5,?_⟩;have:del (mrg [Dd] H5 F7) (Dd::owns ρ)=del F7 (owns ρ):=by
     have e:del (mrg [Dd] H5 F7) (Dd::owns ρ)=del (del (mrg [Dd] H5 F7) [Dd]) (owns ρ):=by rw[Qv];rfl
     rw[e,Z9 hF]
    rw[this,tk,fm];have e:[ds[i]].filter p=[]:=by simp[hp]
    rw[e,Xo];exact en7
   |true =>
    rw[if_pos rfl];refine thn (hE hp σ6 F7 (λv F8=>j4 F7 F8/\Enc X.K (del F8 (owns ρ2)) (g ds[i]) v) (R6.grow g7) (λv F8 g8 e8=>⟨g8,e8⟩) _ s7 I7) λy s8 ⟨v,F8,I8,r8,g8,e8⟩=>?_;obtain⟨hF,I8'⟩:=I5p.unhide hA I8;rw[eo]at e8;have eH:del (mrg [Dd] H5 F8) (Dd::owns ρ)=del F8 (owns ρ):=by
     have e:del (mrg [Dd] H5 F8) (Dd::owns ρ)=del (del (mrg [Dd] H5 F8) [Dd]) (owns ρ):=by rw[Qv];rfl
     rw[e,Z9 hF]
    have hlen:ys.length<aq:=by have e1:=en7.length;have e2:((ds.take i).filter p).length<=(ds.take i).length:=Tq _ _;rw[xj]at e1;rw[Xl]at e2;omega
    refine thn (Li _ s8 σ6 (mrg [Dd] H5 F8) (.ref Dd) [v] (.ref Dd) [y] (λ_ H9=>H9=upd (mrg [Dd] H5 F8) Dd (.lst (ys++[v]))) I8' rfl (.cons r8 .nil)
     ⟨Dd,ys,v,rfl,rfl,by rw[Jg (xg.mpr rfl)];exact m5,hlen,rfl⟩) λ_ s9 ⟨_,H9,I9,_,e9⟩=>?_
    subst e9;obtain⟨I10,st10,fr10⟩:=jC I9;have ed:del (upd (mrg [Dd] H5 F8) Dd (.lst (ys++[v]))) [Dd]=F8:=by rw[Yp (xg.mpr rfl),Z9 hF]
    refine⟨ds.length-(i+1),by omega,i+1,σ6,_,ys++[v],I10,st10,fr10,hlt,rfl,by rw[ed];exact R7.grow g8,by rw[ed];exact g27.trans g8,j9,?_⟩;rw[Yp (xr ..),eH,tk,fm,Xp];have e:[ds[i]].filter p=[ds[i]]:=by simp[hp]
    rw[e];exact(en7.mono (jf g8)).append (.one e8)
  .have hi:i=ds.length:=by omega
   subst hi;refine thn (T.done (cCx X scope C s2 H2 fp (X.pn++pins)) rfl rfl rfl hc ds.length [] s3 σ3 H3 (λ_ _=>False) I3 (fpok fr3) st3 (stop (X3 _))) λr s4 ⟨hr,I4⟩=>?_;subst hr;rw[dW]at en3;obtain⟨m,hm,_⟩:=I4.loc;refine hRR Dd C ys H3 s4 m ?_ (g3.trans jo) hD0 m3 en3 hm ⟨I4.free,Pz (Xw loclt hDlt),?_,λx c h=>X8 (Xw (celllt x c h) hDlt),λp hp=>X8 (Xw (pinlt p hp) hDlt)⟩
   .exact I2.call' (ch:=fp) I4.os I4.base I4.hok I4.bare λb hb=>⟨(f2 b hb).2.2.2.1,(f2 b hb).2.1,(f2 b hb).2.2.2.2.1,(f2 b hb).2.2.2.2.2⟩
   .have:=I2.sz;omega
 exact loop _ rfl
end
section
variable{X:Cx}{ρ:Rho}{tg elt iter:ai}{ifs:List ai}{scope:b9}{pos p1 spos:aJ}{ds:List D}{cs:List Nat}{p:D->Bool}{g:D->D}{x:af}{P:Po}
theorem Uz{env:cH}{N:List af}(h:J7 scope env N cs=a7):∀y∈scope.names,y.2=.free->(env.cells.lookup y.1).isSome=a7:=λy hy e=>by unfold J7 at h;rw[Xg]at h;have:=Xq.mp h.1 y hy;simp only[Xg,bne_iff_ne,ne_eq,cu]at this;exact this.2.elim (λz=>absurd e z) λz=>z.1
theorem U3{env:cH}{N:List af}(h:J7 scope env N cs=a7):∀y∈scope.names,y.2=.local->scope.names.lookup y.1=a3 .local:=λy hy e=>by unfold J7 at h;rw[Xg]at h;have:=Xq.mp h.1 y hy;simp only[Xg,bne_iff_ne,ne_eq,cu,beq_iff_eq]at this;exact this.1.2.elim (λz=>absurd e z) λz=>z
theorem Inv.loose{pins:k90}{σ:St}{H:Hp}{s:ae}{C:aa}{h':aD}(I:Inv X pins σ H s)(L:Loose X pins H C)(sb:bS C s.heap h'):Inv X pins σ H { s with heap:=h' } :=
 I.turned (t':=s.toks) (λb o hb e=>sb.extBut b o hb e) L.free L.loc (.inr L.new) L.cell L.pin
theorem DO.comp(cs:List Nat)(p:D->Bool)(g:D->D)(hi:DI X ρ tg iter ds)
  (hb:∀C s H fp pn,∀d∈ds,∃ρ2,DG (cCx X scope C s H fp pn) ρ tg d ρ2/\Wk ρ2 ρ/\owns ρ2=owns ρ/\DTs (cCx X scope C s H fp pn) ρ2 ifs (p d)/\(p d=a7->DE (cCx X scope C s H fp pn) ρ2 elt (g d)))
  (hcs:∀j∈cs,ρ[j]?=a3 .un) (hsz:ds.length<=aq) (hc:X.calm=a7:=by rfl) (hkind:scope.kind=.function:=by rfl) (hok:J7 scope X.env X.N cs=a7:=by rfl)
  (hs:∀x,aF iter X.env x=pure x:=by intro _;rfl):DO X ρ (.ListComp elt [⟨tg,iter,ifs,0⟩] scope pos) ((ds.filter p).map g):=λσ H Q R q pins s I=>by
 rw[mW];refine iT (use:=a5) rfl hs (R8 (Uz hok)) hkind (U3 hok) (thn (hi σ H (λJ H'=>j4 H H'/\Ub X.K (del H' (owns ρ)) J ds) R (λJ H' g1 ok=>⟨g1,ok⟩) pins s I) λv s1 h1=>thn h1 λitv s2 h2=>?_);obtain⟨it,fp,tn,J,H2,e,I2,T,st2,f2,g2,ok⟩:=h2;subst e;refine K1 (RR:=λacc C=>compPost (aw X.prog X.w) X.A X.xe a5 (EP X pins σ Q) acc C) I2 (R.grow g2) T st2 f2 ok hc hkind hok hcs hsz hb ?_;intro D C xs H' s' m I' gg n m' en hm L;exact⟨m,hm,λh' sb=>⟨.ref D,H',I'.loose L sb,rfl,q D xs H' (g2.trans gg) (g2.free n) m' en⟩⟩
theorem Wk.set{i:Nat}{d:D}(h:ρ[i]?=a3 .un):Wk (ρ.set i (.val d)) ρ:=λK σ H R=>by
 have q:=R.set_un (i:=i) (v:=(σ[i]?).join);have e:σ.set i ((σ[i]?).join)=σ:=by
  apply cG;intro j;rw[fQ];split
  .rename_i h;subst h;split
   .rename_i h;rw[kh h];rfl
   .rename_i h;rw[ph nofun]
  .rfl
 have e2:(ρ.set i (.val d)).set i .un=ρ:=by
  rw[List.set_set];apply cG;intro j;rw[fQ];split
  .rename_i z;subst z;split
   .rw[h]
   .rename_i z;rw[ph nofun]at h;cases h
  .rfl
 rw[e,e2]at q;exact q
theorem Qq{i:Nat}{d:D}(h:ρ[i]?=a3 .un):owns (ρ.set i (.val d))=owns ρ:=Oh rfl λa l z=>by rw[h]at z;cases z
end
section
variable{prog:au}{w:aA}{A:aB}{E:k8z}{s:ae}
theorem j44{j t:aa}{k:Nat}{its:Array a8}{y:a8}{Q:k8z}(hj:s.heap.IsTupleIter j t k)(ht:s.heap.IsTuple t its)(hy:its[k]?=a3 y)
  (q:∀h',h'.IsTupleIter j t (k+1)->bS j s.heap h'->Q y { s with heap:=h' }):ar (aw prog w) A (b7 (.ref j)) Q E s:=by
 obtain⟨o,ho,hc,hd⟩:=id hj;obtain⟨ot,hot,_,m,hdt⟩:=ht;unfold b7;refine a6 (bG (name:=aR "__next__") hj.typeIs bX (bF bX hj.typeIs i3 ?_ (gW _)));show ar _ _ (field (.ref j) 0 >>= _) _ _ s;refine a6 (bx ho hd (x:=.ref t) rfl ?_);show ar _ _ (if (aC t==aU)=a7 then _ else _) _ _ s;rw[if_neg (show ¬((aC t==aU)=a7)from xf)];show ar _ _ (field (.ref j) 1 >>= _) _ _ s;refine a6 (bx ho hd (x:=.int k 0) rfl ?_);show ar _ _ (gY (.ref t) >>= _) _ _ s;refine a6 (dQ hot hdt ?_);simp only[Xh,hy];refine a6 (dP ho hd (by simp) (aj ⟨y,rfl,aj (q _ ?_ (T5 ..))⟩));exact⟨_,eE _ ho (eK (Tp hd _)),(k8 ..).trans hc,by rw[Tp hd];simp[cw]⟩
theorem j6n{j t:aa}{k:Nat}{its:Array a8}{Q:k8z}(hh:A.handled=a5)(hj:s.heap.IsTupleIter j t k)(ht:s.heap.IsTuple t its)(hy:its[k]?=a5)
  (q:∀h' x,eN j s.heap h'->(∃o,h'.get? x=a3 o/\o.cls=.type "StopIteration")->E (.ref x) { s with heap:=h' }):ar (aw prog w) A (b7 (.ref j)) Q E s:=by
 obtain⟨o,ho,hc,hd⟩:=id hj;obtain⟨ot,hot,_,m,hdt⟩:=ht;unfold b7;refine a6 (bG (name:=aR "__next__") hj.typeIs bX (bF bX hj.typeIs i3 ?_ (gW _)));show ar _ _ (field (.ref j) 0 >>= _) _ _ s;refine a6 (bx ho hd (x:=.ref t) rfl ?_);show ar _ _ (if (aC t==aU)=a7 then _ else _) _ _ s;rw[if_neg (show ¬((aC t==aU)=a7)from xf)];show ar _ _ (field (.ref j) 1 >>= _) _ _ s;refine a6 (bx ho hd (x:=.int k 0) rfl ?_);show ar _ _ (gY (.ref t) >>= _) _ _ s;refine a6 (dQ hot hdt ?_);simp only[Xh,hy];refine a6 (wpAny_rule (a6 (dP ho hd (by simp) ?_)));show ar _ _ (mM (.type "StopIteration") [] >>= _) _ _ _;refine a6 ?_;simp only[mM,newTuple];refine a6 (aN ?_ (by size_fits));refine a6 (m:=fD _ _) (fv (a:=aU) (by first|rfl|(simp only[fD];rfl)) ?_);refine aN ?_ (by size_fits);simp only[raiseNew];refine a6 (mU ?_)
 first|rw[show A.in1.handled=a5 from hh]|rw[hh]
 refine a6 (aj (kx ?_));exact q _ _ (((T5 ..).extBut.push _).push _) ⟨_,X4 _ rfl,rfl⟩
end
def qy(lst:Bool)(h:aD)(j t:aa)(k:Nat):Prop:=if lst=a7 then h.IsListIter j t k else h.IsTupleIter j t k
def ql(lst:Bool)(h:aD)(t:aa)(its:Array a8):Prop:=if lst=a7 then h.IsList t its else h.IsTuple t its
section
variable{prog:au}{w:aA}{A:aB}{E:k8z}{s:ae}{lst:Bool}{h h':aD}{j t b:aa}{k:Nat}{its:Array a8}
theorem qy.ext(x:qy lst h j t k)(e:eN b h h')(n:j≠b):qy lst h' j t k:=by
 unfold qy at x ⊢;cases lst with
 |true=>rw[if_pos rfl]at x ⊢;exact x.extBut e n
 |false=>rw[if_neg xf]at x ⊢;exact x.extBut e n
theorem qy.stay(x:qy lst h j t k)(e:∀o,h.get? j=a3 o->h'.get? j=a3 o):qy lst h' j t k:=by
 unfold qy at x ⊢;cases lst with
 |true=>rw[if_pos rfl]at x ⊢;exact x.at e
 |false=>rw[if_neg xf]at x ⊢;exact x.at e
theorem qy.obj(x:qy lst h j t k):∃o,h.get? j=a3 o/\∀v,o.data≠.cell v:=by
 unfold qy at x;cases lst with
 |true=>rw[if_pos rfl]at x;obtain⟨o,e,c,d⟩:=x;exact⟨o,e,λv z=>by rw[d]at z;cases z⟩
 |false=>rw[if_neg xf]at x;obtain⟨o,e,c,d⟩:=x;exact⟨o,e,λv z=>by rw[d]at z;cases z⟩
theorem ql.ext(x:ql lst h t its)(e:eN b h h')(n:t≠b):ql lst h' t its:=by
 unfold ql at x ⊢;cases lst with
 |true=>rw[if_pos rfl]at x ⊢;exact x.extBut e n
 |false=>rw[if_neg xf]at x ⊢;exact x.extBut e n
theorem j56{y:a8}{Q:k8z}(hj:qy lst s.heap j t k)(ht:ql lst s.heap t its)(hy:its[k]?=a3 y)
  (q:∀h',qy lst h' j t (k+1)->bS j s.heap h'->Q y { s with heap:=h' }):ar (aw prog w) A (b7 (.ref j)) Q E s:=by
 unfold qy at hj q;unfold ql at ht;cases lst with
 |true=>rw[if_pos rfl]at hj ht;simp only[if_true]at q;exact wpAny_nextOf_list_item hj ht hy q
 |false=>rw[if_neg xf]at hj ht;simp only[Xv,if_false]at q;exact j44 hj ht hy q
theorem Ec{Q:k8z}(hh:A.handled=a5)(hj:qy lst s.heap j t k)(ht:ql lst s.heap t its)(hy:its[k]?=a5)
  (q:∀h' x,eN j s.heap h'->(∃o,h'.get? x=a3 o/\o.cls=.type "StopIteration")->E (.ref x) { s with heap:=h' }):ar (aw prog w) A (b7 (.ref j)) Q E s:=by
 unfold qy at hj;unfold ql at ht;cases lst with
 |true=>rw[if_pos rfl]at hj ht;exact wpAny_nextOf_list_end hh hj ht hy q
 |false=>rw[if_neg xf]at hj ht;exact j6n hh hj ht hy q
end
section
variable{prog:au}{w:aA}{A:aB}{E:k8z}{s:ae}{l1 l2:Bool}{z TI TO i1 i2 t1 t2:aa}{k:Nat}{us vs:Array a8}{x y a b:a8}
end
noncomputable def Ed(lst:Bool):String:=if lst=a7 then "list_iterator" else "tuple_iterator"
noncomputable abbrev zh1(h:aD)(l1:Bool)(t1:aa):aD:=h.push { cls:=.type (Ed l1),data:=.fields #[.ref t1,.int 0 0] }
section
variable{prog:au}{w:aA}{A:aB}{E:k8z}{s:ae}{l1 l2:Bool}{t1 t2:aa}{us vs:Array a8}
theorem M4{lst:Bool}{t:aa}{its:Array a8}{Q:k8z}(h:ql lst s.heap t its)(q:Q (.ref s.heap.objs.size) { s with heap:=zh1 s.heap lst t }):ar (aw prog w) A (iF (.ref t)) Q E s:=by
 unfold ql at h;cases lst with
 |true=>rw[if_pos rfl]at h;exact bU h q
 |false=>rw[if_neg xf]at h;exact gj h q
end
def SqB(K:k8y)(lst:Bool)(H:Hp)(a:aa)(xs:List V):Prop:=if lst=a7 then SqL K H a xs else SqT K H a xs
section
variable{X:Cx}{pins:k90}{σ:St}{H:Hp}{s:ae}{a p:aa}{xs ys:List V}{lst:Bool}{ch:List aa}{h':aD}
theorem j4.seqB{K:k8y}{H':Hp}(e:j4 H H')(h:SqB K lst H a xs):SqB K lst H' a xs:=by
 unfold SqB at h ⊢;cases lst with
 |true=>rw[if_pos rfl]at h ⊢;exact e.seq h
 |false=>rw[if_neg xf]at h ⊢;exact e.seqT h
theorem Inv.side(I:Inv X pins σ H s)(h:SqB X.K lst H a xs):∃us:List a8,Vals xs us/\ql lst s.heap a us.toArray/\xs.length<=aq:=by
 unfold SqB at h;unfold ql;cases lst with
 |true=>rw[if_pos rfl]at h;obtain⟨its,r,q,l⟩:=I.list h;exact⟨its,r,by rw[if_pos rfl];exact q.isList,l⟩
 |false=>rw[if_neg xf]at h;obtain⟨its,r,q,l⟩:=I.tuple h;exact⟨its,r,by rw[if_neg xf];exact q,l⟩
theorem Inv.side_inj(I:Inv X pins σ H s)(h:SqB X.K lst H a xs)(h':SqB X.K lst H a ys):xs=ys:=by
 unfold SqB at h h';cases lst with
 |true=>rw[if_pos rfl]at h h';exact I.list_inj h h'
 |false=>rw[if_neg xf]at h h';exact I.tuple_inj h h'
theorem Inv.chg(I:Inv X pins σ H s)(hf:∀b∈ch,Qm X pins H b)(kp:∀c o,c∉ch->s.heap.get? c=a3 o->h'.get? c=a3 o):Inv X pins σ H { s with heap:=h' }:=by
 refine I.step (g':=s.gens) (t':=s.toks) (d':=s.drawn) (ch:=ch) (λb hb=>⟨(hf b hb).2.2.2.1,(hf b hb).2.1,(hf b hb).2.2.2.2.1,(hf b hb).2.2.2.2.2⟩) (λb o _ _ nc e _=>kp b o nc e) (λb o _ _ nc e _=>⟨o.slots,kp b o nc e⟩)
  (λb o _ _ n=>n) (λb o nc e=>⟨o,kp b o nc e⟩) (λb xs e=>e) (λb o u e=>e) (λb ps e=>⟨#[],by rw[e];simp⟩) (λm hm=>hm.at' λo e=>kp _ o (λz=>(hf _ z).2.1 rfl) e) (λc o e=>?_) I.bare
 have out:∀{b:aa}{u:HO},H b=a3 u->b∉ch:=λ{b u} q z=>by rw[(hf b z).1]at q;cases q
 refine jh.stay (I.hok c o e) (λb u hb q=>kp b u ?_ q) (λb q=>q) (λb xs q=>q) (λb _ _ q=>q);rcases hb with hb|hb
 .subst hb;exact out e
 .exact out hb
theorem Inv.chgT(I:Inv X pins σ H s)(hf:∀b∈ch,Qm X pins H b)(kp:∀c o,c∉ch->s.heap.get? c=a3 o->h'.get? c=a3 o){us:List a8}(rv:Vals xs us)(hl:xs.length<=aq)
  (hp:iH h' s.heap.objs.size us.toArray) (hq:Vf h' s.heap.objs.size):Inv X pins σ (upd H s.heap.objs.size (.tup xs)) { s with heap:=h' }:=by
 have hn:=I.fresh;have nz:∀{b:aa}{o:cE},s.heap.get? b=a3 o->b≠s.heap.objs.size:=λ{b o} e=>X8 (xq e);have tr:∀{b:aa}{u:HO},H b=a3 u->upd H s.heap.objs.size (.tup xs) b=a3 u:=λ{b u} e=>by rw[jb (vd e hn)];exact e
 refine I.step (g':=s.gens) (t':=s.toks) (d':=s.drawn) (ch:=ch) (λb hb=>⟨(hf b hb).2.2.2.1,(hf b hb).2.1,(hf b hb).2.2.2.2.1,(hf b hb).2.2.2.2.2⟩) (λb o _ _ nc e _=>kp b o nc e) (λb o _ _ nc e _=>⟨o.slots,kp b o nc e⟩)
  (λb o _ e n=>by rw[jb (nz e)];exact n) (λb o nc e=>⟨o,kp b o nc e⟩) (λb xs e=>tr e) (λb o u e=>tr e) (λb ps e=>⟨#[],by rw[tr e];simp⟩) (λm hm=>hm.at' λo e=>kp _ o (λz=>(hf _ z).2.1 rfl) e) (λc o e=>?_) I.bare
 have out:∀{b:aa}{u:HO},H b=a3 u->b∉ch:=λ{b u} q z=>by rw[(hf b z).1]at q;cases q
 by_cases z:c=s.heap.objs.size
 .subst z;rw[j9]at e;cases e;exact⟨hl,us,rv,hp,hq⟩
 .rw[jb z]at e;refine jh.stay (I.hok c o e) (λb u hb q=>kp b u ?_ q) (λb q=>tr q) (λb xs q=>tr q) (λb _ _ q=>tr q);rcases hb with hb|hb
  .subst hb;exact out e
  .exact out hb
end
section
variable{X:Cx}{ρ:Rho}{a b:ai}{es:List ai}{n:Nat}{pos p q1 q2:aJ}{ds ds':List D}{l1 l2:Bool}
noncomputable def D.seq(lst:Bool)(ds:List D):D:=if lst=a7 then .lst ds else .tup ds
theorem Vp{K:k8y}{H:Hp}{lst:Bool}{v:V}(h:Enc K H (D.seq lst ds) v):∃t xs,v=.ref t/\SqB K lst H t xs/\j5 K H ds xs:=by
 unfold D.seq at h;unfold SqB;cases lst with
 |true=>rw[if_pos rfl]at h;obtain⟨t,xs,e,s,l⟩:=h;exact⟨t,xs,e,by rw[if_pos rfl];exact s,l⟩
 |false=>rw[if_neg xf]at h;obtain⟨t,xs,e,s,l⟩:=h;exact⟨t,xs,e,by rw[if_neg xf];exact s,l⟩
theorem DG.pair{x y:af}(i j:Nat){d d':D}(hij:i≠j)(hN:X.N.Nodup)(hi:X.N[i]?=a3 x:=by rfl)(hj:X.N[j]?=a3 y:=by rfl)(hx:Loc X.env.scope x:=by first|exact aX rfl|exact bN rfl)(hy:Loc X.env.scope y:=by first|exact aX rfl|exact bN rfl)
  (fx:X.fn x=a7\/X.env.scope.names.lookup x=a3 .local:=by first|exact .inl rfl|exact .inr rfl) (fy:X.fn y=a7\/X.env.scope.names.lookup y=a3 .local:=by first|exact .inl rfl|exact .inr rfl) (hc:X.calm=a7:=by rfl)
  (hn:(bL [.Name x q1,.Name y q2] X.env).length=2:=by rfl) (hst:(bL [.Name x q1,.Name y q2] X.env).findIdx? (·.1)=a5:=by rfl)
  (e1:(bL [.Name x q1,.Name y q2] X.env).map (·.2)=fE (.Name x q1) X.env::(bL [.Name y q2] X.env).map (·.2):=by rfl) (e2:(bL [.Name y q2] X.env).map (·.2)=fE (.Name y q2) X.env::(bL [] X.env).map (·.2):=by rfl) :
  DG X ρ (.Tuple [.Name x q1,.Name y q2] n pos) (.tup [d,d']) ((ρ.set i (.val d)).set j (.val d')):=by
 refine⟨λb hb=>(ji rfl).subset ((ji rfl).subset hb),λσ H v Q R en q=>?_⟩;obtain⟨t,xs,ev,sq,u,r,e,eu,u',r',e',eu',er⟩:=en;subst e e' ev er;refine(jff hc (Er (Mw hN hi hx fx) (Er (Mw hN hj hy fy) jc9 e2) e1) hn hst).to ⟨t,[u,u'],rfl,jo.seqT sq,rfl,u,[u'],rfl,u',[],rfl,rfl,?_⟩;refine q _ ?_;have R1:Rep X.K (ρ.set i (.val d)) (σ.set i (a3 u)) H:=R.set_val eu;exact R1.set_val (eu'.mono (vy λb hb=>(ji rfl).subset hb))
end
noncomputable def D.ty:D->String
 |.non=>"NoneType"
 |.bl _=>"bool"
 |.int _=>"int"
 |.str _=>"str"
 |.tup _=>"tuple"
 |.lst _=>"list"
 |.dct _ _=>"dict"
 |.sct _=>"dict"
 |.fn _ _=>"function"
section
variable{X:Cx}{pins:k90}{σ:St}{H:Hp}{s:ae}{A:aB}{E:k8z}{Q:k8z}{c:a8}{b:Bool}
end
section
variable{X:Cx}{ρ:Rho}{a b:ai}{d:D}{pos p p1 p2 p3:aJ}{T T1 T2:af}{c c1 c2:String}{k:Bool}{n:Nat}
theorem jja (hg:Gl X T) (hm:X.mg T=a5) (hv:cR T=a3 (.type c)) (hn:T ≠ "__name__":=by decide) (hd:(T==k92)=a4:=by decide):PE X (.Name T p) (tC (.ty c)):=jcb hg hm hv rfl hn hd
end
mutual
noncomputable def deq:D->D->Bool
 |.non,.non=>a7
 |.bl a,.bl b=>a==b
 |.bl a,.int b=>(if a then 1 else 0)==b
 |.int a,.bl b=>a==(if b then 1 else 0)
 |.int a,.int b=>a==b
 |.str a,.str b=>a==b
 |.tup xs,.tup ys=>v5 xs ys
 |.lst xs,.lst ys=>v5 xs ys
 |.dct k xs,.dct m ys=>decide (k=m)&&v5 xs ys
 |.sct k,.sct m=>decide (k=m)
 |_,_=>a4
noncomputable def v5:List D->List D->Bool
 |[],[]=>a7
 |x::xs,y::ys=>deq x y&&v5 xs ys
 |_,_=>a4
end
theorem jhk{a b:Bool}:deq (.bl a) (.bl b)=(a==b):=(rfl)
theorem j6p{a b:Int}:deq (.int a) (.int b)=(a==b):=(rfl)
theorem j0k{a b:af}:deq (.str a) (.str b)=(a==b):=(rfl)
theorem Fd{a b:List D}:deq (.tup a) (.tup b)=v5 a b:=(rfl)
theorem j0l{a b:List D}:deq (.lst a) (.lst b)=v5 a b:=(rfl)
theorem Yz:v5 [] []=a7:=(rfl)
theorem Z2{x y:D}{xs ys:List D}:v5 (x::xs) (y::ys)=(deq x y&&v5 xs ys):=(rfl)
theorem O6{y:D}{ys:List D}:v5 [] (y::ys)=a4:=(rfl)
theorem O7{x:D}{xs:List D}:v5 (x::xs) []=a4:=(rfl)
mutual
noncomputable def D.dep:D->Nat
 |.tup xs=>D.depL xs+1
 |.lst xs=>D.depL xs+1
 |.dct _ _=>20000
 |.sct _=>20000
 |.fn _ _=>20000
 |_=>0
noncomputable def D.depL:List D->Nat
 |[]=>0
 |x::xs=>max x.dep (D.depL xs)
end
mutual
theorem Bp:∀d:D,d.dep<10000->deq d d=a7
 |.non,_=>rfl
 |.bl b,_=>by rw[jhk];simp
 |.int i,_=>by rw[j6p];simp
 |.str x,_=>by rw[j0k];simp
 |.tup xs,h=>by rw[Fd];exact Zz xs (by simp only[D.dep]at h;omega)
 |.lst xs,h=>by rw[j0l];exact Zz xs (by simp only[D.dep]at h;omega)
 |.dct _ _,h=>by simp[D.dep]at h
 |.sct _,h=>by simp[D.dep]at h
 |.fn _ _,h=>by simp[D.dep]at h
theorem Zz:∀ds:List D,D.depL ds<10000->v5 ds ds=a7
 |[],_=>rfl
 |d::ds,h=>by rw[D.depL]at h;rw[Z2,Bp d nofun,Zz ds nofun];rfl
end
theorem U0:∀{xs ys:List D},xs.length≠ys.length->v5 xs ys=a4
 |[],[],h=>absurd rfl h
 |[],_::_,_=>by simp[Yz,Z2,O6,O7]
 |_::_,[],_=>by simp[Yz,Z2,O6,O7]
 |x::xs,y::ys,h=>by have:=U0 (xs:=xs) (ys:=ys) (by simpa using h);simp[Yz,Z2,O6,O7,this]
theorem V9{f:Nat->Bool}:∀{xs ys:List D},xs.length=ys.length->(∀(j:Nat) x y,xs[j]?=a3 x->ys[j]?=a3 y->f j=deq x y)->(aE xs.length).all f=v5 xs ys
 |[],[],_,_=>by simp[Yz,Z2,O6,O7]
 |[],_::_,h,_=>by simp at h
 |_::_,[],h,_=>by simp at h
 |x::xs,y::ys,h,hf=>by have ih:=V9 (f:=λj=>f (j+1)) (xs:=xs) (ys:=ys) (by simpa using h) (λj a b ha hb=>hf (j+1) a b (by simpa using ha) (by simpa using hb));rw[xx,cF,fg,hf 0 x y rfl rfl,fR];simp only[Z2];rw[<-ih];rfl
section
variable{X:Cx}{pins:k90}{σ:St}{H:Hp}{s:ae}
theorem Ew(I:Inv X pins σ H s){a:aa}{xs ys:List V}(h:SqT X.K H a xs)(h':SqL X.K H a ys):False:=by obtain⟨_,_,⟨o,h1,h2,_⟩,_⟩:=I.tuple h;obtain⟨_,_,⟨o',n,h1',h2',_⟩,_⟩:=I.list h';rw[h1]at h1';cases h1';rw[h2]at h2';injection h2' with e;exact absurd e (by decide)
noncomputable def D.atom:D->Option V
 |.non=>a3 .non
 |.bl b=>a3 (.bl b)
 |.int i=>a3 (.int i)
 |.str x=>a3 (.str x)
 |_=>a5
theorem Enc.at_{K:k8y}{d:D}{v u:V}(h:Enc K H d v)(e:d.atom=a3 u):v=u:=by
 cases d with
 |non=>cases e;exact(show v=.non from h)
 |bl b=>cases e;exact(show v=.bl b from h)
 |int i=>cases e;exact(show v=.int i from h)
 |str x=>cases e;exact(show v=.str x from h)
 |_=>cases e
theorem Enc.ref{K:k8y}{d:D}{v:V}(h:Enc K H d v)(e:d.atom=a5):∃a,v=.ref a:=by
 cases d with
 |tup l=>obtain⟨a,_,e,_⟩:=h;exact⟨a,e⟩
 |lst l=>obtain⟨a,_,e,_⟩:=h;exact⟨a,e⟩
 |dct k l=>obtain⟨a,_,_,_,e,_⟩:=h;exact⟨a,e⟩
 |sct k=>obtain⟨a,e,_⟩:=h;exact⟨a,e⟩
 |fn x l=>obtain⟨a,_,_,_,_,e,_⟩:=h;exact⟨a,e⟩
 |_=>cases e
theorem ja6{d d':D}{u:V}(h:d.atom=a3 u)(h':d'.atom=a3 u):d=d':=by cases d<;>cases d'<;>first|(cases h;done)|(cases h';done)|(cases h;cases h';rfl)|(cases h;cases h')
theorem j0y{d:D}{a:aa}(h:d.atom=a3 (.ref a)):False:=by cases d<;>cases h
theorem jgr(I:Inv X pins σ H s){d d':D}{v:V}(hd:d.dep<10000)(hd':d'.dep<10000)(h:Enc X.K H d v)(h':Enc X.K H d' v) :
  d=d'\/∃ds ds' xs,((d=.tup ds/\d'=.tup ds')\/(d=.lst ds/\d'=.lst ds'))/\j5 X.K H ds xs/\j5 X.K H ds' xs:=by
 cases e:d.atom with
 |some u =>
  have ev:=h.at_ e;subst ev;cases e':d'.atom with
  |some u'=>exact .inl (ja6 e ((h'.at_ e')▸e'))
  |none=>obtain⟨a,ea⟩:=h'.ref e';subst ea;exact(j0y e).elim
 |none =>
  cases e':d'.atom with
  |some u'=>have ev:=h'.at_ e';subst ev;obtain⟨a,ea⟩:=h.ref e;subst ea;exact(j0y e').elim
  |none =>
   cases d with
   |tup ds =>
    obtain⟨a,xs,ea,sq,l⟩:=h;cases d' with
    |tup ds' =>obtain⟨a',ys,eb,sq',l'⟩:=h';rw[ea]at eb;cases eb;rw[I.tuple_inj sq' sq]at l';exact .inr ⟨ds,ds',xs,.inl ⟨rfl,rfl⟩,l,l'⟩
    |lst ds'=>obtain⟨a',ys,eb,sq',l'⟩:=h';rw[ea]at eb;cases eb;exact(Ew I sq sq').elim
    |dct _ _=>simp[D.dep]at hd'
    |sct _=>simp[D.dep]at hd'
    |fn _ _=>simp[D.dep]at hd'
    |_=>cases e'
   |lst ds =>
    obtain⟨a,xs,ea,sq,l⟩:=h;cases d' with
    |lst ds' =>obtain⟨a',ys,eb,sq',l'⟩:=h';rw[ea]at eb;cases eb;rw[I.list_inj sq' sq]at l';exact .inr ⟨ds,ds',xs,.inr ⟨rfl,rfl⟩,l,l'⟩
    |tup ds'=>obtain⟨a',ys,eb,sq',l'⟩:=h';rw[ea]at eb;cases eb;exact(Ew I sq' sq).elim
    |dct _ _=>simp[D.dep]at hd'
    |sct _=>simp[D.dep]at hd'
    |fn _ _=>simp[D.dep]at hd'
    |_=>cases e'
   |dct _ _=>simp[D.dep]at hd
   |sct _=>simp[D.dep]at hd
   |fn _ _=>simp[D.dep]at hd
   |_=>cases e
theorem j92{n:Nat}(ih:∀{d d':D}{v:V},d.dep<=n->d.dep<10000->d'.dep<10000->Enc X.K H d v->Enc X.K H d' v->d=d'):∀{ds ds':List D}{xs:List V},D.depL ds<=n->D.depL ds<10000->D.depL ds'<10000->j5 X.K H ds xs->j5 X.K H ds' xs->ds=ds'
 |[],[],_,_,_,_,_,_=>rfl
 |[],_::_,_,_,_,_,h,⟨x,r,e,_⟩=>by cases h;cases e
 |_::_,[],_,_,_,_,⟨x,r,e,_⟩,h=>by cases h;cases e
 |d::ds,d'::ds',_,m,n1,n2,⟨x,r,e,h,l⟩,⟨x',r',e',h',l'⟩=>by subst e;cases e';rw[D.depL]at m n1 n2;rw[ih nofun nofun nofun h h',j92 ih nofun nofun nofun l l']
theorem j91(I:Inv X pins σ H s):∀(n:Nat){d d':D}{v:V},d.dep<=n->d.dep<10000->d'.dep<10000->Enc X.K H d v->Enc X.K H d' v->d=d'
 |0,d,d',v,hn,hd,hd',h,h'=>by
  rcases jgr I hd hd' h h' with e|⟨ds,ds',xs,⟨e,_⟩|⟨e,_⟩,_⟩
  .exact e
  .subst e;simp[D.dep]at hn
  .subst e;simp[D.dep]at hn
 |n+1,d,d',v,hn,hd,hd',h,h'=>by
  rcases jgr I hd hd' h h' with e|⟨ds,ds',xs,⟨e,e'⟩|⟨e,e'⟩,l,l'⟩
  .exact e
  .subst e e';simp only[D.dep]at hn hd hd';rw[j92 (λa b c=>j91 I n a b c) nofun nofun nofun l l']
  .subst e e';simp only[D.dep]at hn hd hd';rw[j92 (λa b c=>j91 I n a b c) nofun nofun nofun l l']
theorem Enc.inj(I:Inv X pins σ H s){d d':D}{v:V}(hd:d.dep<10000)(hd':d'.dep<10000)(h:Enc X.K H d v)(h':Enc X.K H d' v):d=d':=j91 I d.dep (X3 _) hd hd' h h'
end
section
variable{X:Cx}{pins:k90}{σ:St}{H:Hp}{s:ae}
theorem D.depL_le:∀{ds:List D}{j:Nat}{d:D},ds[j]?=a3 d->d.dep<=D.depL ds
 |[],_,_,h=>by simp at h
 |x::xs,0,d,h=>by simp at h;subst h;simp[D.depL];omega
 |x::xs,j+1,d,h=>by have:=D.depL_le (ds:=xs) (j:=j) (d:=d) (by simpa using h);simp[D.depL];omega
theorem Vi(I:Inv X pins σ H s):∀(n:Nat)(A:aB){d d':D}{v v':V}{u u':a8},d.dep<=n->A.units+n<aM->d'.dep<10000->Enc X.K H d v->RelV v u->Enc X.K H d' v'->RelV v' u' ->
  gy A s u u' (deq d d')/\cN A s u u' (deq d d')
 |0,A,d,d',v,v',u,u',hn,hu,nd,en,r,en',r'=>by
  have hu0:A.units<aM:=by omega
  cases d with
  |tup l=>simp[D.dep]at hn
  |lst l=>simp[D.dep]at hn
  |dct ks l=>simp[D.dep]at hn
  |sct k=>simp[D.dep]at hn
  |fn x l=>simp[D.dep]at hn
  |non =>
   cases(show v=.non from en);cases(show u=aU from r);cases d' with
   |dct ks' l'=>simp[D.dep]at nd
   |sct k'=>simp[D.dep]at nd
   |fn x' l'=>simp[D.dep]at nd
   |non=>cases(show v'=.non from en');cases(show u'=aU from r');exact⟨.none_none,.same _⟩
   |bl k=>cases(show v'=.bl k from en');cases(show u'=bO k from r');exact⟨.none_bool _,.none_bool _⟩
   |int k=>cases(show v'=.int k from en');obtain⟨t,q⟩:=(show ∃t,u'=bj k t from r');subst q;exact⟨.none_int _ _,.none_int _ _⟩
   |str k=>cases(show v'=.str k from en');obtain⟨t,q⟩:=(show ∃t,u'=bq k t from r');subst q;exact⟨.none_str _ _,.none_str _ _⟩
   |tup l=>obtain⟨a,xs,e,sq,_⟩:=en';subst e;cases(show u'=aC a from r');obtain⟨_,_,q,_⟩:=I.tuple sq;exact⟨.none_tuple q hu0,.none_tuple q hu0⟩
   |lst l=>obtain⟨a,xs,e,sq,_⟩:=en';subst e;cases(show u'=aC a from r');obtain⟨_,_,q,_⟩:=I.list sq;exact⟨.none_list q.isList hu0,.none_list q.isList hu0⟩
  |bl b =>
   cases(show v=.bl b from en);cases(show u=bO b from r);cases d' with
   |dct ks' l'=>simp[D.dep]at nd
   |sct k'=>simp[D.dep]at nd
   |fn x' l'=>simp[D.dep]at nd
   |non=>cases(show v'=.non from en');cases(show u'=aU from r');exact⟨.bool_none _,.bool_none _⟩
   |bl k=>cases(show v'=.bl k from en');cases(show u'=bO k from r');exact⟨.bool_bool _ _,.bool_bool _ _⟩
   |int k=>cases(show v'=.int k from en');obtain⟨t,q⟩:=(show ∃t,u'=bj k t from r');subst q;exact⟨.bool_int _ _ _,.bool_int _ _ _⟩
   |str k=>cases(show v'=.str k from en');obtain⟨t,q⟩:=(show ∃t,u'=bq k t from r');subst q;exact⟨.bool_str _ _ _,.bool_str _ _ _⟩
   |tup l=>obtain⟨a,xs,e,sq,_⟩:=en';subst e;cases(show u'=aC a from r');obtain⟨_,_,q,_⟩:=I.tuple sq;exact⟨.bool_tuple _ q hu0,.bool_tuple _ q hu0⟩
   |lst l=>obtain⟨a,xs,e,sq,_⟩:=en';subst e;cases(show u'=aC a from r');obtain⟨_,_,q,_⟩:=I.list sq;exact⟨.bool_list _ q.isList hu0,.bool_list _ q.isList hu0⟩
  |int b =>
   cases(show v=.int b from en);obtain⟨tk,q0⟩:=(show ∃t,u=bj b t from r);subst q0;cases d' with
   |dct ks' l'=>simp[D.dep]at nd
   |sct k'=>simp[D.dep]at nd
   |fn x' l'=>simp[D.dep]at nd
   |non=>cases(show v'=.non from en');cases(show u'=aU from r');exact⟨.int_none _ _,.int_none _ _⟩
   |bl k=>cases(show v'=.bl k from en');cases(show u'=bO k from r');exact⟨.int_bool _ _ _,.int_bool _ _ _⟩
   |int k=>cases(show v'=.int k from en');obtain⟨t,q⟩:=(show ∃t,u'=bj k t from r');subst q;exact⟨.int_int _ _ _ _,.int_int _ _ _ _⟩
   |str k=>cases(show v'=.str k from en');obtain⟨t,q⟩:=(show ∃t,u'=bq k t from r');subst q;exact⟨.int_str _ _ _ _,.int_str _ _ _ _⟩
   |tup l=>obtain⟨a,xs,e,sq,_⟩:=en';subst e;cases(show u'=aC a from r');obtain⟨_,_,q,_⟩:=I.tuple sq;exact⟨.int_tuple _ _ q hu0,.int_tuple _ _ q hu0⟩
   |lst l=>obtain⟨a,xs,e,sq,_⟩:=en';subst e;cases(show u'=aC a from r');obtain⟨_,_,q,_⟩:=I.list sq;exact⟨.int_list _ _ q.isList hu0,.int_list _ _ q.isList hu0⟩
  |str b =>
   cases(show v=.str b from en);obtain⟨tk,q0⟩:=(show ∃t,u=bq b t from r);subst q0;cases d' with
   |dct ks' l'=>simp[D.dep]at nd
   |sct k'=>simp[D.dep]at nd
   |fn x' l'=>simp[D.dep]at nd
   |non=>cases(show v'=.non from en');cases(show u'=aU from r');exact⟨.str_none _ _,.str_none _ _⟩
   |bl k=>cases(show v'=.bl k from en');cases(show u'=bO k from r');exact⟨.str_bool _ _ _,.str_bool _ _ _⟩
   |int k=>cases(show v'=.int k from en');obtain⟨t,q⟩:=(show ∃t,u'=bj k t from r');subst q;exact⟨.str_int _ _ _ _,.str_int _ _ _ _⟩
   |str k=>cases(show v'=.str k from en');obtain⟨t,q⟩:=(show ∃t,u'=bq k t from r');subst q;exact⟨.str_str _ _ _ _,.str_str _ _ _ _⟩
   |tup l=>obtain⟨a,xs,e,sq,_⟩:=en';subst e;cases(show u'=aC a from r');obtain⟨_,_,q,_⟩:=I.tuple sq;exact⟨.str_tuple _ _ q hu0,.str_tuple _ _ q hu0⟩
   |lst l=>obtain⟨a,xs,e,sq,_⟩:=en';subst e;cases(show u'=aC a from r');obtain⟨_,_,q,_⟩:=I.list sq;exact⟨.str_list _ _ q.isList hu0,.str_list _ _ q.isList hu0⟩
 |n+1,A,d,d',v,v',u,u',hn,hu,nd,en,r,en',r'=>by
  have hu0:A.units<aM:=by omega
  have hu1:A.in1.units+n<aM:=by show A.units+1+n<aM;omega
  have low:d.dep<=n->gy A s u u' (deq d d')/\cN A s u u' (deq d d'):=λh=>Vi I n A h nofun nd en r en' r';cases d with
  |non=>exact low (by simp[D.dep])
  |bl b=>exact low (by simp[D.dep])
  |int b=>exact low (by simp[D.dep])
  |str b=>exact low (by simp[D.dep])
  |dct ks l=>exfalso;have:(9900:Nat)=aM:=rfl;simp only[D.dep]at hn;omega
  |sct k=>exfalso;have:(9900:Nat)=aM:=rfl;simp only[D.dep]at hn;omega
  |fn x l=>exfalso;have:(9900:Nat)=aM:=rfl;simp only[D.dep]at hn;omega
  |tup ds =>
   have hd:D.depL ds<=n:=by simp[D.dep]at hn;omega
   obtain⟨a,xs,e,sq,l⟩:=id en;subst e;cases(show u=aC a from r);obtain⟨us,rv,q,_⟩:=I.tuple sq;cases d' with
   |dct ks' l'=>simp[D.dep]at nd
   |sct k'=>simp[D.dep]at nd
   |fn x' l'=>simp[D.dep]at nd
   |non=>cases(show v'=.non from en');cases(show u'=aU from r');exact⟨.tuple_none q hu0,.tuple_none q hu0⟩
   |bl k=>cases(show v'=.bl k from en');cases(show u'=bO k from r');exact⟨.tuple_bool _ q hu0,.tuple_bool _ q hu0⟩
   |int k=>cases(show v'=.int k from en');obtain⟨t,q'⟩:=(show ∃t,u'=bj k t from r');subst q';exact⟨.tuple_int _ _ q hu0,.tuple_int _ _ q hu0⟩
   |str k=>cases(show v'=.str k from en');obtain⟨t,q'⟩:=(show ∃t,u'=bq k t from r');subst q';exact⟨.tuple_str _ _ q hu0,.tuple_str _ _ q hu0⟩
   |lst ds'=>obtain⟨a',ys,e,sq',_⟩:=en';subst e;cases(show u'=aC a' from r');obtain⟨_,_,q',_⟩:=I.list sq';exact⟨.tuple_list q q'.isList hu0,.tuple_list q q'.isList hu0⟩
   |tup ds' =>
    obtain⟨a',ys,e,sq',l'⟩:=id en';subst e;cases(show u'=aC a' from r');obtain⟨us',rv',q',_⟩:=I.tuple sq';have e1:us.length=ds.length:=by rw[<-rv.length,l.length]
    have e2:us'.length=ds'.length:=by rw[<-rv'.length,l'.length]
    have main:gy A s (.ref a) (.ref a') (deq (.tup ds) (.tup ds')):=by
     have item:∀(j:Nat)(h1:j<us.toArray.size)(h2:j<us'.toArray.size),cN A.in1 s us.toArray[j] us'.toArray[j] (deq (ds.getD j .non) (ds'.getD j .non)):=λj h1 h2=>by
      have k1:j<ds.length:=by rw[<-e1];simpa using h1
      have k2:j<ds'.length:=by rw[<-e2];simpa using h2
      obtain⟨x,hx,ex⟩:=l.get (kh k1);obtain⟨y,hy,ey⟩:=l'.get (kh k2);obtain⟨w1,hw1,rw1⟩:=rv.get hx;obtain⟨w2,hw2,rw2⟩:=rv'.get hy;have g1:us.toArray[j]=w1:=by simp at h1 ⊢;rw[kh (by simpa using h1)]at hw1;exact ax hw1
      have g2:us'.toArray[j]=w2:=by simp at h2 ⊢;rw[kh (by simpa using h2)]at hw2;exact ax hw2
      rw[g1,g2,km,km,kh k1,kh k2];exact(Vi I n A.in1 (Xi (D.depL_le (kh k1)) hd) hu1 (cy (D.depL_le (kh k2)) (by simp only[D.dep]at nd;omega)) ex rw1 ey rw2).2
     have z:=SeqAt.RcAt.tuples (A:=A) (s:=s) q q' hu0 (e:=λj=>deq (ds.getD j .non) (ds'.getD j .non)) item;have ev:((aE (min us.toArray.size us'.toArray.size)).all (λj=>deq (ds.getD j .non) (ds'.getD j .non))&&us.toArray.size==us'.toArray.size)=deq (.tup ds) (.tup ds'):=by
      simp only[Fd,X5,e1,e2];by_cases hl:ds.length=ds'.length
      .rw[hl,lU,beq_self_eq_true,l6,<-hl];exact V9 hl λj x y hx hy=>by rw[km,km,hx,hy];rfl
      .rw[U0 hl,beq_false_of_ne hl,gP]
     rw[ev]at z;exact z
    refine⟨main,?_⟩;by_cases ea:a=a'
    .subst ea;have e9:(9900:Nat)=aM:=rfl;rw[Enc.inj I nofun nd en en',Bp _ nd];exact .same _
    .exact .of_refs ea main
  |lst ds =>
   have hd:D.depL ds<=n:=by simp[D.dep]at hn;omega
   obtain⟨a,xs,e,sq,l⟩:=id en;subst e;cases(show u=aC a from r);obtain⟨us,rv,q0,_⟩:=I.list sq;have q:=q0.isList;cases d' with
   |dct ks' l'=>simp[D.dep]at nd
   |sct k'=>simp[D.dep]at nd
   |fn x' l'=>simp[D.dep]at nd
   |non=>cases(show v'=.non from en');cases(show u'=aU from r');exact⟨.list_none q hu0,.list_none q hu0⟩
   |bl k=>cases(show v'=.bl k from en');cases(show u'=bO k from r');exact⟨.list_bool _ q hu0,.list_bool _ q hu0⟩
   |int k=>cases(show v'=.int k from en');obtain⟨t,q'⟩:=(show ∃t,u'=bj k t from r');subst q';exact⟨.list_int _ _ q hu0,.list_int _ _ q hu0⟩
   |str k=>cases(show v'=.str k from en');obtain⟨t,q'⟩:=(show ∃t,u'=bq k t from r');subst q';exact⟨.list_str _ _ q hu0,.list_str _ _ q hu0⟩
   |tup ds'=>obtain⟨a',ys,e,sq',_⟩:=en';subst e;cases(show u'=aC a' from r');obtain⟨_,_,q',_⟩:=I.tuple sq';exact⟨.list_tuple q q' hu0,.list_tuple q q' hu0⟩
   |lst ds' =>
    obtain⟨a',ys,e,sq',l'⟩:=id en';subst e;cases(show u'=aC a' from r');obtain⟨us',rv',q0',_⟩:=I.list sq';have q':=q0'.isList;have e1:us.length=ds.length:=by rw[<-rv.length,l.length]
    have e2:us'.length=ds'.length:=by rw[<-rv'.length,l'.length]
    have main:gy A s (.ref a) (.ref a') (deq (.lst ds) (.lst ds')):=by
     have item:∀(j:Nat)(h1:j<us.toArray.size)(h2:j<us'.toArray.size),cN A.in1 s us.toArray[j] us'.toArray[j] (deq (ds.getD j .non) (ds'.getD j .non)):=λj h1 h2=>by
      have k1:j<ds.length:=by rw[<-e1];simpa using h1
      have k2:j<ds'.length:=by rw[<-e2];simpa using h2
      obtain⟨x,hx,ex⟩:=l.get (kh k1);obtain⟨y,hy,ey⟩:=l'.get (kh k2);obtain⟨w1,hw1,rw1⟩:=rv.get hx;obtain⟨w2,hw2,rw2⟩:=rv'.get hy;have g1:us.toArray[j]=w1:=by simp at h1 ⊢;rw[kh (by simpa using h1)]at hw1;exact ax hw1
      have g2:us'.toArray[j]=w2:=by simp at h2 ⊢;rw[kh (by simpa using h2)]at hw2;exact ax hw2
      rw[g1,g2,km,km,kh k1,kh k2];exact(Vi I n A.in1 (Xi (D.depL_le (kh k1)) hd) hu1 (cy (D.depL_le (kh k2)) (by simp only[D.dep]at nd;omega)) ex rw1 ey rw2).2
     simp only[j0l];by_cases hl:ds.length=ds'.length
     .have z:=SeqAt.RcAt.lists (A:=A) (s:=s) q q' (by simp[e1,e2,hl]) hu0 (e:=λj=>deq (ds.getD j .non) (ds'.getD j .non)) item;have ev:(aE us.toArray.size).all (λj=>deq (ds.getD j .non) (ds'.getD j .non))=v5 ds ds':=by rw[X5,e1];exact V9 hl λj x y hx hy=>by rw[km,km,hx,hy];rfl
      rw[ev]at z;exact z
     .rw[U0 hl];exact .lists_lengths q q' (by simp[e1,e2,hl]) hu0
    refine⟨main,?_⟩;by_cases ea:a=a'
    .subst ea;have e9:(9900:Nat)=aM:=rfl;rw[Enc.inj I nofun nd en en',Bp _ nd];exact .same _
    .exact .of_refs ea main
end
section
variable{X:Cx}{pins:k90}{σ:St}{H:Hp}{s:ae}{A:aB}
theorem j8y(I:Inv X pins σ H s){n:Nat}{ds ds':List D}{xs ys:List V}{us us':List a8}(l:j5 X.K H ds xs)(rv:Vals xs us)(l':j5 X.K H ds' ys)(rv':Vals ys us')(hd:D.depL ds<=n)(hu:A.units+1+n<aM)(nd:D.depL ds'<10000) :
  ∀(j:Nat)(h1:j<us.toArray.size)(h2:j<us'.toArray.size),cN A.in1 s us.toArray[j] us'.toArray[j] (deq (ds.getD j .non) (ds'.getD j .non)):=λj h1 h2=>by
 have k1:j<ds.length:=by rw[<-l.length,rv.length];simpa using h1
 have k2:j<ds'.length:=by rw[<-l'.length,rv'.length];simpa using h2
 obtain⟨x,hx,ex⟩:=l.get (kh k1);obtain⟨y,hy,ey⟩:=l'.get (kh k2);obtain⟨w1,hw1,rw1⟩:=rv.get hx;obtain⟨w2,hw2,rw2⟩:=rv'.get hy;have g1:us.toArray[j]=w1:=by simp at h1 ⊢;rw[kh (by simpa using h1)]at hw1;exact ax hw1
 have g2:us'.toArray[j]=w2:=by simp at h2 ⊢;rw[kh (by simpa using h2)]at hw2;exact ax hw2
 rw[g1,g2,km,km,kh k1,kh k2];exact(Vi I n A.in1 (Xi (D.depL_le (kh k1)) hd) hu (cy (D.depL_le (kh k2)) nd) ex rw1 ey rw2).2
theorem j5x(hu:X.A.units+100<aM):OpR X (aW .Eq) (λx y H Q=>∃d d',Enc X.K H d x/\Enc X.K H d' y/\d.dep<=100/\d'.dep<10000/\Q (.bl (deq d d')) H):=by rintro pins s σ H x y v u Q I rx ry ⟨d,d',en,en',hd,nd,q⟩;exact(Vi I 100 X.A hd hu nd en rx en' ry).1 X.prog X.w X.xe _ ⟨.bl (deq d d'),H,I,rfl,q⟩
theorem j5v(hu:X.A.units+100<aM):OpR X (aW .NotEq) (λx y H Q=>∃ds ds' k,Enc X.K H (D.seq k ds) x/\Enc X.K H (D.seq k ds') y/\D.depL ds<=98/\D.depL ds'<10000/\Q (.bl (!v5 ds ds')) H):=by
 rintro pins s σ H x y v u Q I rx ry ⟨ds,ds',k,en,en',hd,nd,q⟩;have h0:X.A.units<aM:=by omega
 obtain⟨t,xs,e,sq,l⟩:=Vp en;obtain⟨t',ys,e',sq',l'⟩:=Vp en';subst e e';cases rx;cases ry;obtain⟨us,rv,qs,_⟩:=I.side sq;obtain⟨us',rv',qs',_⟩:=I.side sq';have e1:us.length=ds.length:=by rw[<-rv.length,l.length]
 have e2:us'.length=ds'.length:=by rw[<-rv'.length,l'.length]
 have item:=j8y (A:=X.A) I l rv l' rv' hd nofun nd;unfold ql at qs qs';cases k with
 |true =>
  rw[if_pos rfl]at qs qs';by_cases hl:ds.length=ds'.length
  .have z:=SeqAt.RcNeAt.lists (A:=X.A) (s:=s) qs qs' (by simp[e1,e2,hl]) h0 (e:=λj=>deq (ds.getD j .non) (ds'.getD j .non)) item;have ev:(aE us.toArray.size).all (λj=>deq (ds.getD j .non) (ds'.getD j .non))=v5 ds ds':=by rw[X5,e1];exact V9 hl λj x y hx hy=>by rw[km,km,hx,hy];rfl
   rw[ev]at z;exact z X.prog X.w X.xe _ ⟨.bl (!v5 ds ds'),H,I,rfl,q⟩
  .have z:=SeqAt.RcNeAt.lists_lengths (A:=X.A) (s:=s) qs qs' (by simp[e1,e2,hl]) h0;rw[U0 hl]at q;exact z X.prog X.w X.xe _ ⟨.bl a7,H,I,rfl,q⟩
 |false =>
  rw[if_neg xf]at qs qs';have z:=SeqAt.RcNeAt.tuples (A:=X.A) (s:=s) qs qs' h0 (e:=λj=>deq (ds.getD j .non) (ds'.getD j .non)) item;have ev:((aE (min us.toArray.size us'.toArray.size)).all (λj=>deq (ds.getD j .non) (ds'.getD j .non))&&us.toArray.size==us'.toArray.size)=v5 ds ds':=by
   simp only[X5,e1,e2];by_cases hl:ds.length=ds'.length
   .rw[hl,lU,beq_self_eq_true,l6,<-hl];exact V9 hl λj x y hx hy=>by rw[km,km,hx,hy];rfl
   .rw[U0 hl,beq_false_of_ne hl,gP]
  rw[ev]at z;exact z X.prog X.w X.xe _ ⟨.bl (!v5 ds ds'),H,I,rfl,q⟩
noncomputable def eqW(X:Cx)(H:Hp)(d:D)(y:a8):Bool:=@decide (∃e v,e.dep<10000/\Enc X.K H e v/\RelV v y/\deq e d=a7) (dy _)
theorem M9(I:Inv X pins σ H s){d e:D}{v:V}{y:a8}(he:e.dep<10000)(en:Enc X.K H e v)(r:RelV v y):eqW X H d y=deq e d:=by
 unfold eqW;cases h:deq e d with
 |true=>exact @decide_eq_true _ (dy _) ⟨e,v,he,en,r,h⟩
 |false =>refine @decide_eq_false _ (dy _) λ⟨e',v',he',en',r',h'⟩=>?_;rw[r'.inj r]at en';rw[Enc.inj I he' he en' en,h]at h';cases h'
theorem Cr(I:Inv X pins σ H s){d:D}:∀{ds:List D}{xs:List V}{us:List a8},D.depL ds<10000->j5 X.K H ds xs->Vals xs us->us.any (eqW X H d)=ds.any λe=>deq e d
 |[],_,_,_,h,r=>by cases h;cases r;rfl
 |e::ds,_,_,hd,⟨x,r,eq,h,l⟩,rv=>by
  subst eq;rw[D.depL]at hd;cases rv with
  |cons a b=>rw[cj,cj,Cr I nofun l b,M9 I nofun h a]
theorem Wy(I:Inv X pins σ H s){d:D}:∀{ds:List D}{xs:List V}{us:List a8},D.depL ds<10000->j5 X.K H ds xs->Vals xs us->us.countP (eqW X H d)=ds.countP λe=>deq e d
 |[],_,_,_,h,r=>by cases h;cases r;rfl
 |e::ds,_,_,hd,⟨x,r,eq,h,l⟩,rv=>by
  subst eq;rw[D.depL]at hd;cases rv with
  |cons a b=>rw[tu,tu,Wy I nofun l b,M9 I nofun h a]
theorem Vk(I:Inv X pins σ H s){d:D}{v:V}{u:a8}(en:Enc X.K H d v)(r:RelV v u)(nd:d.dep<10000){n:Nat}(hu:A.units+n<aM):∀{ds:List D}{xs:List V}{us:List a8},D.depL ds<=n->j5 X.K H ds xs->Vals xs us->∀y∈us,cN A s y u (eqW X H d y)
 |[],_,_,_,h,rv,y,hy=>by cases h;cases rv;cases hy
 |e::ds,_,_,hd,⟨x,r',eq,h,l⟩,rv,y,hy=>by
  subst eq;have hd':e.dep<=n/\D.depL ds<=n:=by simp[D.depL]at hd;omega
  cases rv with
  |cons a b =>
   rcases xm.mp hy with rfl|hy
   .have e9:(9900:Nat)=aM:=rfl;rw[M9 I nofun h a];exact(Vi I n A hd'.1 hu nd h a en r).2
   .exact Vk I en r nd hu hd'.2 l b y hy
theorem j5w(hu:X.A.units+100<aM):OpR X (aW .In) (λx y H Q=>∃d ds k,Enc X.K H d x/\Enc X.K H (D.seq k ds) y/\D.depL ds<=98/\d.dep<10000/\Q (.bl (ds.any λe=>deq e d)) H):=by
 rintro pins s σ H x y v u Q I rx ry ⟨d,ds,k,en,en',hd,nd,q⟩;obtain⟨t,xs,e,sq,l⟩:=Vp en';subst e;cases ry;obtain⟨us,rv,qs,_⟩:=I.side sq;have me:=λy (hy:y∈us.toArray)=>Vk (A:=X.A.in1) I en rx nd (n:=98) (by show X.A.units+1+98<aM;omega) hd l rv y (by simpa using hy);have ev:us.toArray.any (eqW X H d)=ds.any λe=>deq e d:=by rw[ku];exact Cr I nofun l rv
 unfold ql at qs;cases k with
 |true=>rw[if_pos rfl]at qs;exact SeqAt.in_listAt (eqW X H d) qs me (by rw[ev];exact⟨.bl _,H,I,rfl,q⟩)
 |false=>rw[if_neg xf]at qs;exact SeqAt.in_tupleAt (eqW X H d) qs me (by rw[ev];exact⟨.bl _,H,I,rfl,q⟩)
theorem Lb(hu:X.A.units+100<aM):OpR X (aW .NotIn) (λx y H Q=>∃d ds k,Enc X.K H d x/\Enc X.K H (D.seq k ds) y/\D.depL ds<=98/\d.dep<10000/\Q (.bl (!ds.any λe=>deq e d)) H):=by
 rintro pins s σ H x y v u Q I rx ry ⟨d,ds,k,en,en',hd,nd,q⟩;obtain⟨t,xs,e,sq,l⟩:=Vp en';subst e;cases ry;obtain⟨us,rv,qs,_⟩:=I.side sq;have me:=λy (hy:y∈us.toArray)=>Vk (A:=X.A.in1) I en rx nd (n:=98) (by show X.A.units+1+98<aM;omega) hd l rv y (by simpa using hy);have ev:us.toArray.any (eqW X H d)=ds.any λe=>deq e d:=by rw[ku];exact Cr I nofun l rv
 unfold ql at qs;cases k with
 |true=>rw[if_pos rfl]at qs;exact SeqAt.notIn_listAt (eqW X H d) qs me (by rw[ev];exact⟨.bl _,H,I,rfl,q⟩)
 |false=>rw[if_neg xf]at qs;exact SeqAt.notIn_tupleAt (eqW X H d) qs me (by rw[ev];exact⟨.bl _,H,I,rfl,q⟩)
theorem j63 (hu:X.A.units+100<aM):MtR X "tuple.count" (λx vs H Q=>∃t xs ds d y,x=.ref t/\vs=[y]/\SqT X.K H t xs/\j5 X.K H ds xs/\Enc X.K H d y/\D.depL ds<=97/\d.dep<10000/\Q (.int (ds.countP λe=>deq e d)) H):=by
 rintro pins s σ H x vs v us Q I rx rv ⟨t,xs,ds,d,y,e,e',sq,l,en,hd,nd,q⟩;subst e e';cases rx;obtain⟨u,eu,ru⟩:=rv.one;subst eu;obtain⟨its,ri,⟨⟨cl,dd,da,sl⟩,h1,h2,n,h3⟩,_⟩:=I.tuple sq;have h2:cl=.type "tuple":=h2;have h3:da=.seq its.toArray n:=h3;subst h2 h3;refine bD iz ⟨_,h1,rfl⟩ F.entry_tuple_count (F.args_tuple_count_2 _ _) (SeqAt.tuple_countAt t its.toArray n dd sl u (eqW X H d)) ⟨h1,λy hy=>Vk (n:=97) I en ru nd (by show X.A.units+1+97<aM;omega) hd l ri y (by simpa using hy),?_⟩;have ev:(its.toArray.toList.countP (eqW X H d):Nat)=ds.countP λe=>deq e d:=by rw[eZ];exact Wy I nofun l ri
 rw[ev];exact⟨.int _,H,I.tok _,⟨_,rfl⟩,q⟩
theorem j8l:OpR X (bc .Add) (λx y H Q=>∃a b xs ys,x=.ref a/\y=.ref b/\SqT X.K H a xs/\SqT X.K H b ys/\xs.length+ys.length<=aq /\
  (xs=[]->Q (.ref b) H)/\(xs≠[]->ys=[]->Q (.ref a) H)/\(xs≠[]->ys≠[]->∀p,H p=a5->Q (.ref p) (upd H p (.tup (xs++ys))))):=by
 rintro pins s σ H x y v u Q I rx ry ⟨a,b,xs,ys,e,e',sa,sb,hz,q1,q2,q3⟩;by_cases hx:xs=[]
 .subst e e' hx;cases rx;cases ry;obtain⟨us,ru,⟨⟨c1,d1,f1,g1⟩,h1,k1,n1,m1⟩,_⟩:=I.tuple sa;obtain⟨vs,rv,⟨⟨c2,d2,f2,g2⟩,h2,k2,n2,m2⟩,_⟩:=I.tuple sb;cases ru;have k1:c1=.type "tuple":=k1;have m1:f1=.seq ([]:List a8).toArray n1:=m1;have k2:c2=.type "tuple":=k2;have m2:f2=.seq vs.toArray n2:=m2;subst k1 m1 k2 m2;exact gH ⟨_,h1,rfl⟩ ⟨_,h2,rfl⟩ gZ iU dN dC (dr _ _)
   (tuple_addW0 a b ([]:List a8).toArray vs.toArray n1 n2 d1 d2 g1 g2 (by simp)) ⟨h1,h2,⟨.ref b,H,I,rfl,q1 rfl⟩⟩
 .exact jcg pins s σ H x y v u Q I rx ry ⟨a,b,xs,ys,e,e',sa,sb,hx,hz,q2 hx,q3 hx⟩
theorem all_range:∀bs:List Bool,(aE bs.length).all (λi=>(bs[i]?).getD a7)=bs.all id
 |[]=>rfl
 |b::bs=>by rw[xx,cF,fg,fR,fg,<-all_range bs];rfl
theorem j1k (hc:X.calm=a7):Jt X (.builtin "all") (λxs H Q=>∃(l:aa)(bs:List Bool),xs=[.ref l]/\SqL X.K H l (bs.map V.bl)/\Q (.bl (bs.all id)) H):=by
 rintro pins s σ H xs us Q I r ⟨l,bs,e,sq,q⟩;subst e;obtain⟨u,eu,ru⟩:=vals1 r;subst eu;cases ru;obtain⟨its,rv,pl,_⟩:=I.list sq;have hlt:l<s.heap.objs.size:=by obtain⟨_,_,e,_⟩:=pl;exact xq e
 have hl:its.length=bs.length:=by rw[<-rv.length,xj]
 refine call_all_walk (bU pl.isList ⟨s.heap.objs.size,[s.heap.objs.size,l],[s.heap.objs.size],its.toArray.size,_,_,λi=>(bs[i]?).getD a7,rfl,Walks.list (A:=X.A.in1) (I.ok.hd hc) _ _ (X8 hlt) its.toArray,⟨⟨_,X4 _ rfl,rfl,rfl⟩,pl.isList.push _⟩,?_,λh' tk kp=>?_⟩)
 .intro i v s' Q' E' hv hq;have hi:i<its.length:=by have:=T8.mp hv;obtain⟨h,_⟩:=this;simpa using h
  have hb:i<bs.length:=by omega
  obtain⟨w1,hw,rw1⟩:=rv.get (x:=.bl bs[i]) (i:=i) (by rw[X7,kh hb];rfl);have:its.toArray[i]?=a3 w1:=by simpa using hw
  rw[this]at hv;cases hv;cases rw1;simp only[kh hb,dH]at hq;exact bu hq
 .have ev:(aE its.toArray.size).all (λi=>(bs[i]?).getD a7)=bs.all id:=by rw[X5,hl];exact all_range bs
  rw[ev];refine⟨.bl _,H,I.kept (t':=tk) λb o e=>kp b o ?_ (xn _ e),rfl,q⟩;intro z;rw[xg.mp z]at e;exact Xx _ (xq e)
end
section
variable{X:Cx}{ρ:Rho}{a b e:ai}{d d':D}{ds ds':List D}{i j:Int}{pos p p1 p2:aJ}{k:Nat}{x:af}{P:Po}
theorem DE.eqD(hu:X.A.units+100<aM)(ha:DT X ρ a d)(hb:DT X ρ b d')(hd:d.dep<=100)(nd:d'.dep<10000):DE X ρ (.Compare a [.Eq] [b] pos) (.bl (deq d d')):=λσ H Q R q =>(Q3 (j5x hu) peS peS (zb _)).to (ha σ H _ R λv H1 g1 e1=>hb σ H1 _ (R.grow g1) λu H2 g2 e2=>⟨d,d',e1.mono g2,e2,hd,nd,q _ H2 (g1.trans g2) rfl⟩)
theorem DB.eqD(hu:X.A.units+100<aM)(ha:DT X ρ a d)(hb:DT X ρ b d')(hd:d.dep<=100)(nd:d'.dep<10000):DB X ρ (.Compare a [.Eq] [b] pos) (deq d d'):=λσ H Q R q =>(Q0 (j5x hu) peS peS (zb _)).to (ha σ H _ R λv H1 g1 e1=>hb σ H1 _ (R.grow g1) λu H2 g2 e2=>⟨d,d',e1.mono g2,e2,hd,nd,_,rfl,q H2 (g1.trans g2)⟩)
theorem DB.neD(s:Bool)(hu:X.A.units+100<aM)(ha:DT X ρ a (D.seq s ds))(hb:DT X ρ b (D.seq s ds'))(hd:D.depL ds<=98)(nd:D.depL ds'<10000):DB X ρ (.Compare a [.NotEq] [b] pos) (!v5 ds ds'):=λσ H Q R q =>(Q0 (j5v hu) peS peS (zb _)).to (ha σ H _ R λv H1 g1 e1=>hb σ H1 _ (R.grow g1) λu H2 g2 e2=>⟨ds,ds',s,e1.mono g2,e2,hd,nd,_,rfl,q H2 (g1.trans g2)⟩)
theorem DB.notIn(s:Bool)(hu:X.A.units+100<aM)(ha:DT X ρ a d)(hb:DT X ρ b (D.seq s ds))(hd:D.depL ds<=98)(nd:d.dep<10000)(hm:aK .NotIn b=a4:=by with_unfolding_all rfl):DB X ρ (.Compare a [.NotIn] [b] pos) (!ds.any λe=>deq e d):=λσ H Q R q =>(Q0 (Lb hu) peS peS hm).to (ha σ H _ R λv H1 g1 e1=>hb σ H1 _ (R.grow g1) λu H2 g2 e2=>⟨d,ds,s,e1.mono g2,e2,hd,nd,_,rfl,q H2 (g1.trans g2)⟩)
theorem DB.in(s:Bool)(hu:X.A.units+100<aM)(ha:DT X ρ a d)(hb:DT X ρ b (D.seq s ds))(hd:D.depL ds<=98)(nd:d.dep<10000)(hm:aK .In b=a4:=by with_unfolding_all rfl):DB X ρ (.Compare a [.In] [b] pos) (ds.any λe=>deq e d):=λσ H Q R q =>(Q0 (j5w hu) peS peS hm).to (ha σ H _ R λv H1 g1 e1=>hb σ H1 _ (R.grow g1) λu H2 g2 e2=>⟨d,ds,s,e1.mono g2,e2,hd,nd,_,rfl,q H2 (g1.trans g2)⟩)
theorem DE.countT (hu:X.A.units+100<aM) (ha:DT X ρ a (.tup ds)) (hb:DT X ρ b d) (hd:D.depL ds<=97) (nd:d.dep<10000) (hbase:aL a "count" X.env (ay a X.env)=ay a X.env:=by rfl)
  (hfew:((aO p2 (a9 [b] X.env)).all (λx=>!x.1)&&(bB p2 (aY [] X.env)).all (λx=>x.1.isSome)
   && decide (([b]:List ai).length+([]:List aZ).length+(if ([]:List aZ).isEmpty then 0 else 1)<30))=a7:=by rfl) (hline:(p1.endLine==p2.line)=a7:=by rfl)
  (hs:a9 [b] X.env=(a4,ay b X.env)::a9 [] X.env:=by rfl):DE X ρ (.Call (.Attribute a "count" p1) [b] [] p2) (.int (ds.countP λe=>deq e d)):=λσ H Q R q =>
 (Wm gz iz PySem.F.type_tuple_count (j63 hu) peS (jc peS jr hs) hbase hfew hline hs rfl).to (ha σ H _ R λv H1 g1 ⟨t,xs,e,sq,l⟩=>⟨by rw[e];exact .inr (.inl ⟨rfl,xs,sq⟩),hb σ H1 _ (R.grow g1) λu H2 g2 e2 =>
  ⟨t,xs,ds,d,u,e,rfl,g2.seqT sq,l.mono g2,e2,hd,nd,q _ H2 (g1.trans g2) rfl⟩⟩)
theorem DE.min (ha:DT X ρ a (.int i)) (hb:DT X ρ b (.int j)) (hm:X.mg "min" = a5) (hc:X.calm=a7:=by rfl) (hg:Gl X "min":=by rfl) (hs:a9 [a,b] X.env=(a4,ay a X.env)::a9 [b] X.env:=by rfl) (hs2:a9 [b] X.env=(a4,ay b X.env)::a9 [] X.env:=by rfl)
  (hpl:(aO pos (a9 [b] X.env)).any (·.1)=a4:=by rfl):DE X ρ (.Call (.Name "min" p) [a,b] [] pos) (.int (if j<i then j else i)):=λσ H Q R q =>
 (v8 (j79 hc) hg hm kD (jc peS (jc peS jr hs2) hs) (by decide) (by decide) hs hpl).to (ha σ H _ R λv H1 g1 e1=>hb σ H1 _ (R.grow g1) λu H2 g2 e2=>⟨i,j,by rw[show v=.int i from e1,show u=.int j from e2],q _ H2 (g1.trans g2) rfl⟩)
theorem Bm{K:k8y}{H:Hp}:∀{bs:List Bool}{xs:List V},j5 K H (bs.map D.bl) xs->xs=bs.map V.bl
 |[],_,h=>h
 |b::bs,_,⟨x,r,e,h,l⟩=>by subst e;cases(show x=.bl b from h);rw[Bm l];rfl
theorem DE.all {bs:List Bool} (ha:DT X ρ a (.lst (bs.map D.bl))) (hm:X.mg "all" = a5) (hc:X.calm=a7:=by rfl) (hg:Gl X "all":=by rfl) (hs:a9 [a] X.env=[(a4,ay a X.env)]:=by rfl):DE X ρ (.Call (.Name "all" p) [a] [] pos) (.bl (bs.all id)):=λσ H Q R q =>(v8 (j1k hc) hg hm boot_all (jc peS jr hs) (by decide) (by decide) hs).to (ha σ H _ R λv H1 g1 ⟨l,xs,e,sq,en⟩=>⟨l,bs,by rw[e],by rw[Bm en]at sq;exact sq,q _ H1 g1 rfl⟩)
def jeo(X:Cx)(e:Option ai):TO:=λσ H Q=>∀pins s,Inv X pins σ H s->ar (aw X.prog X.w) X.A (evalPart e X.env) (λu s'=>∃o H',Inv X pins σ H' s'/\fG u o/\Q o H') X.xe s
theorem poS{e:Option ai}:PO X e (jeo X e):=λpins s σ H Q I h=>h pins s I
def DP(X:Cx)(ρ:Rho)(e:Option ai)(o:Option Int):Prop:=∀σ H Q,Rep X.K ρ σ H->(∀H',j4 H H'->Q o H')->jeo X e σ H Q
theorem DP.none:DP X ρ a5 a5:=λσ H Q R q pins s I=>jc6 pins s σ H Q I (q H (j4.refl H))
theorem DP.some(h:DT X ρ e (.int i)):DP X ρ (a3 e) (a3 i):=λσ H Q R q pins s I=>jc5 peS pins s σ H Q I (h σ H _ R λv H1 g1 e1=>⟨i,e1,q H1 g1⟩)
variable{lo hi:Option ai}{l u:Option Int}
end
def jef(K:k8y)(S:List D->List D->D->List D->Prop):Sp:=λvs H Q _=>∃(a:aa)(ds l:List D)(d:D)(l':List D)(ws xs:List V),vs=ws++[.ref a]/\TabOk K H/\H a=a3 (.lst xs)/\j5 K (del H [a]) l xs/\j5 K (del H [a]) ds ws/\S ds l d l' /\
 ∀v H' ys,j4 (del H [a]) (del H' [a])->H' a=a3 (.lst ys)->j5 K (del H' [a]) l' ys->Enc K (del H' [a]) d v->Q v H'
section
variable{X:Cx}{ρ ρ1:Rho}{e e1 e2 e3 c:ai}{st:aP}{rest sa:List aP}{a:aa}{d d1 d2 d3:D}{l l':List D}{k i:Nat}{x y f:af}{p p1 p2 p3 p4 pos:aJ}
end
noncomputable def j5m(eL n:Int):Int:=if 0<n then n%60 else(eL*48271+11)%2147483647/16
noncomputable def Bc(eL n:Int):Int:=if 0<n then n%60/6%2 else(eL*48271+11)%2147483647/128%2
noncomputable def Mv(n:Int):Int:=if 0<n then n/60 else n
noncomputable def Uh:Nat->List af->Int->Int->D×Int
 |0,_,eL,n=>(.tup [.str "tell",.int (Bc eL n)],Mv n)
 |k+1,ws,eL,n=>match ws[(j5m eL n%ws.length).toNat]? with
  |none=>(.tup [.str "tell",.int (Bc eL n)],Mv n)
  |some y=>if j5m eL n%6=0 then(.tup [.str "tell",.int (Bc eL n)],Mv n)
   else(.tup [.str "ask",.str y,(Uh k (ws.filter λz=>!(z==y)) ((eL*48271+11)%2147483647*3+1) (Mv n)).1,
     (Uh k (ws.filter λz=>!(z==y)) ((eL*48271+11)%2147483647*5+2) (Uh k (ws.filter λz=>!(z==y)) ((eL*48271+11)%2147483647*3+1) (Mv n)).2).1],
    (Uh k (ws.filter λz=>!(z==y)) ((eL*48271+11)%2147483647*5+2) (Uh k (ws.filter λz=>!(z==y)) ((eL*48271+11)%2147483647*3+1) (Mv n)).2).2)
def jah(ds l:List D)(d:D)(l':List D):Prop:=∃(ws:List af)(eL n:Int)(k:Nat),ds=[.lst (ws.map D.str),.int eL,.int k]/\l=[.int n]/\k<=5/\ws.length<=60/\d=(Uh k ws eL n).1/\l'=[.int (Uh k ws eL n).2]
section
variable{P:au}{w:aA}{K:k8y}{mg:k91}{base:aD}{x qual:af}{st:aP}{f:aa}{fd:aG}{N ps:List af}{k:Nat}
end
def Fz(o:Option HO):Prop:=(∃xs,o=a3 (.lst xs))\/∃oc v,o=a3 (.frz oc (.own 0))/\oc.data=.cell v
theorem j6f{P:au}{w:aA}{K:k8y}{mg:k91}{base:aD}{A0:aB}{outer:List cH}{s:ae}{H:Hp}{A:List aa}(e0:Env0 P w K mg base A0 outer s H)(hA:∀a∈A,Fz (H a)) :
  Env0 P w K mg base A0 outer s (del H A)/\∀(Q:VK)(E E':XK)(r:eB)(s':ae),CR CX0 outer P w (del H A) s (λv F=>(∀a∈A,F a=a5)->Q v (mrg A H F)) E r s'->CR CX0 outer P w H s Q E' r s':=by
 have nd:∀{b:aa},H b=a5->del H A b=a5:=λ{b} q=>by
  by_cases z:b∈A
  .exact qj z
  .rw[j6 z];exact q
 have out:∀{b:aa}{o:HO},H b=a3 o->(∀ys,o≠.lst ys)->(∀oc v,o=.frz oc (.own 0)->oc.data≠.cell v)->b∉A:=λ{b o} q z z2 y=>by
  rcases hA b y with ⟨ys,e'⟩|⟨oc,v,e',d⟩
  .rw[q]at e';cases e';exact z ys rfl
  .rw[q]at e';cases e';exact z2 _ _ rfl d
 have e1:Env0 P w K mg base A0 outer s (del H A):=⟨e0.frames,e0.mod,λb o q=>⟨(e0.bs b o q).1,nd (e0.bs b o q).2⟩,e0.bsz,e0.funs,λb hb=>nd (e0.frf b hb),
  λa o q=>by
   obtain⟨_,q⟩:=of_del q
   exact jh.stay (e0.hok a o q) (λb u _ z=>z) (λb z=>by rw[j6 (out z (λ_ y=>by cases y) λ_ _ y=>by cases y)];exact z) (λb xs z=>by rw[j6 (out z (λ_ y=>by cases y) λ_ _ y=>by cases y)];exact z)
    (λb o ⟨vs,d⟩ z=>by rw[j6 (out z (λ_ y=>by cases y) λ_ _ y d'=>by cases y;rw[d]at d';cases d')];exact z),e0.bare⟩
 refine⟨e1,λQ E E' r s' hq=>?_⟩;cases r with
 |error e=>exact(show False from hq).elim
 |ok fl =>
  cases fl with
  |next=>exact(show False from hq).elim
  |brk=>exact(show False from hq).elim
  |cont=>exact(show False from hq).elim
  |ret u =>
   obtain⟨v,H',os,bare,un,hok',rel,q⟩:=(show CE outer P w (del H A) s _ u s' from hq)
   have kept:∀a∈A,∃o,s.heap.get? a=a3 o/\s'.heap.get? a=a3 o/\H' a=a5:=λa ha=>by
    have nf:a∉frs outer:=λy=>by have z:=e0.frf a y;rcases hA a ha with ⟨xs,e⟩|⟨oc,v,e,_⟩<;>(rw[z]at e;cases e)
    have ob:∃o,s.heap.get? a=a3 o:=by
     rcases hA a ha with ⟨xs,e⟩|⟨oc,v,e,_⟩
     .obtain⟨_,its,n,_,z⟩:=(show jh P w H s.heap a (.lst xs)from e0.hok _ _ e);exact⟨_,z⟩
     .exact⟨_,(show jh P w H s.heap a (.frz oc (.own 0))from e0.hok _ _ e).1⟩
    obtain⟨o,z⟩:=ob;exact⟨_,z,un.keep a _ z (qj ha) nf (by simp),un.free a _ z (qj ha) (by simp)⟩
   have hF:∀a∈A,H' a=a5:=λa ha=>let ⟨_,_,_,z⟩:=kept a ha;z;have outF:∀{b:aa}{o:HO},H' b=a3 o->b∉A:=λ{b o} e z=>by rw[hF b z]at e;cases e
   refine⟨v,mrg A H H',os,bare,?_,λa o e=>?_,rel,q hF⟩
   .exact{
     keep:=λb o e n=>un.keep b o e (nd n)
     slot:=λb o e n=>un.slot b o e (nd n)
     free:=λb o e n hx=>by
      by_cases z:b∈A
      .rw[Jg z];exact n
      .rw[jg z];exact un.free b o e (nd n) hx
     there:=un.there
     tups:=λb xs e=>by
      have z:=un.tups b xs (by rw[j6 (out e (λ_ y=>by cases y) λ_ _ y=>by cases y)];exact e)
      rw[jg (outF z)];exact z
     frzs:=λb o u e=>by
      by_cases y:b∈A
      .rw[Jg y];exact e
      .have z:=un.frzs b o u (by rw[j6 y];exact e)
       rw[jg y];exact z
     tbls:=λb ps e=>by
      obtain⟨more,z⟩:=un.tbls b ps (by rw[j6 (out e (λ_ y=>by cases y) λ_ _ y=>by cases y)];exact e)
      exact⟨more,by rw[jg (outF z)];exact z⟩ }
   .by_cases z:a∈A
    .rw[Jg z]at e;obtain⟨o',q1,q2,_⟩:=kept a z;rcases hA a z with ⟨xs,e'⟩|⟨oc,v,e',_⟩
     .rw[e']at e;cases e;obtain⟨hl,its,n,r,y⟩:=(show jh P w H s.heap a (.lst xs)from e0.hok _ _ e')
      rw[y]at q1;cases q1;exact⟨hl,its,n,r,q2⟩
     .rw[e']at e;cases e;have y:=(show jh P w H s.heap a (.frz oc (.own 0))from e0.hok _ _ e').1;rw[y]at q1;cases q1;exact⟨q2,_,q2⟩
    .rw[jg z]at e;refine jh.stay (hok' a o e) (λb u _ q=>q) (λb q=>?_) (λb xs q=>?_) (λb _ _ q=>?_)
     .rw[jg (outF q)];exact q
     .rw[jg (outF q)];exact q
     .rw[jg (outF q)];exact q
structure LamScope(N ps:List af)(sc:b9):Prop where
 kind:sc.kind=.function
 co:sc.isCoroutine=a4
 gen:sc.isGenerator=a4
 nd:N.Nodup
 nm:N=v7 sc++ps
 lfr:∀x∈v7 sc,sc.names.lookup x=a3 .free
 lps:∀x∈ps,sc.names.lookup x=a3 .local
 nocell:∀y∈sc.names,y.2≠.cell
 cov:∀x,sc.names.lookup x=a3 .free->x∈v7 sc
noncomputable def Uo(P:au)(w:aA)(K:k8y)(mg:k91)(base:aD)(N:List af)(qual:af)(scope:b9)(a:aa)(cd:a8)(cl:List (af×aa))(A:aB)(outer:List cH)(s:ae)(H:Hp):Cx where
 prog:=P
 w:=w
 K:=K
 mg:=mg
 base:=base
 A:=A.deeper (W.envX qual scope s.heap.objs.size a cd cl)
 N:=N
 s₀:=s
 H₀:=H
 env:=W.envX qual scope s.heap.objs.size a cd cl
 outer:=outer
 stack:=W.envX qual scope s.heap.objs.size a cd cl::outer
 ex:=[]
 calm:=a7
 fn:=λ_=>a4
 pn:=[]
 xe:=λ_ _=>False
def Q9(h:aD):List aa->List V->Prop
 |[],vs=>vs=[]
 |c::cs,vs=>∃v r u,vs=v::r/\h.IsCell c (a3 u)/\RelV v u/\Q9 h cs r
theorem Q9.get{h:aD}:∀{cs:List aa}{vs:List V}{i:Nat}{v:V},Q9 h cs vs->vs[i]?=a3 v->∃c u,cs[i]?=a3 c/\h.IsCell c (a3 u)/\RelV v u
 |[],_,i,v,e,q=>by cases e;simp at q
 |c::cs,_,0,v,⟨x,r,u,e,h1,h2,_⟩,q=>by subst e;simp at q;subst q;exact⟨c,u,rfl,h1,h2⟩
 |c::cs,_,i+1,v,⟨x,r,u,e,_,_,l⟩,q=>by subst e;obtain⟨c',u',z1,z2⟩:=Q9.get l (i:=i) (by simpa using q);exact⟨c',u',by simpa using z1,z2⟩
theorem Q9.length{h:aD}:∀{cs:List aa}{vs:List V},Q9 h cs vs->vs.length=cs.length
 |[],_,e=>by cases e;rfl
 |c::cs,_,⟨x,r,u,e,_,_,l⟩=>by subst e;simp[l.length]
theorem Q9.all{h:aD}:∀{cs:List aa}{vs:List V},Q9 h cs vs->∀c∈cs,∃v,h.IsCell c v
 |c::cs,_,⟨x,r,u,e,h1,_,l⟩,b,hb=>(xm.mp hb).elim (λz=>z▸⟨_,h1⟩) (l.all b)
theorem lookup_at{α:Type}:∀{l:List (af×α)} {i:Nat} {p:af×α},(l.map (·.1)).Nodup->l[i]?=a3 p->l.lookup p.1=a3 p.2
 |[],i,p,_,h=>by simp at h
 |q::l,0,p,_,h=>by simp at h;subst h;rw[Xj,beq_self_eq_true]
 |q::l,i+1,p,nd,h=>by rw[xu]at nd;rw[cA]at h;have ne:(p.1==q.1)=a4:=beq_eq_false_iff_ne.mpr λz=>(Xk.mp nd).1 (z▸f9 (Xm h));rw[Xj,ne];exact lookup_at (Xk.mp nd).2 h
theorem j3t{ps:List af}{us:List a8}{i:Nat}{p:af}{u:a8}(nd:ps.Nodup)(hl:us.length=ps.length)(h1:ps[i]?=a3 p)(h2:us[i]?=a3 u):(ps.zip us).reverse.lookup p=a3 u:=by
 have hm:(p,u)∈(ps.zip us).reverse:=List.mem_reverse.mpr (Xm (i:=i) (by rw[List.getElem?_zip_eq_some];exact⟨h1,h2⟩));have e:((ps.zip us).reverse.map (·.1))=ps.reverse:=by rw[List.map_reverse,List.map_fst_zip nofun]
 obtain⟨j,hj⟩:=List.mem_iff_getElem?.mp hm;exact lookup_at (by rw[e];exact(List.reverse_perm ps).nodup_iff.mpr nd) hj
section
variable{P:au}{w:aA}{K:k8y}{mg:k91}{base:aD}{A:aB}{outer:List cH}{s:ae}{H:Hp}{x:af}{a c:aa}{tx:Tx}{cl:List (af×aa)}{pm ctv:a8}{cvs vs:List V}{us:List a8}{N ps:List af}{k:Nat}{Q:VK}{E:XK}
theorem jcy{h1:aD}{tk:Nat}(hh:A.handled=a5)(e0:Env0 P w K mg base A outer s H)(S:LamScope N ps tx.2.2)(hn:cl.map (·.1)=v7 tx.2.2)(nd:(cl.map (·.2)).Nodup)(hc:Q9 s.heap (cl.map (·.2)) cvs)(hf:∀q∈cl.map (·.2),H q=a5)(rv:Vals vs us)(hl:vs.length=ps.length)
  (ns:h1.Ns s.heap.objs.size λy=>(ps.zip us).reverse.lookup y) (kp:∀b o,s.heap.get? b=a3 o->h1.get? b=a3 o) :
  Inv (Uo P w K mg base N (ju x) tx.2.2 a (.ref c) cl A outer s H) [] (start N (cvs++vs)) H { s with heap:=h1,toks:=tk }:=by
 have ndN:(v7 tx.2.2).Nodup:=by have:=S.nd;rw[S.nm]at this;exact(List.nodup_append.mp this).1
 have ndP:ps.Nodup:=by have:=S.nd;rw[S.nm]at this;exact(List.nodup_append.mp this).2.1
 have ndC:(cl.map (·.1)).Nodup:=by rw[hn];exact ndN
 have lenC:cvs.length=(v7 tx.2.2).length:=by rw[hc.length,<-hn,xj,xj]
 have lenN:N.length=(cvs++vs).length:=by rw[S.nm,X6,X6,lenC,hl]
 have noA:∀b:aa,b∉(Uo P w K mg base N (ju x) tx.2.2 a (.ref c) cl A outer s H).ex:=λb z=>absurd (show b∈([]:List aa)from z) (by simp);have mem2:∀{y:af}{q:aa},cl.lookup y=a3 q->q∈cl.map (·.2):=λ{y q} h=>Xe.mpr ⟨(y,q),Pb h,rfl⟩;have inj:∀(l:List (af×aa)),(l.map (·.2)).Nodup->∀y z q,(y,q)∈l->(z,q)∈l->y=z:=λl=>by
  induction l with
  |nil=>intro _ y z q h;cases h
  |cons p r ih =>
   intro nd y z q h1 h2;rw[xu]at nd;obtain⟨n1,n2⟩:=Xk.mp nd;rcases xm.mp h1 with e1|h1<;>rcases xm.mp h2 with e2|h2
   .rw[<-e1]at e2;cases e2;rfl
   .exact absurd (Xe.mpr ⟨(z,q),h2,by rw[<-e1]⟩) n1
   .exact absurd (Xe.mpr ⟨(y,q),h1,by rw[<-e2]⟩) n1
   .exact ih n2 y z q h1 h2
 refine⟨⟨e0.mod,S.kind,rfl,rfl,X3 _,λy z q h1 h2=>inj cl nd y z q (Pb h1) (Pb h2),λy hy=>?_,λy q h=>(by cases h),λ_=>hh,Around.frames_deeper e0.frames,.inr ⟨rfl,rfl⟩,λb z=>absurd z (noA b),e0.bs,e0.bsz,λb _ _=>noA b,λb z=>absurd z (noA b),e0.funs,e0.frf⟩,
  rfl,e0.bare,Un.kept kp,⟨_,ns,λi y v h1 h2 h3=>?_⟩,λy q h=>?_,e0.hok.fresh (X3 _),λy q h=>hf q (mem2 h),λp hp=>absurd (show p∈([]:k90)from hp) (by simp),e0.hok.kept kp,?_⟩
 .have hy:tx.2.2.names.lookup y=a3 .cell\/tx.2.2.names.lookup y=a3 .free:=hy;rcases hy with hy|hy
  .exact absurd rfl (S.nocell _ (Pb hy))
  .have m:=S.cov y hy;rw[<-hn]at m;obtain⟨p,hp,e⟩:=Xe.mp m;obtain⟨i,hi⟩:=List.mem_iff_getElem?.mp hp;exact⟨p.2,by have:=lookup_at ndC hi;rw[e]at this;exact this⟩
 .have h1:N[i]?=a3 y:=h1;have hi:i<(cvs++vs).length:=by rw[<-lenN];exact(Xa.mp h1).1
  have ha:(cvs++vs)[i]?=a3 v:=by
   unfold start at h2;rw[Pa (by simpa using hi),X7]at h2;cases e:(cvs++vs)[i]? with
   |none=>rw[e]at h2;cases h2
   |some a=>rw[e]at h2;cases h2;rfl
  rw[S.nm]at h1;by_cases z:i<cvs.length
  .rw[Pa z]at ha;rw[Pa nofun]at h1;obtain⟨q,u,e1,e2,r⟩:=hc.get ha;refine⟨u,r,.inr ⟨.inr (S.lfr y (Xm h1)),q,?_,e2.keeps kp⟩⟩;rw[<-hn,X7]at h1;rw[X7]at e1;obtain⟨p,hp,ep⟩:=Xu.mp h1;rw[hp]at e1;have:=lookup_at ndC hp;rw[ep]at this;show cl.lookup y=a3 q;rw[this];exact e1
  .rw[bR nofun]at ha h1;rw[<-lenC]at h1;obtain⟨u,hu,r⟩:=rv.get ha;exact⟨u,r,.inl ⟨S.lps y (Xm h1),j3t ndP (by rw[<-rv.length,hl]) h1 hu⟩⟩
 .obtain⟨v,z⟩:=hc.all q (mem2 h);exact⟨v,z.keeps kp⟩
 .unfold start;show _=N.length;rw[X6,xj,Py];omega
theorem j8u (hr:Room (k+1) A) (e0:Env0 P w K mg base A outer s H) (ho:s.heap.get? a=a3 (W.kla_obj "<lambda>" (ju x) tx.1 tx.2.1 tx.2.2 cl pm c ctv)) (hcd:s.heap.CodeRec (.ref c) (ju x))
  (S:LamScope N ps tx.2.2) (hn:cl.map (·.1)=v7 tx.2.2) (nd:(cl.map (·.2)).Nodup) (hc:Q9 s.heap (cl.map (·.2)) cvs) (hf:∀q∈cl.map (·.2),H q=a5)
  (hb:cD (W.kla_fn "<lambda>" (ju x) tx.1 tx.2.1 tx.2.2 cl pm (.ref c) ctv) ⟨us,[]⟩=pure (ps.zip us)) (rv:Vals vs us) (hl:vs.length=ps.length)
  (body:Room k (Uo P w K mg base N (ju x) tx.2.2 a (.ref c) cl A outer s H).A->Qd (Uo P w K mg base N (ju x) tx.2.2 a (.ref c) cl A outer s H) tx.2.1 (start N (cvs++vs)) H Q) :
  bK (aw P w) A (.call (.ref a) ⟨us,[]⟩) (CR CX0 outer P w H s Q E) s:=by
 have lim:s.heap.NoLimit:=e0.mod.nolimit.keeps λb o e=>(e0.bs b o e).1;refine W.kla_callFunE (by have:=hr.dp;omega) ho rfl S.co S.gen rfl hcd ?_;rw[hb];refine aj (wpAny_newFunctionEnv S.nocell (λy hy=>S.lps y.1 (cV (a:=y.1) (b:=y.2) hy).1) (λh1 ns sb=>⟨lim.fresh _ sb,?_⟩) S.kind);show bK _ _ (.expr tx.2.1 (W.envX (ju x) tx.2.2 s.heap.objs.size a (.ref c) cl)) _ _;have kp:∀b o,s.heap.get? b=a3 o->h1.get? b=a3 o:=λb o e=>sb.extBut b o (X8 (xq e)) (xn _ e);have I:=jcy (x:=x) (a:=a) (c:=c) (tk:=s.toks+(ps.zip us).length) hr.hd e0 S hn nd hc hf rv hl ns kp;refine W.kla_codeExpr (aI (body (hr.deeper _) [] _ I) (λu s' ⟨v,H',J,r,q⟩=>?_) λ_ _ z=>z.elim);exact⟨v,H',J.os,J.bare,J.base,J.hok,r,q⟩
end
mutual
noncomputable def noFn:D->Bool
 |.fn _ _=>a4
 |.tup ds=>Jm ds
 |.lst ds=>Jm ds
 |.dct _ ds=>Jm ds
 |_=>a7
noncomputable def Jm:List D->Bool
 |[]=>a7
 |d::ds=>noFn d&&Jm ds
end
section
variable{K:k8y}{H:Hp}{A:List aa}
def Cel(H:Hp)(A:List aa):Prop:=∀a∈A,∃oc v,H a=a3 (.frz oc (.own 0))/\oc.data=.cell v
theorem Cel.out(hA:Cel H A){b:aa}{o:HO}(q:H b=a3 o)(h:∀oc,o≠.frz oc (.own 0)):del H A b=a3 o:=by rw[j6];exact q;intro y;obtain⟨oc,v,e,_⟩:=hA b y;rw[q]at e;exact h oc (ax e)
theorem Cel.seqT(hA:Cel H A){a:aa}{xs:List V}(h:SqT K H a xs):SqT K (del H A) a xs:=by
 rcases h with (h|⟨o,h⟩)|h
 .exact .inl (.inl (hA.out h λ_ z=>by cases z))
 .exact .inl (.inr ⟨o,hA.out h λ_ z=>by cases z⟩)
 .exact .inr h
theorem Cel.seq(hA:Cel H A){a:aa}{xs:List V}(h:SqL K H a xs):SqL K (del H A) a xs:=by
 rcases h with (h|⟨o,h⟩)|h
 .exact .inl (.inl (hA.out h λ_ z=>by cases z))
 .exact .inl (.inr ⟨o,hA.out h λ_ z=>by cases z⟩)
 .exact .inr h
mutual
theorem Enc.noc(hA:Cel H A):∀{d:D}{v:V},noFn d=a7->Enc K H d v->Enc K (del H A) d v
 |.non,_,_,h=>h
 |.bl _,_,_,h=>h
 |.int _,_,_,h=>h
 |.str _,_,_,h=>h
 |.tup _,_,n,⟨a,xs,e,q,l⟩=>⟨a,xs,e,hA.seqT q,j5.noc hA (by simpa [noFn]using n) l⟩
 |.lst _,_,n,⟨a,xs,e,q,l⟩=>⟨a,xs,e,hA.seq q,j5.noc hA (by simpa [noFn]using n) l⟩
 |.dct _ _,_,n,⟨a,xs,ep,vs,e,q,ek,kt,rv,l⟩=>⟨a,xs,ep,vs,e,hA.out q (λ_ z=>by cases z),ek,λx hx=>hA.seqT (kt x hx),rv,j5.noc hA (by simpa [noFn]using n) l⟩
 |.sct _,_,_,⟨a,e,q⟩=>⟨a,e,hA.out q λ_ z=>by cases z⟩
 |.fn _ _,_,n,_=>by cases n
theorem j5.noc(hA:Cel H A):∀{ds:List D}{xs:List V},Jm ds=a7->j5 K H ds xs->j5 K (del H A) ds xs
 |[],_,_,h=>h
 |d::ds,_,n,⟨x,r,e,h,l⟩=>by rw[Jm,Xg]at n;exact⟨x,r,e,Enc.noc hA n.1 h,j5.noc hA n.2 l⟩
end
theorem vz.cel:∀{cs:List aa}{vs:List V},vz H cs vs->Cel H cs
 |[],_,_=>λ_ h=>nomatch h
 |c::cs,_,⟨v,r,o,u,e,h,d,rv,l⟩=>λa ha=>(xm.mp ha).elim (λz=>⟨o,_,z▸h,d⟩) (l.cel a)
theorem vz.inn{P:au}{w:aA}{h:aD}(ok:HOk P w H h):∀{cs:List aa}{vs:List V},vz H cs vs->Q9 h cs vs
 |[],_,e=>e
 |c::cs,_,⟨v,r,o,u,e,q,d,rv,l⟩=>⟨v,r,u,e,⟨o,(show jh P w H h c (.frz o (.own 0))from ok _ _ q).1,d⟩,rv,l.inn ok⟩
theorem vz.of_del{B:List aa}:∀{cs:List aa}{vs:List V},vz (del H B) cs vs->vz H cs vs:=λh=>h.mono jo
theorem TabOk.fz(h:TabOk K H)(hA:∀a∈A,Fz (H a)):TabOk K (L2.del H A):=λx hx c P z=>by have q:=h x hx c P z;rw[j6];exact q;intro y;rcases hA _ y with ⟨xs,e⟩|⟨oc,v,e,_⟩<;>(rw[q]at e;cases e)
end
def Ib(P:au)(w:aA)(K:k8y)(mg:k91)(base:aD)(k:Nat)(x:af)(S:List D->D->Prop):Prop :=
 ∀(A:aB)(outer:List cH)(s:ae)(H:Hp)(a:aa)(B:List aa)(cs ds:List D) (d:D) (vs:List V) (us:List a8) (Q:VK) (E:XK),Room k A->Env0 P w K mg base A outer s H->TabOk K H->(∀b∈B,∃xs,H b=a3 (.lst xs)) ->
  Enc K (del H B) (.fn x cs) (.ref a)->j5 K (del H B) ds vs->Jm ds=a7->S (cs++ds) d->Vals vs us->(∀v H',j4 H H'->Enc K (del H' B) d v->Q v H')->bK (aw P w) A (.call (.ref a) ⟨us,[]⟩) (CR CX0 outer P w H s Q E) s
section
variable{P:au}{w:aA}{K:k8y}{mg:k91}{base:aD}{k:Nat}{x:af}{S:List D->D->Prop}{tx:Tx}{N ps:List af}
theorem jg9(ht:Z7 K x=a3 tx)(Sc:LamScope N ps tx.2.2)(hl:∀ds d,S ds d->ds.length=N.length)
  (hb:∀(cl:List (af×aa)) (pm:a8) (c:aa) (ctv:a8) (us:List a8),us.length=ps.length->cD (W.kla_fn "<lambda>" (ju x) tx.1 tx.2.1 tx.2.2 cl pm (.ref c) ctv) ⟨us,[]⟩=pure (ps.zip us))
  (hbody:∀(a c:aa)(cl:List (af×aa)) (A:aB) (outer:List cH) (s:ae) (H:Hp),cl.map (·.1)=v7 tx.2.2->Room k (Uo P w K mg base N (ju x) tx.2.2 a (.ref c) cl A outer s H).A->∀ds d,S ds d->DT (Uo P w K mg base N (ju x) tx.2.2 a (.ref c) cl A outer s H) (jx N ds) tx.2.1 d):Ib P w K mg base (k+1) x S:=by
 intro A outer s H a B cs ds d vs us Q E hr e0 tb hB en ea nf hS rv q;obtain⟨a',c,tx',cl,cvs,e,L,l⟩:=en;cases e;have et:tx'=tx:=ax (L.tx.symm.trans ht);subst et;have cs_at:vz H (cl.map (·.2)) cvs:=L.cs.of_del;have hA:∀b∈B++cl.map (·.2),Fz (H b):=λb hb=>(Pq.mp hb).elim (λz=>.inl (hB b z)) λz=>.inr (cs_at.cel b z);obtain⟨e1,back⟩:=j6f e0 hA;obtain⟨pm,ctv,hfo⟩:=L.fo;obtain⟨oc,hco,vs0,t0,hd0,hv0⟩:=L.co;have ho:=(show jh P w H s.heap a (.frz _ (.own 0))from e0.hok _ _ (of_del hfo).2).1;have hcd:s.heap.CodeRec (.ref c) (ju x):=⟨c,oc,vs0,t0,rfl,(show jh P w H s.heap c (.frz oc (.own 0))from e0.hok _ _ (of_del hco).2).1,hd0,hv0⟩
 have ll:=l.length;have la:=ea.length;have hlen:=hl _ _ hS;have lenC:(cl.map (·.2)).length=(v7 tx'.2.2).length:=by rw[<-L.nm,xj,xj]
 have lcv:=(cs_at.inn e0.hok).length;have hlv:vs.length=ps.length:=by rw[Sc.nm,X6,X6]at hlen;omega
 have celB:Cel (del H B) (cl.map (·.2)):=L.cs.cel;have ea1:j5 K (del H (B++cl.map (·.2))) ds vs:=by rw[<-Qv];exact ea.noc celB nf
 have l1:j5 K (del H (B++cl.map (·.2))) cs cvs:=by rw[<-Qv];exact l
 refine bA (j8u (E:=E) (Q:=λv F=>(∀a∈B++cl.map (·.2),F a=a5)->Q v (mrg (B++cl.map (·.2)) H F)) hr e1 ho hcd Sc L.nm L.nd (cs_at.inn e0.hok) (λb hb=>qj (Xd _ hb)) (hb cl pm c ctv us (by rw[<-rv.length];exact hlv)) rv hlv λhrm=>?_) λr s' h=>back Q E E r s' h;refine hbody a c cl A outer s _ L.nm hrm (cs++ds) d hS _ _ _ (Y5 (tb.fz hA) (l1.append ea1)) λv F g en' hF=>q v _ (Ba g) (en'.mono λb o z=>?_);have nb:b∉B++cl.map (·.2):=λy=>by rw[hF b y]at z;cases z
 rw[j6 (λy=>nb (Xr _ y)),jg nb];exact z
end
section
variable{X:Cx}{ρ:Rho}{e:ai}{es:List ai}{d:D}{cs ds:List D}{pos p:aJ}{x y:af}{i k:Nat}
theorem DE.callV {S:List D->D->Prop} (c:Ib X.prog X.w X.K X.mg X.base k x S) (hr:Room k X.A) (hi:ρ[i]?=a3 (.val (.fn x cs))) (ha:DA X ρ (e::es) ds) (nf:Jm ds=a7) (hS:S (cs++ds) d) (hN:X.N[i]?=a3 y) (hv:Vis X.env.scope y) (hd:(y==k92)=a4) (hcd:(y==k93)=a4)
  (he:a9 (e::es) X.env=(a4,ay e X.env)::a9 es X.env) (hpl:(aO pos (a9 es X.env)).any (·.1)=a4):DE X ρ (.Call (.Name y p) (e::es) [] pos) d:=λσ H Q R q pins s I=>by
 obtain⟨v,hσ,en⟩:=R.val i _ hi;obtain⟨a,c0,tx,cl,cvs,ev,L,l⟩:=id en;subst ev;refine aT (thn (Jk hN hv hd hcd pins s σ H (λv' H'=>v'=.ref a/\H'=H) I ⟨_,hσ,rfl,rfl⟩) λu s1 ⟨v',H',I1,r1,e1,e2⟩=>?_);subst e1 e2;cases(show u=aC a from r1);obtain⟨pm,ctv,hfo⟩:=L.fo;have fnAt:∀{H2:Hp}{s2:ae},Inv X pins σ H2 s2->j4 H' H2->PySem.W.FnAt a s2.heap:=λ{H2 s2} I2 g=>⟨_,_,_,_,(show jh X.prog X.w H2 s2.heap a (.frz _ (.own 0))from I2.hok _ _ (g _ _ (of_del hfo).2)).1⟩
 refine W.callWith_F (fnAt I1 (j4.refl _)) (thn (ha σ H' (λvs H2=>j4 H' H2/\j5 X.K (del H2 (owns ρ)) ds vs) R (λvs H2 g z=>⟨g,z⟩) pos pins s1 I1) λus s2 ⟨vs,H2,I2,rv,g,ea⟩=>⟨fnAt I2 g,?_⟩) he hpl;refine gk (bA (c X.A X.stack s2 H2 a (owns ρ) cs ds d vs us Q E0 hr I2.env0 (R.tb.mono g) (R.grow g).owned (en.mono (jf g)) ea nf hS rv λv H3 g3 z=>q v H3 (g.trans g3) z) λr s' hq=>?_);cases r with
 |error e=>exact(show False from hq).elim
 |ok fl =>
  cases fl with
  |ret u=>exact I2.after hq
  |next=>exact(show False from hq).elim
  |brk=>exact(show False from hq).elim
  |cont=>exact(show False from hq).elim
end
theorem Fp{pos:aJ}{c cv:a8}{a b:Int}:∀(l:List a8),TriplesOk l->fP pos (l++[cw a,cw b,c])=a3 cv->fP pos l=a3 cv\/cv=c
 |[],_,h=>by
  simp only[cW,cw,fP]at h;split at h
  .exact .inr (ax h).symm
  .cases h
 |.int i t::.int j u::x::r,ht,h=>by
  simp only[cO,fP]at h ⊢;split at h
  .rename_i z;rw[if_pos z];exact .inl h
  .rename_i z;rw[if_neg z];exact Fp r ht h
section
variable{X:Cx}{pins:k90}{σ:St}{H:Hp}{s:ae}
theorem Inv.madeL{q:af}{P:aa}{h2:aD}{tk:Nat}{H2:Hp}(I:Inv X pins σ H s)(hP:H P=a3 (.cod q))(g:j4 H H2)(kp:∀b o,b≠P->s.heap.get? b=a3 o->h2.get? b=a3 o)
  (new:∀b o,H2 b=a3 o->H b=a3 o\/(s.heap.objs.size<=b/\jh X.prog X.w H2 h2 b o)) (okP:jh X.prog X.w H2 h2 P (.cod q)):Inv X pins σ H2 { s with heap:=h2,toks:=tk }:=by
 have nP:∀{b:aa},H b=a5->b≠P:=λ{b} n z=>by rw[z,hP]at n;cases n
 have nO:∀{b:aa}{u:HO},H b=a3 u->(∀q,u≠.cod q)->b≠P:=λ{b u} e n z=>by rw[z,hP]at e;cases e;exact n _ rfl
 refine I.un (H':=H2) (h':=h2) (t':=tk) ⟨λb o e n _ _=>kp b o (nP n) e,λb o e n _ _=>⟨o.slots,kp b o (nP n) e⟩,λb o e n _=>?_,λb o e _=>?_,λb xs e=>g _ _ e,λb o u e=>g _ _ e,λb ps e=>⟨#[],by rw[g _ _ e];simp⟩⟩ λb o e=>?_
 .cases z:H2 b with
  |none=>rfl
  |some u =>
   rcases new b u z with y|⟨y,_⟩
   .rw[n]at y;cases y
   .exact absurd (Xb (xq e) y) (Xx _)
 .by_cases z:b=P
  .obtain⟨ps,y,_⟩:=okP;exact⟨_,by rw[z];exact y⟩
  .exact⟨o,kp b o z e⟩
 .rcases new b o e with y|⟨_,y⟩
  .by_cases z:b=P
   .subst z;rw[hP]at y;cases y;exact okP
   .exact(I.hok b o y).stay (λc u hc r=>kp c u (hc.elim (λe=>e▸z) λe=>nO e λ_ z=>by cases z) r) (λ_ r=>g _ _ r) (λ_ _ r=>g _ _ r) λ_ _ _ r=>g _ _ r
  .exact y
structure LMk(X:Cx)(x:af):Prop where
 mem:x∈Zt
 qual:X.env.qual=x ++ ".<locals>."
 code:∃c P,X.env.code=.ref c/\W.codeHdIn X.K c P=a7/\W.tabIn X.K x=a3 (c,P)
def jla(X:Cx)(x:af)(params:dG)(body:ai)(scope:b9)(cl:List (af×aa)):TE:=λ_ H Q=>TabOk X.K H/\∀(f c:aa)(oc:cE)(pm ctv:a8)(H2:Hp),j4 H H2->H f=a5->H2 f=a3 (.frz (W.kla_obj "<lambda>" (ju x) params body scope cl pm c ctv) (.own 0)) ->
 H2 c=a3 (.frz oc (.own 0))->O8 oc (ju x)->Q (.ref f) H2
theorem j5u{x:af}{params:dG}{body:ai}{scope:b9}{cl:List (af×aa)}{pos:aJ}(M:LMk X x)(hdef:gq params X.env=([],[]))(hcl:d4 scope X.env=pure cl):PE X (.Lambda params body scope pos) (jla X x params body scope cl):=by
 rintro pins s σ H Q I ⟨tb,h⟩;obtain⟨c,P,hc,hd,ht⟩:=M.code;have hP:=tb x M.mem c P ht;have C:jK s.heap c P:=W.codeHd_of_K I.kIn hd;obtain⟨ps,hps,htr,hcod⟩:=(show jh X.prog X.w H s.heap P (.cod (ju x))from I.hok _ _ hP)
 have hns:=I.mod.glob.keeps I.bk;have hgP:ak≠P:=λz=>by obtain⟨o,es,ep,e,d,_⟩:=hns;rw[z,hps]at e;cases e;cases d
 have hbP:s.heap.BuiltinsAt X.mg P:=by
  obtain⟨bm,ob,b1,b2,b3,b4,b5,b6⟩:=I.mod.bm;have b3':=I.bk _ _ b3;refine⟨bm,ob,b1,b2,λz=>?_,λz=>?_,b3',b4,b5,b6⟩
  .obtain⟨o,es,ep,e,d,_⟩:=hns;rw[z,e]at b3';cases b3';rw[d]at b6;cases b6
  .rw[z,hps]at b3';cases b3';cases b4
 have hq:X.env.qual ++ "<lambda>" = ju x:=by rw[M.qual];rfl
 refine W.kla_eval hdef ?_;rw[hq];cases e:fP pos ps.toList with
 |none =>
  refine W.kla_makeFunction hcl I.ok.glob hns hc C hps htr e hgP hbP λc' ctv h' tk hx hge hlt hrec htb=>?_;obtain⟨c2,oc,vs,t,ec,hoc,hdt,hv⟩:=hrec;cases ec;have hsz:s.heap.objs.size<=h'.objs.size:=di (cy hge hlt);have n1:H c'=a5:=I.hok.fresh hge;have n2:H h'.objs.size=a5:=I.hok.fresh hsz;have ne:c'≠h'.objs.size:=X8 hlt;have hne:∀{b:aa}{u:HO},H b=a3 u->b≠c'/\b≠h'.objs.size:=λz=>⟨vd z n1,vd z n2⟩
  have g:∀fo:HO,j4 H (upd (upd H c' (.frz oc (.own 0))) h'.objs.size fo):=λfo b u z=>by rw[jb (hne z).2,jb (hne z).1];exact z
  have h2c:∀fo:HO,upd (upd H c' (.frz oc (.own 0))) h'.objs.size fo c'=a3 (.frz oc (.own 0)):=λfo=>by rw[jb ne,j9]
  refine⟨.ref h'.objs.size,_,I.madeL (P:=P) (q:=ju x) (H2:=upd (upd H c' (.frz oc (.own 0))) h'.objs.size (.frz (W.kla_obj "<lambda>" (ju x) params body scope cl ((X.mg "__name__").getD .none) c' ctv) (.own 0))) hP (g _)
   (λb o nb z=>xn _ (hx b o nb z)) (λb o z=>?_) ?_,rfl,h _ c' oc _ ctv _ (g _) n2 j9 (h2c _) ⟨vs,t,hdt,hv⟩⟩
  .by_cases z1:b=h'.objs.size
   .subst z1;rw[j9]at z;cases z;exact .inr ⟨hsz,X4 _ rfl,_,X4 _ rfl⟩
   .rw[jb z1]at z;by_cases z2:b=c'
    .subst z2;rw[j9]at z;cases z;exact .inr ⟨hge,xn _ hoc,_,xn _ hoc⟩
    .rw[jb z2]at z;exact .inl z
  .refine⟨_,xn _ htb,by rw[T6];exact TriplesOk_snoc _ _ _ _ htr,λpos' cv z=>?_⟩;rw[T6]at z;rcases Fp ps.toList htr z with z|z
   .obtain⟨c3,oc3,e1,e2,e3⟩:=hcod pos' cv z;exact⟨c3,oc3,e1,g _ _ _ e2,e3⟩
   .exact⟨c',oc,z,h2c _,vs,t,hdt,hv⟩
 |some cv =>
  obtain⟨c',oc,ec,h1,h2⟩:=hcod pos cv e;subst ec;refine W.kla_makeFunctionHit hcl I.ok.glob hns hc C hps htr e hbP λctv h' tk hk hsz=>?_;have n2:H h'.objs.size=a5:=I.hok.fresh hsz;have g:∀fo:HO,j4 H (upd H h'.objs.size fo):=λfo=>j7 n2;refine⟨.ref h'.objs.size,_,I.madeL (P:=P) (q:=ju x) (H2:=upd H h'.objs.size (.frz (W.kla_obj "<lambda>" (ju x) params body scope cl ((X.mg "__name__").getD .none) c' ctv) (.own 0))) hP (g _)
   (λb o _ z=>xn _ (hk b o z)) (λb o z=>?_) ?_,rfl,h _ c' oc _ ctv _ (g _) n2 j9 (g _ _ _ h1) h2⟩
  .by_cases z1:b=h'.objs.size
   .subst z1;rw[j9]at z;cases z;exact .inr ⟨hsz,X4 _ rfl,_,X4 _ rfl⟩
   .rw[jb z1]at z;exact .inl z
  .refine⟨ps,xn _ (hk _ _ hps),htr,λpos' cv z=>?_⟩;obtain⟨c3,oc3,e1,e2,e3⟩:=hcod pos' cv z;exact⟨c3,oc3,e1,g _ _ _ e2,e3⟩
noncomputable def plus(H:Hp)(h:aD)(cs:List aa):Hp:=λb=>if b∈cs then(h.get? b).map λo=>.frz o (.own 0)else H b
theorem Mu{h:aD}{cs:List aa}{b:aa}{o:cE}(hb:b∈cs)(e:h.get? b=a3 o):plus H h cs b=a3 (.frz o (.own 0)):=by unfold plus;rw[if_pos hb,e];rfl
theorem Qf{h:aD}{cs:List aa}{b:aa}(hb:b∉cs):plus H h cs b=H b:=if_neg hb
def Own(X:Cx)(cs:List aa):Prop:=∀c∈cs,∃y,X.env.cells.lookup y=a3 c/\X.fn y=a7
theorem Own.obj{cs:List aa}(I:Inv X pins σ H s)(hc:Own X cs){c:aa}(h:c∈cs):∃o v,s.heap.get? c=a3 o/\o.data=.cell v/\H c=a5/\X.s₀.heap.objs.size<=c/\c≠X.env.locals:=by obtain⟨y,e,f⟩:=hc c h;obtain⟨v,o,e1,e2⟩:=I.cell y c e;exact⟨o,v,e1,e2,I.freeC y c e,I.ok.cab y c f e,I.cne y c e⟩
theorem Ug{cs:List aa}(I:Inv X pins σ H s)(hc:Own X cs):j4 H (plus H s.heap cs):=λb o e=>by rw[Qf];exact e;intro z;obtain⟨_,_,_,_,n,_⟩:=hc.obj I z;rw[n]at e;cases e
theorem Inv.plus{cs:List aa}(I:Inv X pins σ H s)(hc:Own X cs) :
  Env0 X.prog X.w X.K X.mg X.base X.A X.stack s (plus H s.heap cs)/\∀(Q:VK)(u:a8)(s':ae),CE X.stack X.prog X.w (L2.plus H s.heap cs) s (λv H'=>Cel H' cs->Q v (del H' cs)) u s'->EP X pins σ Q u s':=by
 have e0:=I.env0;have nb:∀{b:aa}{u:HO},H b=a3 u->b∉cs:=λ{b u} e z=>by obtain⟨_,_,_,_,n,_⟩:=hc.obj I z;rw[n]at e;cases e
 have nf:∀b∈frs X.stack,b∉cs:=λb hb z=>by
  obtain⟨o,v,e1,e2,n,hge,hl⟩:=hc.obj I z;rcases xm.mp (I.stkSub b hb)with y|y
  .exact hl y
  .obtain⟨_,o',ho,_⟩:=I.ok.funs.mem y;exact absurd (Xb (xq ho) hge) (Xx _)
 have g:=Ug I hc;refine⟨⟨e0.frames,e0.mod,λb o e=>⟨(e0.bs b o e).1,?_⟩,e0.bsz,e0.funs,λb hb=>by rw[Qf (nf b hb)];exact e0.frf b hb,λb o e=>?_,e0.bare⟩,λQ u s' hq=>?_⟩
 .rw[Qf];exact(e0.bs b o e).2;intro z;obtain⟨_,_,_,_,_,hge,_⟩:=hc.obj I z;exact absurd (Xb (xq e) (Xi I.ok.bsz hge)) (Xx _)
 .by_cases z:b∈cs
  .obtain⟨oc,v,e1,_⟩:=hc.obj I z;rw[Mu z e1]at e;cases e;exact⟨e1,_,e1⟩
  .rw[Qf z]at e;exact(I.hok b o e).stay (λ_ _ _ r=>r) (λ_ r=>g _ _ r) (λ_ _ r=>g _ _ r) λ_ _ _ r=>g _ _ r
 .obtain⟨v,H',os,bare,un,hok',rel,q⟩:=hq;have cel:∀c∈cs,∃o v,s.heap.get? c=a3 o/\o.data=.cell v/\H' c=a3 (.frz o (.own 0))/\s'.heap.get? c=a3 o:=λc hcs=>by obtain⟨o,v,e1,e2,_⟩:=hc.obj I hcs;have z:=un.frzs c o _ (Mu hcs e1);exact⟨o,v,e1,e2,z,(show jh X.prog X.w H' s'.heap c (.frz o (.own 0))from hok' _ _ z).1⟩
  have hC:Cel H' cs:=λc hcs=>let ⟨o,v,_,e2,e3,_⟩:=cel c hcs;⟨o,v,e3,e2⟩;have nb':∀{b:aa}{u:HO},H' b=a3 u->(∀oc v,u=.frz oc (.own 0)->oc.data≠.cell v)->del H' cs b=a3 u:=λ{b u} e n=>by rw[j6];exact e;intro z;obtain⟨o,v,_,e2,e3,_⟩:=cel b z;rw[e]at e3;cases e3;exact n _ _ rfl e2
  refine⟨v,del H' cs,I.call' (ch:=[]) os ⟨λb o e n hb hx=>?_,λb o e n hb hx=>?_,λb o e n hx=>?_,un.there,λb xs e=>?_,λb o u e=>?_,λb ps e=>?_⟩ (λb o e=>?_) bare (λb z=>absurd z (by simp)),rel,q hC⟩
  .by_cases z:b∈cs
   .obtain⟨o',v',e1,_,_,e4⟩:=cel b z;rw[e]at e1;cases e1;exact e4
   .exact un.keep b o e (by rw[Qf z];exact n) hb hx
  .exact un.slot b o e (by rw[Qf (nf b hb)];exact n) hb hx
  .by_cases z:b∈cs
   .exact qj z
   .rw[j6 z];exact un.free b o e (by rw[Qf z];exact n) hx
  .have z:=un.tups b xs (g _ _ e);exact nb' z λ_ _ y=>by cases y
  .have z:=un.frzs b o u (g _ _ e);rw[j6 (nb e)];exact z
  .obtain⟨m,z⟩:=un.tbls b ps (g _ _ e);exact⟨m,nb' z λ_ _ y=>by cases y⟩
  .obtain⟨n,e⟩:=of_del e;exact(hok' b o e).stay (λ_ _ _ r=>r) (λ_ r=>nb' r λ_ _ y=>by cases y) (λ_ _ r=>nb' r λ_ _ y=>by cases y) λ_ _ ⟨vs,d⟩ r=>nb' r λ_ _ y d'=>by cases y;rw[d]at d';cases d'
end
def Zx(X:Cx)(ρ:Rho):List (af×aa)->List D->Prop
 |[],ds=>ds=[]
 |p::cl,ds=>∃(d:D)(r:List D)(i:Nat),ds=d::r/\X.N[i]?=a3 p.1/\X.env.scope.names.lookup p.1=a3 .cell/\X.env.cells.lookup p.1=a3 p.2/\X.fn p.1=a7/\ρ[i]?=a3 (.val d)/\Zx X ρ cl r
section
variable{X:Cx}{pins:k90}{σ:St}{H H2:Hp}{s s2:ae}{ρ:Rho}
theorem Zx.own:∀{cl:List (af×aa)} {ds:List D},Zx X ρ cl ds->Own X (cl.map (·.2))
 |[],_,_=>λ_ h=>nomatch h
 |p::cl,_,⟨d,r,i,e,h1,h2,h3,h4,h5,l⟩=>λc hc=>(xm.mp hc).elim (λz=>⟨p.1,by rw[z];exact h3,h4⟩) (Zx.own l c)
theorem Zx.look:∀{cl:List (af×aa)} {ds:List D},Zx X ρ cl ds->∀p∈cl,X.env.cells.lookup p.1=a3 p.2
 |p::cl,_,⟨d,r,i,e,h1,h2,h3,h4,h5,l⟩,q,hq=>(xm.mp hq).elim (λz=>z▸h3) (Zx.look l q)
theorem Zx.cells(I2:Inv X pins σ H2 s2)(R:Rep X.K ρ σ H){cs:List aa}(hg:j4 (del H (owns ρ)) (del (plus H2 s2.heap cs) cs)):∀{cl:List (af×aa)} {ds:List D},Zx X ρ cl ds->(∀c∈cl.map (·.2),c∈cs) ->
  ∃vs,vz (plus H2 s2.heap cs) (cl.map (·.2)) vs/\j5 X.K (del (plus H2 s2.heap cs) cs) ds vs
 |[],_,h,_=>by cases h;exact⟨[],rfl,rfl⟩
 |p::cl,_,⟨d,r,i,e,h1,h2,h3,h4,h5,l⟩,hm=>by
  subst e;obtain⟨vs,q1,q2⟩:=Zx.cells I2 R hg l λc hc=>hm c (kj _ hc);obtain⟨v,hv,en⟩:=R.val i d h5;obtain⟨m,hn,hl⟩:=I2.loc;obtain⟨u,r,lk⟩:=hl i p.1 v h1 hv (.inr (.inl h2));rcases lk with ⟨k,_⟩|⟨_,c,e,o,ho,hd⟩
  .have k:X.env.scope.names.lookup p.1=a3 .local:=k;rw[h2]at k;cases k
  .rw[h3]at e;cases e;exact⟨v::vs,⟨v,vs,o,u,rfl,Mu (hm _ (xr ..)) ho,hd,r,q1⟩,v,vs,rfl,en.mono hg,q2⟩
theorem j1b{cl:List (af×aa)}{ds:List D}(ok:X.Ok)(h:Zx X ρ cl ds)(nd:(cl.map (·.1)).Nodup):(cl.map (·.2)).Nodup:=by
 have lk:=h.look;clear h;induction cl with
 |nil=>exact eP
 |cons p r ih =>rw[xu]at nd ⊢;obtain⟨n1,n2⟩:=Xk.mp nd;refine Xk.mpr ⟨λz=>?_,ih n2 λq hq=>lk q (kj _ hq)⟩;obtain⟨q,hq,e⟩:=Xe.mp z;have:=ok.inj p.1 q.1 p.2 (lk p (xr ..)) (by rw[<-e];exact lk q (kj _ hq));exact n1 (this▸f9 hq)
theorem j6l{x:af}{tx:Tx}{cl:List (af×aa)}{ds:List D}{f c:aa}{oc:cE}{pm ctv:a8}(ht:Z7 X.K x=a3 tx)(hn:cl.map (·.1)=v7 tx.2.2)(nd:(v7 tx.2.2).Nodup)(hc:Zx X ρ cl ds)(I2:Inv X pins σ H2 s2)(R:Rep X.K ρ σ H)(g:j4 H H2)
  (hf:H2 f=a3 (.frz (W.kla_obj "<lambda>" (ju x) tx.1 tx.2.1 tx.2.2 cl pm c ctv) (.own 0))) (ho:H2 c=a3 (.frz oc (.own 0))) (hq:O8 oc (ju x)):Enc X.K (plus H2 s2.heap (cl.map (·.2))) (.fn x ds) (.ref f):=by
 have pg:=Ug I2 hc.own;have hg:j4 (del H (owns ρ)) (del (plus H2 s2.heap (cl.map (·.2))) (cl.map (·.2))):=λb o e=>by
  have e2:=g _ _ (of_del e).2;have nb:b∉cl.map (·.2):=λz=>by obtain⟨_,_,_,_,n,_⟩:=hc.own.obj I2 z;rw[n]at e2;cases e2
  rw[j6 nb,Qf nb];exact e2
 obtain⟨vs,q1,q2⟩:=hc.cells I2 R hg λ_ z=>z;exact⟨f,c,tx,cl,vs,rfl,⟨ht,⟨pm,ctv,pg _ _ hf⟩,⟨oc,pg _ _ ho,hq⟩,hn,j1b I2.ok hc (by rw[hn];exact nd),q1⟩,q2⟩
end
section
variable{X:Cx}{ρ:Rho}{P:Po}{x:af}{params:dG}{body:ai}{scope:b9}{cl:List (af×aa)}{ds:List D}{pos p1 p2:aJ}
theorem DS.retLam(M:LMk X x)(hdef:gq params X.env=([],[]))(hcl:d4 scope X.env=pure cl)(ht:Z7 X.K x=a3 (params,body,scope))(hn:cl.map (·.1)=v7 scope)(nd:(v7 scope).Nodup)(hc:Zx X ρ cl ds)(h:P.rt (.val (.fn x ds))) :
  DS X ρ (.Return (a3 (.Lambda params body scope p1)) pos) P:=λσ H E R q pins s I=>by
 refine lr (thn (j5u M hdef hcl pins s σ H (λv H2=>∃(f c:aa)(oc:cE)(pm ctv:a8),v=.ref f/\j4 H H2/\H2 f=a3 (.frz (W.kla_obj "<lambda>" (ju x) params body scope cl pm c ctv) (.own 0))/\H2 c=a3 (.frz oc (.own 0))/\O8 oc (ju x)) I
  ⟨R.tb,λf c oc pm ctv H2 g _ h1 h2 h3=>⟨f,c,oc,pm,ctv,rfl,g,h1,h2,h3⟩⟩) λu s2 ⟨v,H2,I2,r,f,c,oc,pm,ctv,ev,g,h1,h2,h3⟩=>?_)
 subst ev;refine⟨_,σ,H2,plus H2 s2.heap (cl.map (·.2)),I2,r,λb=>?_,q.rt _ _ _ h ⟨λb o e=>Ug I2 hc.own _ _ (g _ _ (of_del e).2),j6l (tx:=(params,body,scope)) ht hn nd hc I2 R g h1 h2 h3⟩⟩;by_cases z:b∈cl.map (·.2)
 .obtain⟨o,v,e1,e2,_⟩:=hc.own.obj I2 z;obtain⟨y,e,fy⟩:=hc.own b z;exact .inr ⟨y,o,v,e,fy,Mu z e1,e1,e2⟩
 .exact .inl (Qf z)
theorem DT.callL{S:List D->D->Prop}{g:af}{e1 e2:ai}{d1 d2 d:D}(c:Cal X g (spP X.K S))(M:LMk X x)(hdef:gq params X.env=([],[]))(hcl:d4 scope X.env=pure cl)(ht:Z7 X.K x=a3 (params,body,scope))(hn:cl.map (·.1)=v7 scope)(nd:(v7 scope).Nodup)(hc:Zx X ρ cl ds)
  (h1:DT X ρ e1 d1) (h2:DT X ρ e2 d2) (nf:noFn d=a7) (hS:S [d1,d2,.fn x ds] d) (hg:Gl X g) (hdb:(g==k92)=a4)
  (hs1:a9 [e1,e2,.Lambda params body scope p1] X.env=(a4,ay e1 X.env)::a9 [e2,.Lambda params body scope p1] X.env) (hs2:a9 [e2,.Lambda params body scope p1] X.env=(a4,ay e2 X.env)::a9 [.Lambda params body scope p1] X.env)
  (hs3:a9 [.Lambda params body scope p1] X.env=(a4,ay (.Lambda params body scope p1) X.env)::a9 [] X.env) (hpl:(aO pos (a9 [e2,.Lambda params body scope p1] X.env)).any (·.1)=a4) :
  DT X ρ (.Call (.Name g p2) [e1,e2,.Lambda params body scope p1] [] pos) d:=λσ H Q R q pins s I=>by
 obtain⟨k,f,fd,ps,F,hr,hm,hk,hb,_⟩:=c.ex;refine aT (Zy I hg hm ?_ hdb);refine W.callWith_K (h₀:=X.base) I.ok.mod.kin hk (thn ((jc peS (jc peS (jc (j5u M hdef hcl) jr hs3) hs2) hs1) pos pins s σ H (λvs H2=>∃(v1 v2:V)(f c:aa)(oc:cE)(pm ctv:a8),vs=[v1,v2,.ref f]/\j4 H H2/\Enc X.K H2 d1 v1/\Enc X.K H2 d2 v2 /\
   H2 f=a3 (.frz (W.kla_obj "<lambda>" (ju x) params body scope cl pm c ctv) (.own 0))/\H2 c=a3 (.frz oc (.own 0))/\O8 oc (ju x)) I
  (h1 σ H _ R λv1 H1 g1 q1=>h2 σ H1 _ (R.grow g1) λv2 H2 g2 q2=>⟨R.tb.mono (g1.trans g2),λf c oc pm ctv H3 g3 _ z1 z2 z3=>⟨v1,v2,f,c,oc,pm,ctv,rfl,(g1.trans g2).trans g3,q1.mono (g2.trans g3),q2.mono g3,z1,z2,z3⟩⟩)) λus s2 ⟨vs,H2,I2,rv,v1,v2,fa,ca,oc,pm,ctv,ev,g,q1,q2,z1,z2,z3⟩=>⟨I2.kIn,?_⟩) hs1 hpl
 subst ev;have pg:=Ug I2 hc.own;have ef:=j6l (tx:=(params,body,scope)) ht hn nd hc I2 R g z1 z2 z3;obtain⟨e0,back⟩:=I2.plus hc.own;have sp:spP X.K S [v1,v2,.ref fa] (plus H2 s2.heap (cl.map (·.2))) (λv H'=>Cel H' (cl.map (·.2))->Q v (del H' (cl.map (·.2)))) E0 :=
  ⟨[],[d1,d2,.fn x ds],d,(R.tb.mono g).mono pg,(λa h=>nomatch h),by rw[zy];exact⟨_,_,rfl,q1.mono pg,_,_,rfl,q2.mono pg,_,_,rfl,ef,rfl⟩,hS,λv H' g' en hC=>by
   rw[zy]at en
   refine q v _ (λb o e=>?_) (en.noc hC nf)
   have e2:=g _ _ e
   have nb:b∉cl.map (·.2):=λz=>by obtain⟨_,_,_,_,n,_⟩:=hc.own.obj I2 z;rw[n]at e2;cases e2
   rw[j6 nb];exact g' _ _ (pg _ _ e2)⟩
 have hl:us.length=ps.length:=by rw[<-rv.length];exact F.len _ _ _ _ sp
 have hb':=hb s2 us I2.kIn (by rw[Xo];exact hl);rw[Xo]at hb';refine gk (bA (F.run X.A X.stack s2 _ ⟨us,[]⟩ us _ _ _ (hr.mono (P0 _)) e0 hb' rv sp) λr s' hq=>?_);cases r with
 |error e=>exact(show False from hq).elim
 |ok fl =>
  cases fl with
  |ret u=>exact back Q u s' hq
  |next=>exact(show False from hq).elim
  |brk=>exact(show False from hq).elim
  |cont=>exact(show False from hq).elim
end
section
variable{X:Cx}{ρ:Rho}{e a b c:ai}{es:List ai}{st:aP}{rest sa sb body:List aP}{P:Po}{d:D}{ds ds':List D}{pos p p1 p2 p3:aJ}{x:af}{i:Nat}
theorem DSs.last(h:DS X ρ st P):DSs X ρ [st] P:=.cons h λρ' n=>DSs.nil n
theorem Cal.comp{sp:Sp}{scope:b9}{C:aa}{s:ae}{H:Hp}{fp:List aa}{pn:k90}(h:Cal X x sp):Cal (cCx X scope C s H fp pn) x sp:=⟨h.ex⟩
end
theorem zp(lo:Int)(n:Nat):(upto lo n).length=n:=by unfold upto;rw[xj,Pg]
theorem Ig{lo:Int}{n j:Nat}{d:D}(h:(upto lo n)[j]?=a3 d):j<n/\d=.int (lo+j):=by
 unfold upto at h;rw[X7]at h;cases z:(aE n)[j]? with
 |none=>rw[z]at h;cases h
 |some k =>rw[z]at h;have hl:=(Xa.mp z).1;rw[Pg]at hl;have:=Th (n:=n) (i:=j) hl;rw[this]at z;cases z;cases h;exact⟨hl,rfl⟩
section
variable{X:Cx}{ρ:Rho}{a b tg it:ai}{ds ds':List D}{d:D}{i:Int}{pos:aJ}
end
mutual
def jjp:D->Prop
 |.tup l=>l.length<=1000/\j07 l
 |.lst l=>l.length<=1000/\j07 l
 |.dct _ _=>False
 |.sct _=>False
 |.fn _ _=>False
 |_=>True
def j07:List D->Prop
 |[]=>True
 |d::ds=>jjp d/\j07 ds
end
theorem D.depL_of{n:Nat}:∀{ds:List D},(∀d∈ds,d.dep<=n)->D.depL ds<=n
 |[],_=>by simp only[D.depL];omega
 |x::xs,h=>by simp only[D.depL];have h1:=h x (xr ..);have h2:=D.depL_of (ds:=xs) λd m=>h d (kj _ m);omega
end L2
namespace L2
noncomputable def jk(b:Int):Nat->Int->List Int
 |0,_=>[]
 |i+1,n=>(n/b^i%b)::jk b i n
theorem vg(b:Int):∀(m:Nat)(n:Int),(jk b m n).length=m
 |0,_=>rfl
 |m+1,n=>by rw[jk,xx,vg b m n]
theorem Vq(b:Int):∀{m k:Nat}{n:Int},k<m->(jk b m n)[k]?=a3 (n/b^(m-k-1)%b)
 |m+1,0,n,_=>by rw[jk];rfl
 |m+1,k+1,n,h=>by
  rw[jk,cA,Vq b nofun];have:m-k-1=m+1-(k+1)-1:=by omega
  rw[this]
theorem Fb{b:Int}(hb:0<b):∀{m:Nat}{n v:Int},v∈jk b m n->0<=v/\v<b
 |m+1,n,v,h=>by
  rw[jk]at h;rcases xm.mp h with e|h
  .subst e;exact⟨Pj _ nofun,T3 _ hb⟩
  .exact Fb hb h
theorem j9i(n b:Int)(hb:0<b)(i:Nat):n/b^i/b=n/b^(i+1):=by rw[Int.ediv_ediv_of_nonneg (lW (cB hb)),iJ]
end L2
end
section
namespace L2
open PySem PySem.Spec PyProof.Rows
def CX1(P:au)(w:aA):CXT:=λouter H s E ev s'=>∃(e:aa)(C:a8)(H':Hp),ev=.ref e/\s'.os=s.os/\eA s'.gens/\Un (frs outer) [] H H' s.heap s'.heap/\HOk P w H' s'.heap /\
 Fl (λb=>∃o,s.heap.get? b=a3 o) H' s'.heap e C/\E C a5 H'
theorem jh.get{P:au}{w:aA}{H:Hp}{h:aD}{a:aa}{o:HO}(x:jh P w H h a o):∃u,h.get? a=a3 u:=by
 cases o with
 |lst xs=>obtain⟨_,_,_,_,e⟩:=x;exact⟨_,e⟩
 |tup xs=>obtain⟨_,_,_,⟨_,e,_⟩,_⟩:=x;exact⟨_,e⟩
 |dK kvs=>obtain⟨_,_,_,_,o,_,_,e,_⟩:=x;exact⟨_,e⟩
 |dT kvs=>obtain⟨_,_,_,_,o,_,_,e,_⟩:=x;exact⟨_,e⟩
 |dI xs ep=>obtain⟨_,_,_,o,_,e,_⟩:=x;exact⟨_,e⟩
 |set S n=>obtain⟨o,_,_,_,e,_⟩:=x;exact⟨_,e⟩
 |ins C dx fs=>obtain⟨_,_,_,e,_⟩:=x;exact⟨_,e⟩
 |own y=>obtain⟨_,e⟩:=x;exact⟨_,e⟩
 |xd fs=>obtain⟨_,⟨_,_,_,e,_⟩,_⟩:=x;exact⟨_,e⟩
 |rng lo hi=>obtain⟨_,_,_,e⟩:=x;exact⟨_,e⟩
 |frz ob u=>obtain⟨e,_⟩:=x;exact⟨_,e⟩
 |tbl ps=>exact⟨_,(show h.get? a=a3 _ from x)⟩
 |cod q=>obtain⟨_,e,_⟩:=x;exact⟨_,e⟩
 |met f y=>exact⟨_,(show h.get? a=a3 _ from x)⟩
 |ext φ=>obtain⟨_,⟨_,e⟩,_⟩:=x;exact⟨_,e⟩
section
variable{X:Cx}{pins:k90}{σ:St}{H:Hp}{s:ae}
theorem Inv.old(I:Inv X pins σ H s){b:aa}(h:Old X pins b):∃o,s.heap.get? b=a3 o:=by
 rcases h with ⟨o,q,n⟩|⟨p,hp,rfl⟩|rfl|⟨x,e⟩
 .exact I.base.there b o q n
 .exact⟨_,(I.pin p hp).1⟩
 .obtain⟨m,⟨o,_,_,e,_⟩,_⟩:=I.loc;exact⟨o,e⟩
 .obtain⟨v,o,e,_⟩:=I.cell x b e;exact⟨o,e⟩
end
section
variable{P:au}{w:aA}{K:k8y}{mg:k91}{base:aD}{N ps:List af}{qual:af}{scope:b9}{f:aa}{cd:a8}{A:aB}{outer:List cH}{s s':ae}{H H':Hp}{E:XK}{σ:St}{pins:k90}{e:aa}{C:a8}
theorem Dn{as:List aa}{h':aD}{a0:a8}(I:Inv (qi (CX1 P w) P w K mg base N qual scope f cd A outer s H E) pins σ H' s')(F:FlQ (flF (qi (CX1 P w) P w K mg base N qual scope f cd A outer s H E).env) (Old (qi (CX1 P w) P w K mg base N qual scope f cd A outer s H E) pins) H' s'.heap e C)
  (hE:E C a5 H') (ha:∀b,b∈as↔b∈frs (bp qual scope s.heap.objs.size f cd::outer)\/(¬(∃o,s.heap.get? b=a3 o)/\H' b=a5/\b∈as)) (hfa:∀b∈frs (bp qual scope s.heap.objs.size f cd::outer),b∈as)
  (hL:Heap.LeftW (W.hideAll s'.heap as) (bp qual scope s.heap.objs.size f cd::outer) e C a0 s'.heap h'):CX1 P w outer H s E (.ref e) { s' with heap:=h' }:=by
 obtain⟨k1,k2,k3,k4⟩:=hL;have fr:∀b∈frs outer,∃o,s'.heap.get? b=a3 o/\∀vs,o.data≠.fields vs:=λb hb=>by obtain⟨o,ho,hd⟩:=(I.stack.mem (show b∈frs (bp qual scope s.heap.objs.size f cd::outer)from kj _ hb)).2;exact⟨o,ho,hd⟩
 have sfree:∀b∈frs (bp qual scope s.heap.objs.size f cd::outer),H' b=a5:=I.stkFree;have keep:∀b o,s'.heap.get? b=a3 o->b∉as->h'.get? b=a3 o:=λb o q n=>k1 b o (W.hideAll_get _ q n);have nold:∀b o,s.heap.get? b=a3 o->b∉frs outer->b∉as:=λb o q n z=>by
  rcases(ha b).mp z with z|⟨z,_⟩
  .rcases xm.mp z with z|z
   .have:=xq q;rw[show b=s.heap.objs.size from z]at this;exact absurd this (Xx _)
   .exact n z
  .exact z ⟨o,q⟩
 have ntrk:∀b u,H' b=a3 u->b∉as:=λb u q z=>by
  rcases(ha b).mp z with z|⟨_,z,_⟩
  .rw[sfree b z]at q;cases q
  .rw[z]at q;cases q
 have slot:∀b∈frs outer,∀o,s'.heap.get? b=a3 o->∃sl,h'.get? b=a3 { o with slots:=sl }:=λb hb o q=>by obtain⟨o',ho,hd⟩:=fr b hb;rw[q]at ho;cases ho;exact k4 b o q hd
 have un:=I.base;refine⟨e,C,H',rfl,I.os,I.bare,⟨λb o q n hb _=>keep b o (un.keep b o q n hb (λz=>nomatch z)) (nold b o q hb),λb o q n hb _=>?_,λb o q n _=>un.free b o q n (λz=>nomatch z),λb o q _=>?_,un.tups,un.frzs,un.tbls⟩,
  λa o q=>(I.hok a o q).stay (λb u hb r=>keep b u r ?_) (λ_ z=>z) (λ_ _ z=>z) λ_ _ _ z=>z,?_,hE⟩
 .obtain⟨sl,q'⟩:=un.slot b o q n hb (λz=>nomatch z);obtain⟨sl',q2⟩:=slot b hb _ q';exact⟨sl',q2⟩
 .obtain⟨o',q'⟩:=un.there b o q (λz=>nomatch z);by_cases hb:b∈frs outer
  .obtain⟨sl,q2⟩:=slot b hb _ q';exact⟨_,q2⟩
  .exact⟨_,keep b o' q' (nold b o q hb)⟩
 .rcases hb with rfl|hb
  .exact ntrk _ _ q
  .exact ntrk _ _ hb
 .obtain⟨oe,vs,T,oT,ts,he,⟨hc,h0⟩,hd,h1,hnT,hTe,hT,hdT,h3⟩:=k3;refine⟨λb ⟨o,q⟩=>F.new b (.inl ⟨o,q,λz=>nomatch z⟩),F.free,oe,vs,a0,he,hc,hd,h0,.inr ⟨T,oT,ts,.none,h1,hTe,hT,hdT,⟨h3,rfl⟩,?_,λb ⟨o,q⟩ z=>?_⟩⟩
  .cases r:H' T with
   |none=>rfl
   |some u =>obtain⟨ob,q⟩:=(I.hok T u r).get;rw[W.hideAll_get _ q (ntrk T u r)]at hnT;cases hnT
  .subst z;obtain⟨o',q'⟩:=un.there b o q (λz=>nomatch z);by_cases hb:b∈frs outer
   .obtain⟨o2,q2,nf⟩:=fr b hb;obtain⟨sl,q3⟩:=slot b hb o2 q2;rw[q3]at hT;cases hT;exact nf ts hdT
   .rw[W.hideAll_get _ q' (nold b o q hb)]at hnT;cases hnT
theorem Ln(I:Inv (qi (CX1 P w) P w K mg base N qual scope f cd A outer s H E) pins σ H' s')(F:FlQ (flF (qi (CX1 P w) P w K mg base N qual scope f cd A outer s H E).env) (Old (qi (CX1 P w) P w K mg base N qual scope f cd A outer s H E) pins) H' s'.heap e C)(hE:E C a5 H') :
  (qi (CX1 P w) P w K mg base N qual scope f cd A outer s H E).xe (.ref e) s':=by
 obtain⟨oe,vs,a0,he,hc,hd,h0,hT⟩:=F.obj;have hsN:∀b,(∃o,s.heap.get? b=a3 o)->Old (qi (CX1 P w) P w K mg base N qual scope f cd A outer s H E) pins b:=λb ⟨o,q⟩=>.inl ⟨o,q,λz=>nomatch z⟩;have hin:∀(as:List aa),(∀b∈frs (bp qual scope s.heap.objs.size f cd::outer),b∈as)->∀env∈bp qual scope s.heap.objs.size f cd::outer,∀a,env.frame=a3 a->a∈as:=λas h env he a ha=>h a (t6.mpr ⟨env,he,ha⟩);subst hc;rcases hT with h1|⟨T,oT,ts,fl,h1,hTe,hT,hdT,⟨h3,hfl⟩,hTf,hTn⟩
 .let as:=e::frs (bp qual scope s.heap.objs.size f cd::outer)
  have hfa:∀b∈frs (bp qual scope s.heap.objs.size f cd::outer),b∈as:=λb hb=>kj _ hb;refine wpAny_leaving_firstW (base:=W.hideAll s'.heap as) I.ok.frames (W.funFrames_hide I.stack (hin as hfa)) rfl he (λb o q=>W.of_hideAll _ q) (T9 _ (xr ..)) hd h1 h0 λh' hL =>Dn I F hE (λb=>⟨λz=>?_,λz=>z.elim (hfa b) λz=>z.2.2⟩) hfa hL
  rcases xm.mp z with e1|z'
  .subst e1;exact .inr ⟨λq=>F.new _ (hsN _ q) rfl,F.free,z⟩
  .exact .inl z'
 .let as:=e::T::frs (bp qual scope s.heap.objs.size f cd::outer)
  have hfa:∀b∈frs (bp qual scope s.heap.objs.size f cd::outer),b∈as:=λb hb=>kj _ (kj _ hb);have mem:∀b∈as,b∈frs (bp qual scope s.heap.objs.size f cd::outer)\/(¬(∃o,s.heap.get? b=a3 o)/\H' b=a5/\b∈as):=λb z=>by
   rcases xm.mp z with e1|z'
   .subst e1;exact .inr ⟨λq=>F.new _ (hsN _ q) rfl,F.free,z⟩
   .rcases xm.mp z' with e1|z2
    .subst e1;exact .inr ⟨λq=>hTn _ (hsN _ q) rfl,hTf,z⟩
    .exact .inl z2
  have tr:s'.heap.TracedAtW (W.hideAll s'.heap as) e oe.cls a0 fl:=⟨oe,vs,T,oT,ts,he,⟨rfl,h0⟩,hd,h1,T9 _ (kj _ (xr ..)),hTe,hT,hdT,h3⟩
  rcases hfl with hfl|⟨L,hfL,hfl⟩
  .subst hfl;exact wpAny_leaving_nextW (base:=W.hideAll s'.heap as) (a0:=a0) I.ok.frames (W.funFrames_hide I.stack (hin as hfa)) rfl tr
    (λb o q=>W.of_hideAll _ q) (T9 _ (xr ..)) λh' hL =>
    Dn I F hE (λb=>⟨mem b,λz=>z.elim (hfa b) λz=>z.2.2⟩) hfa hL
  .subst hfl;show ar _ _ (leaving _ (.ref e)) _ _ s';unfold leaving;refine a6 (jO (base:=W.hideAll s'.heap as) (a0:=a0) hfL tr ?_);exact ke (base:=W.hideAll s'.heap as) (a0:=a0) (λb o q=>W.of_hideAll _ q) (W.funFrames_hide I.stack (hin as hfa)) tr λh' k1 k2 k3 k4 =>Dn I F hE (λb=>⟨mem b,λz=>z.elim (hfa b) λz=>z.2.2⟩) hfa ⟨k1,k2,k3,λb o hb hn=>⟨o.slots,k4 b o hb hn⟩⟩
end
def spX(K:k8y)(mg:k91)(S:List D->af->Prop):Sp:=λvs H _ E=>∃ds x C,TabOk K H/\j5 K H ds vs/\S ds x/\mg x=a3 C/\∀H',j4 H H'->E C a5 H'
section
variable{P:au}{w:aA}{K:k8y}{mg:k91}{base:aD}{x qual:af}{st:aP}{f:aa}{fd:aG}{N ps:List af}{k:Nat}
theorem j6h{S:List D->af->Prop}(F:Fun K x qual st f fd)(Sc:FnScope N ps (j0 st))(hl:∀ds y,S ds y->ds.length=ps.length)
  (hbody:∀(cdv:a8)(A:aB)(outer:List cH)(s:ae)(H:Hp)(E:XK),W0 K f cdv->Room k (A.deeper (bp qual (j0 st) s.heap.objs.size f cdv))->∀ds y,S ds y ->
   DSs (qi (CX1 P w) P w K mg base N qual (j0 st) f cdv A outer s H E) (jx N ds) (jd st) { nx:=λ_=>False,rt:=λ_=>False,ex:=λz _=>z=y }):FnOk P w K mg base (CX1 P w) (k+1) f fd ps (spX K mg S):=by
 obtain⟨oc,od,dV,kV,doc,pm,an,cdv,ct,osl,rfl,lk,hcd⟩:=F.ex;refine j40 lk hcd Sc (λvs H Q E ⟨ds,y,C,tb,en,hS,_⟩=>by rw[en.length];exact hl ds y hS) λA outer s H vs Q E hr ⟨ds,y,C,tb,en,hS,hC,hE⟩=>⟨_,Wj,?_⟩
 have ho:=Zi N ds;refine hbody cdv A outer s H E ⟨oc,od,_,osl,lk,rfl⟩ hr ds y hS (start N vs) H _ (Y5 tb en) ⟨λρ' σ' H' n R f=>n.elim,λ_ _ _ z=>z.elim,λ_ _ _ z=>z.elim,λr v H' n z=>n.elim,λz ρ' σ' H' n R g=>?_⟩;cases(show z=y from n);intro pins H2 s' e C' I g2 hC' Fe;cases hC.symm.trans hC';unfold Fr0 at g;rw[ho,zy]at g;exact Ln I Fe (hE H2 ((g.trans jo).trans g2))
end
def DX(X:Cx)(ρ:Rho)(e:ai)(x:af):Prop:=∀σ H Q,Rep X.K ρ σ H->U9 X σ H x->Qd X e σ H Q
def DXA(X:Cx)(ρ:Rho)(es:List ai)(x:af):Prop:=∀σ H Q,Rep X.K ρ σ H->U9 X σ H x->Oz X es σ H Q
structure CalX(X:Cx)(x:af)(sp:Sp):Prop where
 ex:∃(k:Nat)(f:aa)(fd:aG)(ps:List af),FnOk X.prog X.w X.K X.mg X.base (CX1 X.prog X.w) k f fd ps sp/\Room k X.A/\X.mg x=a3 (.ref f)/\W.keepIn X.K (.ref f)=a7/\Binds X.K fd ps []
section
variable{X:Cx}{ρ:Rho}{e:ai}{es:List ai}{f x:af}{ds:List D}{p pos:aJ}{C:a8}
theorem DX.call {S:List D->af->Prop} (c:CalX X f (spX X.K X.mg S)) (ha:DTA X ρ (e::es) ds) (hS:S ds x) (hC:X.mg x=a3 C) (hg:Gl X f) (hdb:(f==k92)=a4)
  (he:a9 (e::es) X.env=(a4,ay e X.env)::a9 es X.env) (hpl:(aO pos (a9 es X.env)).any (·.1)=a4):DX X ρ (.Call (.Name f p) (e::es) [] pos) x:=λσ H Q R k pins s I=>by
 obtain⟨n,fa,fd,ps,F,hr,hm,hk,hb⟩:=c.ex;refine aT (Zy I hg hm ?_ hdb);refine W.callWith_K (h₀:=X.base) I.ok.mod.kin hk (thn (ha σ H (λvs H1=>j4 H H1/\j5 X.K H1 ds vs) R (λvs H1 g e=>⟨g,e⟩) pos pins s I) λus s1 ⟨vs,H1,I1,r,g,en⟩=>⟨I1.kIn,?_⟩) he hpl;have sp:spX X.K X.mg S vs H1 (λ_ _=>False) (λC' _ H'=>C'=C/\j4 H1 H'):=⟨ds,x,C,R.tb.mono g,en,hS,hC,λH' g=>⟨rfl,g⟩⟩
 have hl:us.length=ps.length:=by rw[<-r.length];exact F.len _ _ _ _ sp
 have hb':=hb s1 us I1.kIn (by rw[Xo];exact hl);rw[Xo]at hb';refine gk (bA (F.run X.A X.stack s1 H1 ⟨us,[]⟩ us vs _ _ hr I1.env0 hb' r sp) λr s' hq=>?_);cases r with
 |error ev =>obtain⟨e,C',H',rfl,os,bare,un,hok,fl,rfl,g'⟩:=hq;have I':Inv X pins σ H' s':=I1.call' os un hok bare (λb z=>nomatch z);refine k pins H' s' e C' I' (g.trans g') hC (FlQ.up fl (λ_ z=>.inl z) λb hb=>I1.old hb)
 |ok fl =>
  cases fl with
  |ret u=>obtain⟨_,_,_,_,_,_,_,z⟩:=hq;exact z.elim
  |next=>exact b8 hq
  |brk=>exact b8 hq
  |cont=>exact b8 hq
end
section
variable{X:Cx}{ρ:Rho}{e:ai}{es:List ai}{x:af}{d:D}{p pos np cpos:aJ}{P:Po}{i:Int}{y:af}{ys:List af}
theorem DE.fmtI(ha:DT X ρ e (.int i))(hi:i.natAbs.log2<1920):DE X ρ (.FormattedValue e (-1) a5 pos) (.str (toString i)):=λσ H Q R q pins s I=>by
 refine fK (thn (ha σ H (λv H1=>v=.int i/\j4 H H1) R (λv H1 g e=>⟨e,g⟩) pins s I) λu s1 ⟨v,H1,I1,r,ev,g⟩=>?_);subst ev;obtain⟨t,rfl⟩:=(show ∃t,u=bj i t from r)
 exact formatField_int_small hi ⟨.str (toString i),H1,I1.un (t':=s1.toks+1+1) Un.refl I1.hok,⟨_,rfl⟩,q _ H1 g rfl⟩
theorem DE.fmtS(ha:DT X ρ e (.str y))(hy:y.length<=aq):DE X ρ (.FormattedValue e (-1) a5 pos) (.str y):=λσ H Q R q pins s I=>by
 refine fK (thn (ha σ H (λv H1=>v=.str y/\j4 H H1) R (λv H1 g e=>⟨e,g⟩) pins s I) λu s1 ⟨v,H1,I1,r,ev,g⟩=>?_);subst ev;obtain⟨t,rfl⟩:=(show ∃t,u=bq y t from r)
 exact mB (λt' tk=>⟨.str y,H1,I1.un (t':=tk) Un.refl I1.hok,⟨_,rfl⟩,q _ H1 g rfl⟩) hy
noncomputable def Np(out:af):List af->af
 |[]=>out
 |y::ys=>Np (out++y) ys
def DPs(X:Cx)(ρ:Rho):List ai->List af->Prop
 |[],[]=>True
 |e::es,y::ys=>DE X ρ e (.str y)/\DPs X ρ es ys
 |_,_=>False
theorem j09:∀{es:List ai}{ys:List af}{out:af}{n:Nat}{pins:k90} {σ:St} {H0 H:Hp} {s:ae} {Q:VK},DPs X ρ es ys->(∀y∈ys,y.length<=10000)->out.length+10000*ys.length<=aq->Inv X pins σ H s->Rep X.K ρ σ H->j4 H0 H ->
  (∀H',j4 H0 H'->Q (.str (Np out ys)) H')->ar (aw X.prog X.w) X.A (joinParts out (evalEach es X.env)) (EP X pins σ Q) X.xe s
 |[],[],out,n,pins,σ,H0,H,s,Q,_,_,hl,I,R,g,q=>joinParts_nil ⟨.str out,H,I.un (t':=s.toks+1) Un.refl I.hok,⟨_,rfl⟩,q H g⟩ (by have:=hl;omega)
 |e::es,y::ys,out,n,pins,σ,H0,H,s,Q,hp,hy,hl,I,R,g,q=>by
  have hy0:=hy y (xr ..);rw[xx]at hl;refine joinParts_cons (thn (hp.1 σ H (λv H1=>v=.str y/\j4 H H1) R (λv H1 g e=>⟨e,g⟩) pins s I) λu s1 ⟨v,H1,I1,r,ev,g1⟩=>?_);subst ev;obtain⟨t,rfl⟩:=(show ∃t,u=bq y t from r)
  have hz:(out++y).length<=out.length+10000:=by rw[strLen_append];omega
  exact⟨by omega,j09 (n:=n) hp.2 (λz hz=>hy z (kj _ hz)) nofun I1 (R.grow g1) (g.trans g1) q⟩
 |[],_::_,_,_,_,_,_,_,_,_,h,_,_,_,_,_,_=>h.elim
 |_::_,[],_,_,_,_,_,_,_,_,h,_,_,_,_,_,_=>h.elim
theorem DE.joined{a b:ai}(h:DPs X ρ (a::b::es) ys)(hy:∀y∈ys,y.length<=10000)(hl:ys.length<=1000):DE X ρ (.JoinedStr (a::b::es) pos) (.str (Np dj ys)):=λσ H Q R q pins s I =>
 JoinedStr_many (j09 (n:=0) (out:=dj) h hy (by
  have e:Str.empty.length=0:=rfl
  rw[e,dh];omega) I R (j4.refl H) λH' g=>q _ H' g rfl)
theorem jd6{Q:VK}{σ:St}{H:Hp}(he:Qd X e σ H Q)(hs:a9 [e] X.env=[(a4,ay e X.env)]):Oz X [e] σ H (λvs H'=>∃v,vs=[v]/\Q v H') :=
 (jc (es:=[]) peS jr hs).to λpins s I=>thn (he pins s I) λu s' ⟨v,H',I',r,q⟩=>⟨v,H',I',r,⟨v,rfl,q⟩⟩
theorem DS.raise{C:aa}{bm bmN:List a8}{newId B Bn nid initId inN:String}(O:OwnCls x C bm newId X.mg X.base)(Fn:ExcBaseFacts Bn newId inN bmN)(hBn:bm.contains (.type Bn)=a7)(FB:ExcBaseFacts B nid initId bm)(hc:X.calm=a7)
  (ha:∀σ H,Rep X.K ρ σ H->Qd X e σ H λ_ H'=>j4 H H') (hP:P.ex x ρ) (hg:Gl X x) (hdb:(x==k92)=a4) (he:a9 [e] X.env=[(a4,ay e X.env)])
  : DS X ρ (.Raise (a3 (.Call (.Name x np) [e] [] cpos)) a5 pos) P:=λσ H E R q pins s I=>by
 obtain⟨tl,N,nm,qn,bs,hdct,sn,sub,ab,col,dd,k0,k1,k2,k3,k5,mN,hC,hN,hni,T⟩:=O.obj;refine wpAny_Raise_call_subU (C:=C) (nm:=nm) (q:=qn) (N:=N) (bs:=bs) (bm:=tl) (hdct:=hdct) (sn:=sn) (sub:=sub) (ab:=ab) (col:=col) (dd:=dd) (k0:=k0) (k1:=k1) (k2:=k2) (k3:=k3) (k5:=k5)
  Fn hBn FB (mN:=mN) (T.hasType FB.hasBase) (I.ok.hd hc) (by rw[he];rfl) hni (Zy I hg O.bound ⟨rfl,?_⟩ hdb)
 have hsp:=jd6 (ha σ H R) he cpos pins s I;rw[he]at hsp ⊢;refine iD (thn hsp λus s2 ⟨vs,H1,I1,r,v,ev,g⟩=>⟨rfl,?_,I1.bk _ _ hC,hN.keeps I1.bk,T.keeps I1.bk,λh' e' hm=>?_⟩)
 .show us.length<=aq;rw[<-r.length,ev];show 1<=aq;rw[dh];omega
 .have nold:∀b,(∃o,s2.heap.get? b=a3 o)->b≠e':=λb ⟨o,q⟩ z=>by rw[z,hm.new]at q;cases q
  obtain⟨t,ht,_,_⟩:=hm.there;refine q.ex x ρ σ H hP R (Fr0.refl _ _) pins H1 { s2 with heap:=h' } e' (.ref C) (I1.un (t':=s2.toks) (Un.kept hm.keeps) (I1.hok.kept hm.keeps)) g O.bound ⟨λb hb=>nold b (I1.old hb),?_,_,_,_,ht,rfl,rfl,rfl,.inl rfl⟩;cases z:H1 e' with
  |none=>rfl
  |some u=>exact absurd rfl (nold e' (I1.hok e' u z).get)
end
structure FlT(N:aa->Prop)(H:Hp)(h:aD)(e:aa)(C fl:a8):Prop where
 new:∀b,N b->b≠e
 free:H e=a5
 obj:∃(oe:cE)(vs:Array a8)(a0:a8)(T:aa)(oT:cE)(ts:Array a8),h.get? e=a3 oe/\oe.cls=C/\oe.data=.fields vs/\vs[0]?=a3 a0/\vs[1]?=a3 (.ref T)/\T≠e/\h.get? T=a3 oT/\oT.data=.fields ts/\ts[3]?=a3 fl /\
  H T=a5/\∀b,N b->b≠T
section
variable{X:Cx}{pins:k90}{σ:St}{H:Hp}{s:ae}{e:aa}{C fl:a8}{M:gL}{A:aB}{E:k8z}
theorem Inv.noted{as:List aa}{h':aD}(I:Inv X pins σ H s)(ha:∀b∈as,b∈frs X.stack\/(H b=a5/\∀c,Old X pins c->c≠b))
  (keep:∀b o,s.heap.get? b=a3 o->b∉as->h'.get? b=a3 o) (slot:∀b o,s.heap.get? b=a3 o->(∀vs,o.data≠.fields vs)->∃sl,h'.get? b=a3 { o with slots:=sl }):Inv X pins σ H { s with heap:=h' }:=by
 have sf:=I.stkFree;have ntrk:∀b u,H b=a3 u->b∉as:=λb u q z=>by
  rcases ha b z with z|⟨z,_⟩
  .rw[sf b z]at q;cases q
  .rw[z]at q;cases q
 have nold:∀b,Old X pins b->b∉frs X.stack->b∉as:=λb ho nf z=>(ha b z).elim nf λq=>q.2 b ho rfl;have nst:∀b o,X.s₀.heap.get? b=a3 o->b∉X.fs->b∉frs X.stack:=λb o q n z=>by
  rcases xm.mp (I.stkSub b z)with z|z
  .have:=xq q;rw[z]at this;exact absurd (Xb this I.ok.above) (Xx _)
  .exact n z
 have nf:∀b∈frs X.stack,∀o,s.heap.get? b=a3 o->∀vs,o.data≠.fields vs:=λb hb o q=>by obtain⟨o',ho,hd⟩:=(I.stack.mem hb).2;rw[q]at ho;cases ho;exact hd
 have nff:∀b∈X.fs,∀o,s.heap.get? b=a3 o->∀vs,o.data≠.fields vs:=λb hb o q=>by obtain⟨o',ho,hd⟩:=(I.funs.mem hb).2;rw[q]at ho;cases ho;exact hd
 have cel:∀{c:aa}{v:Option a8},s.heap.IsCell c v->h'.IsCell c v:=λ{c v} ⟨o,q,hd⟩=>by
  obtain⟨sl,q'⟩:=slot c o q λvs z=>by rw[hd]at z;cases z
  exact⟨_,q',hd⟩
 obtain⟨m,hn,hl⟩:=id I.loc;have up:s.heap.UpToSlots h':=slot;refine⟨I.ok,I.os,I.bare,⟨λb o e n hb hx=>keep b o (I.base.keep b o e n hb hx) (nold b (.inl ⟨o,e,hx⟩) (nst b o e hb)),λb o e n hb hx=>?_,I.base.free,λb o e hx=>?_,I.base.tups,I.base.frzs,I.base.tbls⟩,
  ⟨m,up.ns hn,λi x v h1 h2 h3=>?_⟩,λx c e=>?_,I.free,I.freeC,λp hp=>?_,λa o q=>(I.hok a o q).stay (λb u hb r=>keep b u r ?_) (λ_ z=>z) (λ_ _ z=>z) λ_ _ _ z=>z,I.len⟩
 .obtain⟨sl,e1⟩:=I.base.slot b o e n hb hx;obtain⟨sl',e2⟩:=slot b _ e1 (nff b hb _ e1);exact⟨sl',e2⟩
 .obtain⟨o',e1⟩:=I.base.there b o e hx;by_cases hb:b∈frs X.stack
  .obtain⟨sl,e2⟩:=slot b o' e1 (nf b hb o' e1);exact⟨_,e2⟩
  .exact⟨o',keep b o' e1 (nold b (.inl ⟨o,e,hx⟩) hb)⟩
 .obtain⟨u,r,q⟩:=hl i x v h1 h2 h3;exact⟨u,r,q.imp id λ⟨k,c,e,z⟩=>⟨k,c,e,cel z⟩⟩
 .obtain⟨v,z⟩:=I.cell x c e;exact⟨v,cel z⟩
 .obtain⟨q,n,nl,nfs,d⟩:=I.pin p hp;refine⟨keep p.1 p.2 q (nold p.1 (.inr (.inl ⟨p,hp,rfl⟩)) λz=>?_),n,nl,nfs,d⟩;rcases xm.mp (I.stkSub p.1 z)with z|z
  .exact nl z
  .exact nfs z
 .rcases hb with rfl|hb
  .exact ntrk _ _ q
  .exact ntrk _ _ hb
theorem Be{as:List aa}{h':aD}{a0:a8}(I:Inv X pins σ H s)(hn:∀b,Old X pins b->b≠e)(hf:H e=a5)(ha:∀b∈as,b∈frs X.stack\/(H b=a5/\∀c,Old X pins c->c≠b))(hfa:∀b∈frs X.stack,b∈as)
  (k1:(W.hideAll s.heap as).StaysIn h') (k3:h'.TracedAtW (W.hideAll s.heap as) e C a0 fl) (k4:∀b o,s.heap.get? b=a3 o->(∀vs,o.data≠.fields vs)->∃sl,h'.get? b=a3 { o with slots:=sl }) :
  Inv X pins σ H { s with heap:=h' }/\FlT (Old X pins) H h' e C fl:=by
 have keep:∀b o,s.heap.get? b=a3 o->b∉as->h'.get? b=a3 o:=λb o q n=>k1 b o (W.hideAll_get _ q n);refine⟨I.noted ha keep k4,hn,hf,?_⟩;obtain⟨oe,vs,T,oT,ts,he,⟨hc,h0⟩,hd,h1,hnT,hTe,hT,hdT,h3⟩:=k3;refine⟨oe,vs,a0,T,oT,ts,he,hc,hd,h0,h1,hTe,hT,hdT,h3,?_,λb hb z=>?_⟩
 .cases r:H T with
  |none=>rfl
  |some u =>
   obtain⟨ob,q⟩:=(I.hok T u r).get;have:T∉as:=λz=>by
    rcases ha T z with z|⟨z,_⟩
    .rw[I.stkFree T z]at r;cases r
    .rw[z]at r;cases r
   rw[W.hideAll_get _ q this]at hnT;cases hnT
 .subst z;obtain⟨o,q⟩:=I.old hb;by_cases hs:b∈as
  .rcases ha b hs with hs|⟨_,z⟩
   .obtain⟨o',ho,nf⟩:=(I.stack.mem hs).2;obtain⟨sl,q3⟩:=k4 b o' ho nf;rw[q3]at hT;cases hT;exact nf ts hdT
   .exact z b hb rfl
  .rw[W.hideAll_get _ q hs]at hnT;cases hnT
theorem Dv(I:Inv X pins σ H s){as:List aa}(hfa:∀b∈frs X.stack,b∈as):s.heap.FunFrames (W.hideAll s.heap as) X.stack :=
 W.funFrames_hide I.stack λenv he a ha=>hfa a (t6.mpr ⟨env,he,ha⟩)
theorem Nh{e:a8}{env env':cH}(h:env.frame=env'.frame):cZ e env=cZ e env':=by unfold cZ PySem.frameOf;rw[h]
theorem j26{Q:Unit->ae->Prop}{env0:cH}{out0:List cH}{L:aa}(I:Inv X pins σ H s)(hst:X.stack=env0::out0)(hfm:env0.frame=a3 L)(hfx:X.env.frame=a3 L)(F:FlQ (flF X.env) (Old X pins) H s.heap e C)
  (h:∀h',Inv X pins σ H { s with heap:=h' }->FlT (Old X pins) H h' e C (cw L)->Q () { s with heap:=h' }):ar (aw X.prog X.w) X.A (cZ (.ref e) X.env) Q E s:=by
 rw[Nh (hfx.trans hfm.symm)];obtain⟨oe,vs,a0,he,hc,hd,h0,hT⟩:=F.obj;subst hc;have hfr:X.A.frames=a3 (env0::out0):=by rw[<-hst];exact I.ok.frames
 rcases hT with h1|⟨T,oT,ts,fl,h1,hTe,hT,hdT,⟨h3,hfl⟩,hTf,hTn⟩
 .have hfa:∀b∈frs X.stack,b∈e::frs X.stack:=λb hb=>kj _ hb;have hl:=Dv I hfa;rw[hst]at hl;unfold cZ;simp only[hfm];refine a6 (bx he hd h1 ?_);rw[if_neg (by decide)];refine wpAny_entryW (base:=W.hideAll s.heap (e::frs X.stack)) hfr (by rw[<-hst]at hl ⊢;exact hl) hfm he (λb o q=>W.of_hideAll _ q) (T9 _ (xr ..)) hd (T8.mp h1).1 h0 λh' ⟨k1,_,k3,k4⟩=>?_;obtain⟨I',F'⟩:=Be (as:=e::frs X.stack) I F.new F.free (λb hb=>(xm.mp hb).elim (λz=>.inr ⟨z▸F.free,λc hc=>z▸F.new c hc⟩) .inl) hfa k1 k3 k4;exact h h' I' F'
 .rcases hfl with hfl|⟨L',hL',hfl⟩
  rotate_left
  .subst hfl;cases hfx.symm.trans hL';refine jO (base:=W.hideAll s.heap [T]) (a0:=a0) (cls:=oe.cls) hfm ⟨oe,vs,T,oT,ts,he,⟨rfl,h0⟩,hd,h1,T9 _ (xr ..),hTe,hT,hdT,h3⟩ ?_;exact h s.heap I ⟨F.new,F.free,oe,vs,a0,T,oT,ts,he,rfl,hd,h0,h1,hTe,hT,hdT,h3,hTf,hTn⟩
  subst hfl;have hfa:∀b∈frs X.stack,b∈e::T::frs X.stack:=λb hb=>kj _ (kj _ hb);have hl:=Dv I hfa;refine wpAny_noteFrame_onW (base:=W.hideAll s.heap (e::T::frs X.stack)) (a0:=a0) hfr (by rw[<-hst];exact hl) hfm ⟨oe,vs,T,oT,ts,he,⟨rfl,h0⟩,hd,h1,T9 _ (kj _ (xr ..)),hTe,hT,hdT,h3⟩
   (λb o q=>W.of_hideAll _ q) (T9 _ (xr ..)) λh' ⟨k1,_,k3,k4⟩=>?_
  obtain⟨I',F'⟩:=Be (as:=e::T::frs X.stack) I F.new F.free (λb hb=>(xm.mp hb).elim (λz=>.inr ⟨z▸F.free,λc hc=>z▸F.new c hc⟩) λhb=>(xm.mp hb).elim (λz=>.inr ⟨z▸hTf,λc hc=>z▸hTn c hc⟩) .inl) hfa k1 k3 k4;exact h h' I' F'
theorem j2c{Q:Unit->ae->Prop}(I:Inv X pins σ H s)(F:FlT (Old X pins) H s.heap e C fl)
  (h:∀h',Inv X pins σ H { s with heap:=h' }->FlT (Old X pins) H h' e C .none->Q () { s with heap:=h' }):ar M A (ja (.ref e) a5) Q E s:=by
 obtain⟨oe,vs,a0,T,oT,ts,he,hc,hd,h0,h1,hTe,hT,hdT,h3,hTf,hTn⟩:=F.obj;subst hc;have hfa:∀b∈frs X.stack,b∈e::T::frs X.stack:=λb hb=>kj _ (kj _ hb);refine ke (base:=W.hideAll s.heap (e::T::frs X.stack)) (a0:=a0) (fl:=fl) (l:=X.stack) (λb o q=>W.of_hideAll _ q) (Dv I hfa)
  ⟨oe,vs,T,oT,ts,he,⟨rfl,h0⟩,hd,h1,T9 _ (kj _ (xr ..)),hTe,hT,hdT,h3⟩ λh' k1 _ k3 k4=>?_
 obtain⟨I',F'⟩:=Be (as:=e::T::frs X.stack) I F.new F.free (λb hb=>(xm.mp hb).elim (λz=>.inr ⟨z▸F.free,λc hc=>z▸F.new c hc⟩) λhb=>(xm.mp hb).elim (λz=>.inr ⟨z▸hTf,λc hc=>z▸hTn c hc⟩) .inl) hfa k1 k3
  (λb o q nf=>⟨o.slots,k4 b o q nf⟩)
 exact h h' I' F'
theorem Inv.track{oe:cE}(I:Inv X pins σ H s)(he:s.heap.get? e=a3 oe)(hn:∀b,Old X pins b->b≠e)(hf:H e=a5):Inv X pins σ (upd H e (.frz oe (.own e))) s:=by
 have ne:∀{b:aa}{u:HO},H b=a3 u->b≠e:=λ{b u} q z=>by rw[z,hf]at q;cases q
 refine⟨I.ok,I.os,I.bare,⟨I.base.keep,I.base.slot,λb o q n hx=>?_,I.base.there,λb xs q=>?_,λb o u q=>?_,λb ps q=>?_⟩,I.loc,I.cell,?_,λx c q=>?_,λp hp=>?_,λa o q=>?_,I.len⟩
 .rw[jb (hn b (.inl ⟨o,q,hx⟩))];exact I.base.free b o q n hx
 .have z:=I.base.tups b xs q;rw[jb (ne z)];exact z
 .have z:=I.base.frzs b o u q;rw[jb (ne z)];exact z
 .obtain⟨m,z⟩:=I.base.tbls b ps q;exact⟨m,by rw[jb (ne z)];exact z⟩
 .rw[jb (hn _ (.inr (.inr (.inl rfl))))];exact I.free
 .rw[jb (hn _ (.inr (.inr (.inr ⟨x,q⟩))))];exact I.freeC x c q
 .obtain⟨q,n,r⟩:=I.pin p hp;exact⟨q,by rw[jb (hn _ (.inr (.inl ⟨p,hp,rfl⟩)))];exact n,r⟩
 .by_cases z:a=e
  .subst z;rw[j9]at q;cases q;exact⟨he,oe,he⟩
  .rw[jb z]at q;exact(I.hok a o q).stay (λ_ _ _ r=>r) (λb r=>by rw[jb (ne r)];exact r) (λb xs r=>by rw[jb (ne r)];exact r) λb _ _ r=>by rw[jb (ne r)];exact r
theorem jd1{j:Nat}{n:af}{pos:aJ}{Q:Unit->ae->Prop}(I:Inv X pins σ H s)(hN:X.N.Nodup)(hj:X.N[j]?=a3 n)(hk:X.env.kindOf n=a3 .local)
  (h:∀s',Inv X pins (σ.set j a5) H s'->Q () s'):ar M A (do bindName X.env n .none;unbindBehindTheSuite X.env n pos) Q E s:=by
 obtain⟨m,hn,hl⟩:=id I.loc;have hcls:(X.env.scope.kind==.class || (X.env.scope.kind==.module&&X.env.locals != X.env.globals))=a4:=by rw[I.ok.kind];rfl
 refine wpAny_nameGoes_keeps hk hn hcls λh' v hn' hs=>h _ ?_;have cne:=I.cne;refine⟨I.ok,I.os,I.bare,⟨λb o e n hb hx=>?_,λb o e n hb hx=>?_,I.base.free,λb o e hx=>?_,I.base.tups,I.base.frzs,I.base.tbls⟩,⟨_,hn',λi y v' e1 e2 e3=>?_⟩,λy c e=>?_,I.free,I.freeC,λp hp=>?_,λb ob e=>?_,by simpa using I.len⟩
 .exact(hs.2 b (X8 (Xb (xq e) I.ok.above))).trans (I.base.keep b o e n hb hx)
 .obtain⟨sl,e1⟩:=I.base.slot b o e n hb hx;exact⟨sl,(hs.2 b (X8 (Xb (xq e) I.ok.above))).trans e1⟩
 .obtain⟨o',e1⟩:=I.base.there b o e hx;exact⟨o',(hs.2 b (X8 (Xb (xq e) I.ok.above))).trans e1⟩
 .by_cases hij:i=j
  .subst hij;rcases getElem?_set_of e2 with ⟨_,z,_⟩|⟨z,_⟩
   .cases z
   .exact absurd rfl z
  .rw[eR (c8 hij)]at e2;obtain⟨u',r',q⟩:=hl i y v' e1 e2 e3;refine⟨u',r',?_⟩;rcases q with ⟨k,e⟩|⟨k,c,e,z⟩
   .refine .inl ⟨k,?_⟩;have:y≠n:=λe=>hij (Bg hN e1 (e▸hj));simp[this,e]
   .exact .inr ⟨k,c,e,z.sameBut hs (cne y c e)⟩
 .obtain⟨w',z⟩:=I.cell y c e;exact⟨w',z.sameBut hs (cne y c e)⟩
 .obtain⟨e,n,ne,nf,d⟩:=I.pin p hp;exact⟨(hs.2 p.1 ne).trans e,n,ne,nf,d⟩
 .refine(I.hok b ob e).stay (λc w' hc q=>(hs.2 c ?_).trans q) (λ_ q=>q) (λ_ _ q=>q) λ_ _ _ q=>q;rintro rfl;rcases hc with rfl|hc
  .rw[I.free]at e;cases e
  .rw[I.free]at hc;cases hc
end
end L2
end
section
namespace PySem.W
open PySem PySem.Spec PySem.Calls PyProof.Rows Builtin Builtin.ObjectAttr Builtin.Getset_descriptor
section
variable{prog:au}{w:aA}{A:aB}{E:k8z}{h:aD}{g:Array fH}{d:Drawn}{t:Nat}{os:OsState}{K:mF}{e C:aa}
theorem j6i {R:eB->ae->Prop} {tp:a8} (X:K.In h) (LT:Looks (aw prog w) h (mK (.ref e)) (.ref C)) (hm:mroIn K C (.type "object")=a3 a7)
  (hq:R (.ok (.ret (.ref C))) ⟨h,g,d,t,os⟩):bK (aw prog w) A (.call (.builtin "getset_descriptor.__get__") ⟨[.builtin "object.__class__",.ref e,tp],[]⟩) R ⟨h,g,d,t,os⟩:=by
 have L1:=looks_mroIn (M:=aw prog w) X hm;refine kz KF.slot_gs.plain KF.entry_gs (KF.slot_gs.check _ _ _ _ _ _ _ _ KF.type_class (KF.args_gs _ _ _) ?_);unfold d9.«getset_descriptor.__get__» descrGet;rw[dga_obj];refine a6 (aj ?_);unfold descrGetter descrCheckInstance descrNameAndClass isInstance;simp only[KF.owner_class]
 repeat lk
 refine⟨Code.quiet_builtin _ (by decide +kernel),bP KF.entry_class ?_⟩;unfold d9.«object.__class__» shownTypeOf
 repeat lk
 exact hq
theorem j1f {tk:iq} {o:cE} {Q:Fin->ae->Prop} (X:K.In h) (hx:h.get? e=a3 o) (hc:o.cls=.ref C) (ha:iv K (.ref C) "__class__" = a3 (a3 (.builtin "object.__class__"))) (hm:mroIn K C (.type "object")=a3 a7)
  (hq:Q (.done (.ret (.ref C))) ⟨h,g,d,t,os⟩):ar (aw prog w) A (d9.«object.__getattribute__» ⟨[.ref e,.str "__class__" tk],[]⟩) Q E ⟨h,g,d,t,os⟩:=by
 have hT5:(⟨h,g,d,t,os⟩:ae).TypeIs (.builtin "object.__class__") "getset_descriptor":=iZ;have f5:=iZ;have f6:=F.slot_gs_get.lookup;have f7:=F.slot_gs_set.lookup;have L1:=jJ (M:=aw prog w) X ha;have LT:Looks (aw prog w) h (mK (.ref e)) (.ref C):=hc▸(Looks.ld hx).andThen .now
 repeat (any_goals (first|assumption|(with_reducible refine gC hx ?_;rw[hc])|with_reducible refine L1.at ?_|wp_step))
 refine j6i X LT hm ?_
 repeat (any_goals (first|assumption|wp_step))
theorem j9o {M:gL} {nameV:a8} {o:cE} {Q:Unit->ae->Prop} (X:K.In h) (hx:h.get? e=a3 o) (hc:o.cls=.ref C) (hs:subIn K (.ref C) (.type "BaseException")=a3 a7) (hq:Q () ⟨h,g,d,t,os⟩) :
  ar M A (hJ "BaseException.__getattribute__" ⟨[.ref e,nameV],[]⟩) Q E ⟨h,g,d,t,os⟩:=by
 have hk:builtinKind "BaseException.__getattribute__" = a3 .slot:=by decide +kernel
 have hsplit:splitId "BaseException.__getattribute__" = a3 ("BaseException","__getattribute__"):=by decide +kernel
 have L2:=looks_subIn (M:=M) X hs;have ha:=F.args_bexc_ga (.ref e) nameV;simp only[hJ,hk,hsplit];refine a6 ?_
 .unfold isInstance
  repeat (first|(with_reducible refine gC hx ?_;rw[hc])|with_reducible refine L2.at ?_|wp_step)
  exact hq
theorem j9a {tk:iq} {o:cE} {fill expr:Bool} {Q:k8z} (X:K.In h) (hx:h.get? e=a3 o) (hc:o.cls=.ref C) (hga:iv K (.ref C) "__getattribute__" = a3 (a3 (.builtin "BaseException.__getattribute__")))
  (hgt:iv K (.ref C) "__getattr__" = a3 a5) (hs:subIn K (.ref C) (.type "BaseException")=a3 a7) (ha:iv K (.ref C) "__class__" = a3 (a3 (.builtin "object.__class__"))) (hm:mroIn K C (.type "object")=a3 a7) (hpl:Slot "ValueError" "__getattribute__" "BaseException.__getattribute__")
  (hq:Q (.ref C) ⟨h,g,d,t,os⟩):ar (aw prog w) A (getAttrBy (.ref e) (.str "__class__" tk) fill expr) Q E ⟨h,g,d,t,os⟩:=by
 have f3:=hpl.bind (.ref e);have hx0:(expr&&onTheHeap (dB "BaseException.__getattribute__"))=a4:=by cases expr<;>rfl
 have hx2:(dB "BaseException.__getattribute__" == dB "object.__getattribute__")=a4:=by decide +kernel
 have hx1:(onTheHeap (aC C)&&dB "BaseException.__getattribute__" == dB "object.__getattribute__")=a4:=by rw[hx2];rfl
 have L1:=jJ (M:=aw prog w) X hga;have L2:=jJ (M:=aw prog w) X hgt
 repeat (any_goals (first|assumption|(with_reducible refine gC hx ?_;rw[hc])|with_reducible refine L1.at ?_|with_reducible refine L2.at ?_|wp_step))
 refine kz hpl.plain F.entry_bexc_ga (j9o X hx hc hs (j1f X hx hc ha hm ?_))
 repeat (any_goals (first|assumption|wp_step))
theorem excls_attr {o:cE} {Q:Option a8->ae->Prop} (X:K.In h) (hx:h.get? e=a3 o) (hc:o.cls=.ref C) (hga:iv K (.ref C) "__getattribute__" = a3 (a3 (.builtin "BaseException.__getattribute__")))
  (hgt:iv K (.ref C) "__getattr__" = a3 a5) (hs:subIn K (.ref C) (.type "BaseException")=a3 a7) (ha:iv K (.ref C) "__class__" = a3 (a3 (.builtin "object.__class__"))) (hm:mroIn K C (.type "object")=a3 a7) (hpl:Slot "ValueError" "__getattribute__" "BaseException.__getattribute__")
  (hq:Q (a3 (.ref C)) ⟨h,g,d,t+1,os⟩):ar (aw prog w) A (getAttr? (.ref e) "__class__") Q E ⟨h,g,d,t,os⟩:=by
 unfold getAttr? getAttrBy?;refine a6 (wpAny_mkText (a6 (gb (j9a X hx hc hga hgt hs ha hm hpl (aj hq)))))
end
end PySem.W
end
section
namespace L2
open PySem PySem.Spec PyProof.Rows
noncomputable def jq:List af:=["WrongSize","NoAsk","NoWord","Twice","WrongAnswers","Unlike","NoPlace","NoText","WrongPrices","WrongWeights","NoPlan"]
noncomputable def bmV:List a8:=[.type "ValueError",.type "Exception",.type "BaseException",.type "object"]
noncomputable def j7l(K:k8y)(C:aa):Bool:=W.findIn K (.ref C) "__getattribute__" == a3 (a3 (.builtin "BaseException.__getattribute__"))&&(W.findIn K (.ref C) "__getattr__" == a3 a5&&(W.subIn K (.ref C) (.type "BaseException")==a3 a7 &&
 (W.findIn K (.ref C) "__class__" == a3 (a3 (.builtin "object.__class__"))&&(W.mroIn K C (.type "object")==a3 a7&&((W.clsIn K C).isSome&&W.excIn K C bmV "ValueError.__new__")))))
noncomputable def Z8(K:k8y):Bool:=jq.all λx=>match W.nsIn K ak x with
 |some (a3 (.ref C))=>j7l K C&&(W.kitOne K (.ref C) (.type "ValueError")==a3 a7&&((match W.nsIn K ak "AskError" with
   |some (a3 a)=>W.exmOne K (.ref C) a==a3 a7
   |_=>a4)&&jq.all λc=>match W.nsIn K ak c with
   |some (a3 v)=>W.kitOne K (.ref C) v==a3 (x==c)
   |_=>a7))
 |some (a3 _)=>a4
 |_=>a7
structure XcOk(K:k8y)(C:aa):Prop where
 ga:W.findIn K (.ref C) "__getattribute__" = a3 (a3 (.builtin "BaseException.__getattribute__"))
 gt:W.findIn K (.ref C) "__getattr__" = a3 a5
 sub:W.subIn K (.ref C) (.type "BaseException")=a3 a7
 cls:W.findIn K (.ref C) "__class__" = a3 (a3 (.builtin "object.__class__"))
 mro:W.mroIn K C (.type "object")=a3 a7
 is:(W.clsIn K C).isSome=a7
 exc:W.excIn K C bmV "ValueError.__new__" = a7
theorem jb6{K:k8y}{C:aa}(h:j7l K C=a7):XcOk K C:=by unfold j7l at h;simp only[Xg,beq_iff_eq]at h;exact⟨h.1,h.2.1,h.2.2.1,h.2.2.2.1,h.2.2.2.2.1,h.2.2.2.2.2.1,h.2.2.2.2.2.2⟩
structure ExOne(K:k8y)(x:af)(C:aa):Prop where
 ok:XcOk K C
 val:W.kitOne K (.ref C) (.type "ValueError")=a3 a7
 ask:∃a,W.nsIn K ak "AskError" = a3 (a3 a)/\W.exmOne K (.ref C) a=a3 a7
 one:∀c∈jq,∀v,W.nsIn K ak c=a3 (a3 v)->W.kitOne K (.ref C) v=a3 (x==c)
theorem Vo{K:k8y}(h:Z8 K=a7){x:af}{o:a8}(hx:x∈jq)(e:W.nsIn K ak x=a3 (a3 o)):∃C,o=.ref C/\ExOne K x C:=by
 have q:=Xq.mp h x hx;rw[e]at q;cases o with
 |ref C =>
  refine⟨C,rfl,?_⟩;dsimp only at q;simp only[Xg,beq_iff_eq]at q;obtain⟨q1,q2,q3,q4⟩:=q;refine⟨jb6 q1,q2,?_,λc hc v ev=>?_⟩
  .split at q3
   .rename_i a ea;exact⟨a,ea,beq_iff_eq.mp q3⟩
   .cases q3
  .have z:=Xq.mp q4 c hc;rw[ev]at z;exact beq_iff_eq.mp z
 |_=>cases q
theorem jcd{K:k8y}{h₀:aD}{C:aa}{bmB:List a8}{newId:String}{x:af}{mg:k91}(X:K.In h₀)(hb:mg x=a3 (.ref C))(q:W.excIn K C bmB newId=a7):OwnCls x C bmB newId mg h₀:=by
 refine⟨hb,?_⟩;unfold W.excIn at q;split at q
 .rename_i dd cd sl ho;split at q
  .rename_i C' bm k0 k1 k2 k3 n k5 hm hs;simp only[Xg,beq_iff_eq,fU]at q;obtain⟨⟨⟨⟨⟨rfl,rfl⟩,hdel⟩,ht⟩,hok⟩,hni⟩:=q;obtain⟨nm,bs,mro,ns,qn,hd,sn,sub,ab,col,del⟩:=cd;dsimp only at hm hdel hok hni;subst hm hdel;have hsl:sl = #[k0,k1,k2,k3,a3 (.builtin n),k5]:=by obtain⟨l⟩:=sl;simp only at hs;rw[hs]
   subst hsl;exact⟨bm,ns,nm,qn,bs,hd,sn,sub,ab,col,dd,k0,k1,k2,k3,k5,_,X _ _ ho,.of_isNs (W.isNs_of_in X hok),W.nsMap_none_of_in X hok hni,W.tail_of_in X ht⟩
  .cases q
 .cases q
theorem DS.raiseE{X:Cx}{ρ:Rho}{e:ai}{x:af}{o:a8}{np cpos pos:aJ}{P:Po}(ha:Z8 X.K=a7)(hx:x∈jq)(hn:W.nsIn X.K ak x=a3 (a3 o))(hb:X.mg x=a3 o)(hK:X.K.In X.base)(hc:X.calm=a7)
  (he:∀σ H,Rep X.K ρ σ H->Qd X e σ H λ_ H'=>j4 H H') (hP:P.ex x ρ) (hg:Gl X x) (hdb:(x==k92)=a4) (hs:a9 [e] X.env=[(a4,ay e X.env)]):DS X ρ (.Raise (a3 (.Call (.Name x np) [e] [] cpos)) a5 pos) P:=by
 obtain⟨C,rfl,F⟩:=Vo ha hx hn;exact DS.raise (jcd hK hb F.ok.exc) gf (by decide +kernel) gf hc he hP hg hdb hs
theorem j08{K:k8y}{e C:aa}{o:cE}(k:XcOk K C):PySem.W.KitX K (.ref e) (.ref C) (λh=>h.get? e=a3 o/\o.cls=.ref C) where
 ty:=λ_ _ _ p=>p.2▸(PySem.W.Looks.ld p.1).andThen .now
 it:=λ_ _ X _=>by
  obtain⟨cdD,hcD⟩:=Xn.mp k.is;unfold W.clsIn at hcD;split at hcD
  .rename_i c' d' cd' sl' ho;intro A' Q' E' s' k q;unfold isType loadHead;exact a6 (wpAny_loadPart (k _ _ (X _ _ ho)) (aj q))
  .cases hcD
 ne:=λh tp dd its n sl X htp=>by
  obtain⟨cdD,hcD⟩:=Xn.mp k.is;refine Bool.eq_false_iff.mpr λq=>?_;have e:C=tp:=Value.ref.inj (beq_iff_eq.mp q);subst e;unfold W.clsIn at hcD;split at hcD
  .rename_i c' d' cd' sl' ho;have z:=(X _ _ ho).symm.trans htp;cases z
  .cases hcD
 ca:=λ{prog w A E Q s} X p hq=>by obtain⟨h,g,d,t,os⟩:=s;exact W.excls_attr X p.1 p.2 k.ga k.gt k.sub k.cls k.mro PySem.F.attr_ValueError.ga hq
section
variable{X:Cx}{pins pins':k90}{σ:St}{H:Hp}{s:ae}{xe:k8z}{e:aa}
theorem Inv.toPn(I:Inv X pins σ H s):Inv { X with pn:=X.pn++pins,xe:=xe } [] σ H s :=
 ⟨⟨I.ok.mod,I.ok.kind,I.ok.glob,I.ok.blt,I.ok.above,I.ok.inj,I.ok.has,I.ok.cab,I.ok.hd,I.ok.frames,I.ok.stk,I.ok.exf,I.ok.bs,I.ok.bsz,I.ok.noex,I.ok.exfs,I.ok.funs,I.ok.frf⟩,
  I.os,I.bare,I.base,I.loc,I.cell,I.free,I.freeC,λp hp=>I.pin p (by rw[Xo]at hp;exact hp),I.hok,I.len⟩
theorem Inv.ofPn(I:Inv { X with pn:=X.pn++pins,xe:=xe } pins' σ H s):Inv X pins σ H s :=
 ⟨⟨I.ok.mod,I.ok.kind,I.ok.glob,I.ok.blt,I.ok.above,I.ok.inj,I.ok.has,I.ok.cab,I.ok.hd,I.ok.frames,I.ok.stk,I.ok.exf,I.ok.bs,I.ok.bsz,I.ok.noex,I.ok.exfs,I.ok.funs,I.ok.frf⟩,
  I.os,I.bare,I.base,I.loc,I.cell,I.free,I.freeC,λp hp=>I.pin p (Xr _ hp),I.hok,I.len⟩
theorem Old.toPn{b:aa}(h:Old X pins b):Old { X with pn:=X.pn++pins,xe:=xe } pins' b:=by
 rcases h with h|⟨p,hp,e⟩|h|h
 .exact .inl h
 .exact .inr (.inl ⟨p,Xr _ hp,e⟩)
 .exact .inr (.inr (.inl h))
 .exact .inr (.inr (.inr h))
noncomputable abbrev Cx.hnd(X:Cx)(e:aa):Cx:={ X with A:=X.A.mark (a3 (.ref e)),calm:=a4,xe:=λ_ _=>False }
theorem Inv.toH(I:Inv X pins σ H s):Inv (X.hnd e) pins σ H s :=
 ⟨⟨I.ok.mod,I.ok.kind,I.ok.glob,I.ok.blt,I.ok.above,I.ok.inj,I.ok.has,I.ok.cab,(λz=>by cases z),I.ok.frames,I.ok.stk,I.ok.exf,I.ok.bs,I.ok.bsz,I.ok.noex,I.ok.exfs,I.ok.funs,I.ok.frf⟩,
  I.os,I.bare,I.base,I.loc,I.cell,I.free,I.freeC,I.pin,I.hok,I.len⟩
theorem Inv.ofH(ok:X.Ok)(I:Inv (X.hnd e) pins σ H s):Inv X pins σ H s:=⟨ok,I.os,I.bare,I.base,I.loc,I.cell,I.free,I.freeC,I.pin,I.hok,I.len⟩
end
theorem Rep.set_raw{K:k8y}{ρ:Rho}{σ:St}{H:Hp}{i:Nat}{a:aa}{o:cE}{x:af}(R:Rep K ρ σ H)(e:del H (owns ρ) a=a3 (.frz o (.own a)))(hx:W.nsIn K ak x=a3 (a3 o.cls)):Rep K (ρ.set i (.raw a o x)) (σ.set i (a3 (.ref a))) H:=by
 have sub:(owns (ρ.set i (.raw a o x))).Sublist (owns ρ):=ji rfl;have g:j4 (del H (owns ρ)) (del H (owns (ρ.set i (.raw a o x)))):=vy λb hb=>sub.subset hb;refine⟨by simp[R.len],λj d' h=>?_,λj a ds h=>?_,sub.nodup R.nd,λj a' o' x' h=>?_,R.tb⟩
 .rcases getElem?_set_of h with ⟨rfl,z,hl⟩|⟨n,h⟩
  .cases z
  .obtain⟨u,q,h⟩:=R.val j d' h;exact⟨u,by rw[qe n];exact q,h.mono g⟩
 .rcases getElem?_set_of h with ⟨rfl,z,_⟩|⟨n,h⟩
  .cases z
  .obtain⟨q,xs,h,l⟩:=R.own j a ds h;exact⟨by rw[qe n];exact q,xs,h,l.mono g⟩
 .rcases getElem?_set_of h with ⟨rfl,z,hl⟩|⟨n,h⟩
  .cases z;exact⟨Zg (by rw[R.len];exact hl),.inr ⟨g _ _ e,hx⟩⟩
  .obtain⟨q,h⟩:=R.raw j a' o' x' h;exact⟨by rw[qe n];exact q,h.mono g⟩
section
variable{X:Cx}{ρ:Rho}{i:Nat}{a:aa}{o:cE}{x y c c1 c2:af}{p p1 p2 p3 p4 p5 pos:aJ}{k:Bool}
theorem K6:Jt X (.builtin "isinstance") (λxs H Q=>∃(a:aa)(o:cE)(C:aa)(v:V)(u:a8)(b:Bool),xs=[.ref a,v]/\H a=a3 (.frz o (.own a))/\o.cls=.ref C/\XcOk X.K C/\(∀u',RelV v u'->u'=u)/\W.kitOne X.K (.ref C) u=a3 b/\Q (.bl b) H):=by rintro pins s σ H xs us Q I r ⟨a,o,C,v,u,b,e,ha,hc,hk,hv,kk,q⟩;subst e;obtain⟨u1,u2,eu,r1,r2⟩:=vals2 r;subst eu;cases(show u1=aC a from r1);cases hv u2 r2;exact W.kia_one (j08 hk) I.kIn ⟨(I.hok a _ ha).1,hc⟩ kk (λz=>nomatch z) λtk=>⟨.bl b,H,I.tok tk,rfl,q⟩
theorem j7c:Jt X (.builtin "isinstance") (λxs H Q=>∃(a t:aa)(o:cE)(C C1 C2:aa)(b:Bool),xs=[.ref a,.ref t]/\H a=a3 (.frz o (.own a))/\o.cls=.ref C/\XcOk X.K C/\SqT X.K H t [.ref C1,.ref C2]/\W.kitAny X.K (.ref C) [.ref C1,.ref C2]=a3 b/\Q (.bl b) H):=by rintro pins s σ H xs us Q I r ⟨a,t,o,C,C1,C2,b,e,ha,hc,hk,sq,kk,q⟩;subst e;obtain⟨u1,u2,eu,r1,r2⟩:=vals2 r;subst eu;cases(show u1=aC a from r1);cases(show u2=aC t from r2);obtain⟨its,rv,⟨⟨cl,dd,da,sl⟩,h1,h2,n,h3⟩,_⟩:=I.tuple sq;have h2:cl=.type "tuple":=h2;have h3:da=.seq its.toArray n:=h3;subst h2 h3;obtain⟨v1,v2,ei,q1,q2⟩:=vals2 rv;subst ei;cases(show v1=aC C1 from q1);cases(show v2=aC C2 from q2);exact W.kia_tup (j08 hk) I.kIn ⟨(I.hok a _ ha).1,hc⟩ h1 kk (λz=>nomatch z) λtk=>⟨.bl b,H,I.tok tk,rfl,q⟩
theorem Em{σ:St}{H:Hp}(ha:Z8 X.K=a7)(hx:x∈jq)(R:Rep X.K ρ σ H)(h:ρ[i]?=a3 (.raw a o x)):σ[i]?=a3 (a3 (.ref a))/\H a=a3 (.frz o (.own a))/\∃C,o.cls=.ref C/\ExOne X.K x C:=by obtain⟨q,z⟩:=R.raw i a o x h;obtain⟨z,n⟩:=z.resolve_left λe=>absurd (e▸hx) (by decide);obtain⟨C,e,F⟩:=Vo ha hx n;exact⟨q,(of_del z).2,C,e,F⟩
theorem DE.isxV (ha:Z8 X.K=a7) (hx:x∈jq) (h:ρ[i]?=a3 (.raw a o x)) (hm:X.mg "isinstance" = a5) (hT:X.mg "ValueError" = a5) (hN:X.N[i]?=a3 y) (hv:Vis X.env.scope y) (hd:(y==k92)=a4) (hcd:(y==k93)=a4)
  (hg:Gl X "isinstance") (hg2:Gl X "ValueError") (hs:a9 [.Name y p1,.Name "ValueError" p2] X.env=(a4,ay (.Name y p1) X.env)::a9 [.Name "ValueError" p2] X.env) (hs2:a9 [.Name "ValueError" p2] X.env=(a4,ay (.Name "ValueError" p2) X.env)::a9 [] X.env)
  (hpl:(aO pos (a9 [.Name "ValueError" p2] X.env)).any (·.1)=a4):DE X ρ (.Call (.Name "isinstance" p) [.Name y p1,.Name "ValueError" p2] [] pos) (.bl a7):=λσ H Q R q=>by
 obtain⟨q1,q2,C,e,F⟩:=Em ha hx R h;exact(v8 K6 hg hm ic (jc (Jk hN hv hd hcd) (jc (jja hg2 hT (by decide +kernel)) jr hs2) hs) (by decide) (by decide) hs hpl).to ⟨.ref a,q1,a,o,C,.ty "ValueError",.type "ValueError",a7,rfl,q2,e,F.ok,λu' r=>r,F.val,q _ H (j4.refl H) rfl⟩
theorem DE.isx1 {v:a8} (ha:Z8 X.K=a7) (hx:x∈jq) (h:ρ[i]?=a3 (.raw a o x)) (hm:X.mg "isinstance" = a5) (hc:c∈jq) (hn:W.nsIn X.K ak c=a3 (a3 v)) (hT:X.mg c=a3 v) (hN:X.N[i]?=a3 y) (hv:Vis X.env.scope y) (hd:(y==k92)=a4) (hcd:(y==k93)=a4)
  (hg:Gl X "isinstance") (hg2:Gl X c) (hdb:(c==k92)=a4) (hs:a9 [.Name y p1,.Name c p2] X.env=(a4,ay (.Name y p1) X.env)::a9 [.Name c p2] X.env) (hs2:a9 [.Name c p2] X.env=(a4,ay (.Name c p2) X.env)::a9 [] X.env)
  (hpl:(aO pos (a9 [.Name c p2] X.env)).any (·.1)=a4):DE X ρ (.Call (.Name "isinstance" p) [.Name y p1,.Name c p2] [] pos) (.bl (x==c)):=λσ H Q R q=>by
 obtain⟨q1,q2,C,e,F⟩:=Em ha hx R h;obtain⟨C',rfl,_⟩:=Vo ha hc hn;exact(v8 K6 hg hm ic (jc (Jk hN hv hd hcd) (jc (Mx (v:=.ref C') hg2 hT rfl hdb) jr hs2) hs) (by decide) (by decide) hs hpl).to ⟨.ref a,q1,a,o,C,.ref C',.ref C',x==c,rfl,q2,e,F.ok,λu' r=>r,F.one c hc _ hn,q _ H (j4.refl H) rfl⟩
theorem DE.isx2 {v1 v2:a8} {m:Nat} (ha:Z8 X.K=a7) (hx:x∈jq) (h:ρ[i]?=a3 (.raw a o x)) (hm:X.mg "isinstance" = a5) (hc1:c1∈jq) (hc2:c2∈jq) (hn1:W.nsIn X.K ak c1=a3 (a3 v1)) (hn2:W.nsIn X.K ak c2=a3 (a3 v2))
  (hT1:X.mg c1=a3 v1) (hT2:X.mg c2=a3 v2) (hN:X.N[i]?=a3 y) (hv:Vis X.env.scope y) (hd:(y==k92)=a4) (hcd:(y==k93)=a4) (hg:Gl X "isinstance") (hg1:Gl X c1) (hg2:Gl X c2) (hdb1:(c1==k92)=a4) (hdb2:(c2==k92)=a4)
  (hs:a9 [.Name y p1,.Tuple [.Name c1 p2,.Name c2 p3] m p4] X.env=(a4,ay (.Name y p1) X.env)::a9 [.Tuple [.Name c1 p2,.Name c2 p3] m p4] X.env)
  (hs2:a9 [.Tuple [.Name c1 p2,.Name c2 p3] m p4] X.env=(a4,ay (.Tuple [.Name c1 p2,.Name c2 p3] m p4) X.env)::a9 [] X.env) (hpl:(aO pos (a9 [.Tuple [.Name c1 p2,.Name c2 p3] m p4] X.env)).any (·.1)=a4)
  (hs3:a9 [.Name c1 p2,.Name c2 p3] X.env=(a4,ay (.Name c1 p2) X.env)::a9 [.Name c2 p3] X.env) (hs4:a9 [.Name c2 p3] X.env=(a4,ay (.Name c2 p3) X.env)::a9 [] X.env) :
  DE X ρ (.Call (.Name "isinstance" p) [.Name y p1,.Tuple [.Name c1 p2,.Name c2 p3] m p4] [] pos) (.bl (x==c1 || x==c2)):=λσ H Q R q=>by
 obtain⟨q1,q2,C,e,F⟩:=Em ha hx R h;obtain⟨C1,rfl,_⟩:=Vo ha hc1 hn1;obtain⟨C2,rfl,_⟩:=Vo ha hc2 hn2;have kk:W.kitAny X.K (.ref C) [.ref C1,.ref C2]=a3 (x==c1 || x==c2):=by
  unfold W.kitAny;rw[F.one c1 hc1 _ hn1];cases(x==c1)
  .unfold W.kitAny;rw[F.one c2 hc2 _ hn2];cases(x==c2)<;>rfl
  .rfl
 exact(v8 j7c hg hm ic (jc (Jk hN hv hd hcd) (jc (j5r (jc (Mx (v:=.ref C1) hg1 hT1 rfl hdb1) (jc (Mx (v:=.ref C2) hg2 hT2 rfl hdb2) jr hs4) hs3)) jr hs2) hs) (by decide) (by decide) hs hpl).to
  ⟨.ref a,q1,by show 2<=aq;decide,λt ht=>⟨a,t,o,C,C1,C2,_,rfl,by rw[jb (λz=>by rw[z,ht]at q2;cases q2)];exact q2,e,F.ok,.inl (.inl j9),kk,q _ _ (j7 ht) rfl⟩⟩
end
structure KindsP(P:au)(w:aA)(K:k8y)(mg:k91)(base:aD)(f x:af)(l:List D):Prop where
 ex:∃fa:aa,mg f=a3 (.ref fa)/\W.keepIn K (.ref fa)=a7/\∀(A:aB)(outer:List cH)(s:ae)(H:Hp)(e:aa)(o:cE),A.depth+4<bH->A.units+150<aM->Env0 P w K mg base A outer s H->TabOk K H ->
  H e=a3 (.frz o (.own e))->W.nsIn K ak x=a3 (a3 o.cls) ->
  bK (aw P w) A (.call (.ref fa) ⟨[.ref e],[]⟩) (CR CX0 outer P w H s (λv H'=>∃a xs,v=.ref a/\j4 H H'/\H a=a5/\H' a=a3 (.lst xs)/\j5 K (del H' [a]) l xs) E0) s
 nl:jz l=a7
abbrev Kinds(X:Cx)(f x:af)(l:List D):Prop:=KindsP X.prog X.w X.K X.mg X.base f x l
section
variable{X:Cx}{ρ:Rho}{i j:Nat}{e:aa}{o:cE}{f x n k A:af}{l:List D}{P:Po}{body:List aP}{p p1 p2 p3 p4 p5 pos hpos:aJ}
theorem DO.kinds (c:Kinds X f x l) (hx:x∈jq) (h:ρ[j]?=a3 (.raw e o x)) (hdp:X.A.depth+4<bH) (hun:X.A.units+150<aM) (hg:Gl X f) (hdb:(f==k92)=a4) (hN:X.N[j]?=a3 n) (hv:Vis X.env.scope n) (hd:(n==k92)=a4) (hcd:(n==k93)=a4)
  (he:a9 [.Name n p1] X.env=(a4,ay (.Name n p1) X.env)::a9 [] X.env) (hpl:(aO p2 (a9 [] X.env)).any (·.1)=a4):DO X ρ (.Call (.Name f p) [.Name n p1] [] p2) l:=λσ H Q R q pins s I=>by
 obtain⟨fa,hm,hk,run⟩:=c.ex;obtain⟨q1,q2⟩:=R.raw j e o x h;obtain⟨q2,q3⟩:=q2.resolve_left λe=>absurd (e▸hx) (by decide);refine aT (Zy I hg hm ?_ hdb);refine W.callWith_K (h₀:=X.base) I.ok.mod.kin hk (thn ((jc (Jk hN hv hd hcd) jr he).to (σ:=σ) (H:=H) (Q:=λvs H1=>vs=[.ref e]/\H1=H) ⟨.ref e,q1,rfl,rfl⟩ p2 pins s I) λus s1 ⟨vs,H1,I1,r,e1,e2⟩=>⟨I1.kIn,?_⟩) he hpl;subst e1 e2;obtain⟨u,eu,r1⟩:=vals1 r;subst eu;cases(show u=aC e from r1);refine gk (bA (run X.A X.stack s1 H1 e o hdp hun I1.env0 R.tb (of_del q2).2 q3) λr s' hq=>?_);cases r with
 |error e=>exact hq.elim
 |ok fl =>
  cases fl with
  |ret u =>
   obtain⟨v,H',I',rv,a,xs,ev,g,na,m,en⟩:=I1.after hq;refine⟨v,H',I',rv,?_⟩;subst ev;exact q a xs H' g na m ((en.mono jo).hide (λc hc=>by
    rcases xm.mp hc with z|z
    .rw[z];exact .inl ⟨xs,m⟩
    .exact .inl ((R.grow g).owned c z)) c.nl)
  |next=>exact b8 hq
  |brk=>exact b8 hq
  |cont=>exact b8 hq
theorem caught{pins:k90}{σ:St}{H H0:Hp}{s:ae}{C:a8}{E:Ends}{ρ0:Rho}(ha:Z8 X.K=a7)(hx:x∈jq)(hns:W.nsIn X.K ak x=a3 (a3 C))(c:Kinds X f x l)(hst:X.stack=X.env::X.outer)(hfm:X.env.frame=a3 X.env.locals)
  (hdp:X.A.depth+4<bH) (hun:X.A.units+150<aM) (I:Inv X pins σ H s) (R:Rep X.K ρ σ H) (Fe:FlQ (flF X.env) (Old X pins) H s.heap e C) (q:EndsOk X ρ0 H0 P E) (f0:Fr0 ρ0 ρ H0 H)
  (hP:∀oe a,P.nx (((ρ.set j (.raw e oe x)).set i (.own a l)).set j .un)) (hND:X.N.Nodup) (hgA:Gl X "AskError")
  (hg:Gl X f) (hdb:(f==k92)=a4) (hN:X.N[j]?=a3 n) (hlo:X.env.scope.names.lookup n=a3 .local) (hd:(n==k92)=a4) (hcd:(n==k93)=a4)
  (hi:X.N[i]?=a3 k) (hxk:Loc X.env.scope k) (hfk:X.fn k=a7\/X.env.scope.names.lookup k=a3 .local) (hfn:X.fn n=a7\/X.env.scope.names.lookup n=a3 .local)
  (hs:aS (.Call (.Name f p) [.Name n p1] [] p2) (a3 (.Name k p3)) p4.line X.env=pure a4)
  (he:a9 [.Name n p1] X.env=(a4,ay (.Name n p1) X.env)::a9 [] X.env) (hpl:(aO p2 (a9 [] X.env)).any (·.1)=a4) :
  ar (aw X.prog X.w) X.A (cZ (.ref e) X.env) (λ_ s₂=>ar (aw X.prog X.w) X.A (ja (.ref e) a5) (λ_ s₃ =>
   ar (aw X.prog X.w) X.A (handleBy (.ref e) X.env [.ExceptHandler (a3 (.Name "AskError" p5)) (a3 n) [.Assign [.Name k p3] (.Call (.Name f p) [.Name n p1] [] p2) p4] hpos]) (SP X pins E) X.xe s₃) X.xe s₂) X.xe s:=by
 obtain⟨Ca,rfl,F1⟩:=Vo ha hx hns;obtain⟨av,hav,hexm⟩:=F1.ask;have hma:X.mg "AskError" = a3 av:=W.mg_of I.mod.kin I.mod.glob hav;refine j26 I hst hfm hfm Fe λh1 I1 F1'=>?_;refine j2c I1 F1' λh2 I2 F2=>?_;refine wpAny_handleBy_cons (codeAny_handlers_test (Zy (X:=X.hnd e) (Inv.toH I2) hgA hma ?_)) (by intro q;cases q);obtain⟨oe,vs,a0,T,oT,ts,hoe,hoc,_⟩:=F2.obj;refine(W.exm_one I2.kIn (hoc▸(PySem.W.Looks.ld hoe).andThen .now) hexm).here ?_;refine codeAny_handlers_suite_as (j2c (X:=X) I2 F2 λh3 I3 F3=>?_);obtain⟨oe,vs,a0,T,oT,ts,hoe,hoc,_⟩:=F3.obj;have I4:=I3.track hoe F3.new F3.free;have g4:j4 H (upd H e (.frz oe (.own e))):=j7 F3.free;have R4:=R.grow g4;have ho:del (upd H e (.frz oe (.own e))) (owns ρ) e=a3 (.frz oe (.own e)):=by rw[j6 (R.fresh F3.free)];exact j9
 have hcls:W.nsIn X.K ak x=a3 (a3 oe.cls):=by rw[hoc];exact hns
 refine Rq (v:=.ref e) I4 hND hN (.inl hlo) rfl (λs5 I5 _=>?_) hfn;have R5:Rep X.K (ρ.set j (.raw e oe x)) (σ.set j (a3 (.ref e))) (upd H e (.frz oe (.own e))):=R4.set_raw ho hcls;have hj:(ρ.set j (.raw e oe x))[j]?=a3 (.raw e oe x):=Zg (by
  have z:=(Xa.mp hN).1
  rw[<-R.len,I.len];exact z)
 have suite:DSs (X.hnd e) (ρ.set j (.raw e oe x)) [.Assign [.Name k p3] (.Call (.Name f p) [.Name n p1] [] p2) p4] { nx:=λρ3=>∃a,ρ3=(ρ.set j (.raw e oe x)).set i (.own a l),rt:=λ_=>False } :=
  DSs.last (DS.setO i (DO.kinds (X:=X.hnd e) ⟨c.ex,c.nl⟩ hx hj hdp hun hg hdb hN (.inl hlo) hd hcd he hpl) (λa=>⟨a,rfl⟩) hND hi hxk hs hfk)
 have run:=suite _ _ { nx:=λσ6 H6=>∃a,Rep X.K ((ρ.set j (.raw e oe x)).set i (.own a l)) σ6 H6/\Fr0 (ρ.set j (.raw e oe x)) ((ρ.set j (.raw e oe x)).set i (.own a l)) (upd H e (.frz oe (.own e))) H6,rt:=λ_ _=>False,bk:=λ_ _=>False,ct:=λ_ _=>False } R5
  ⟨λρ' σ' H' ⟨a,er⟩ R' f=>⟨a,er▸R',er▸f⟩,λ_ _ _ z=>z.elim,λ_ _ _ z=>z.elim,λ_ _ _ z=>z.elim,λ_ _ _ _ z=>z.elim⟩ pins s5 (Inv.toH I5)
 refine aI run (λfl s6 h6=>?_) λ_ _ z=>z.elim;cases fl with
 |next =>obtain⟨σ6,H6,I6,a,R6,f6⟩:=h6;refine jd1 (X:=X) (Inv.ofH I.ok I6) hND hN hlo λs7 I7=>?_;refine⟨_,H6,I7,q.nx _ _ H6 (hP oe a) R6.set_un ?_⟩;refine f0.trans (j4.trans (Fr0.grow g4) (j4.trans (Fr0.drop λb hb=>(ji rfl).subset hb) (j4.trans f6 (Fr0.drop λb hb=>(ji rfl).subset hb))))
 |ret u=>obtain⟨_,_,_,_,_,_,_,z⟩:=h6;exact z.elim
 |brk=>obtain⟨_,_,_,z⟩:=h6;exact z.elim
 |cont=>obtain⟨_,_,_,z⟩:=h6;exact z.elim
end
section
variable{X:Cx}{ρ:Rho}{i j:Nat}{f n k:af}{P:Po}{body:List aP}{p p1 p2 p3 p4 p5 pos hpos:aJ}
noncomputable def Po.caught(P:Po)(X:Cx)(f:af)(i j:Nat):Po:={ P with ex:=λx ρ'=>x∈jq/\(∃o,W.nsIn X.K ak x=a3 (a3 o))/\∃l,Kinds X f x l/\∀e oe a,P.nx (((ρ'.set j (.raw e oe x)).set i (.own a l)).set j .un) }
theorem DS.tryK(hb:∀pn xe,d5 (aw X.prog X.w) X.A X.env xe->DSs { X with pn:=pn,xe:=xe } ρ body (P.caught X f i j))(ha:Z8 X.K=a7)(hst:X.stack=X.env::X.outer)(hfm:X.env.frame=a3 X.env.locals)(hdp:X.A.depth+4<bH)(hun:X.A.units+150<aM)
  (hND:X.N.Nodup) (hgA:Gl X "AskError") (hg:Gl X f) (hdb:(f==k92)=a4) (hN:X.N[j]?=a3 n) (hlo:X.env.scope.names.lookup n=a3 .local) (hd:(n==k92)=a4) (hcd:(n==k93)=a4)
  (hi:X.N[i]?=a3 k) (hxk:Loc X.env.scope k) (hfk:X.fn k=a7\/X.env.scope.names.lookup k=a3 .local) (hfn:X.fn n=a7\/X.env.scope.names.lookup n=a3 .local)
  (hs:aS (.Call (.Name f p) [.Name n p1] [] p2) (a3 (.Name k p3)) p4.line X.env=pure a4)
  (he:a9 [.Name n p1] X.env=(a4,ay (.Name n p1) X.env)::a9 [] X.env) (hpl:(aO p2 (a9 [] X.env)).any (·.1)=a4) :
  DS X ρ (.Try body [.ExceptHandler (a3 (.Name "AskError" p5)) (a3 n) [.Assign [.Name k p3] (.Call (.Name f p) [.Name n p1] [] p2) p4] hpos] [] [] pos) P:=λσ H E R q pins s I=>by
 refine wpAny_Try_except ?_;refine aI (hb (X.pn++pins) (λe s₁=>ar (aw X.prog X.w) X.A (cZ e X.env) (λ_ s₂=>ar (aw X.prog X.w) X.A (ja e a5) (λ_ s₃ =>
   ar (aw X.prog X.w) X.A (handleBy e X.env [.ExceptHandler (a3 (.Name "AskError" p5)) (a3 n) [.Assign [.Name k p3] (.Call (.Name f p) [.Name n p1] [] p2) p4] hpos]) (SP X pins E) X.xe s₃) X.xe s₂) X.xe s₁) ik
  σ H E R ⟨q.nx,q.bk,q.ct,q.rt,λx ρ' σ' H' hP R' f'=>?_⟩ [] s I.toPn) (λfl s1 h1=>?_) λ_ _ z=>z
 .obtain⟨hx,⟨o,ho⟩,l,kd,hnx⟩:=hP;intro pins' H2 s' e C I' g hm Fe;have I2:Inv X pins σ' H2 s':=Inv.ofPn I';have hm2:X.mg x=a3 o:=W.mg_of I2.mod.kin I2.mod.glob ho;cases(show a3 C=a3 o from(show X.mg x=a3 C from hm).symm.trans hm2);exact caught ha hx ho kd hst hfm hdp hun I2 (R'.grow g) (FlQ.up Fe (λ_ z=>z) λb hb=>hb.toPn) q (f'.trans (Fr0.grow g)) (λoe a=>hnx e oe a) hND hgA hg hdb hN hlo hd hcd hi hxk hfk hfn hs he hpl
 .cases fl with
  |next =>obtain⟨σ',H',I',z⟩:=h1;exact(j21 (X:=X)).to z pins s1 (Inv.ofPn I')
  |ret u =>obtain⟨v,σ',H',H2,I',r,x2,z⟩:=h1;exact⟨v,σ',H',H2,Inv.ofPn I',r,x2,z⟩
  |brk=>obtain⟨σ',H',I',z⟩:=h1;exact⟨σ',H',Inv.ofPn I',z⟩
  |cont=>obtain⟨σ',H',I',z⟩:=h1;exact⟨σ',H',Inv.ofPn I',z⟩
end
section
variable{P:au}{w:aA}{K:k8y}{mg:k91}{base:aD}{f:aa}{g x pn:af}{st:aP}{fd:aG}{N:List af}{l:List D}
theorem jc1{H:Hp}{e:aa}{o:cE}(tb:TabOk K H)(hN:1<=N.length)(h:H e=a3 (.frz o (.own e)))(hx:W.nsIn K ak x=a3 (a3 o.cls)):Rep K (.raw e o x::ah (N.length-1) .un) (start N [.ref e]) H:=by
 have ho:owns (.raw e o x::ah (N.length-1) .un)=[]:=by
  rw[jl];show owns _=[]
  exact List.filterMap_eq_nil_iff.mpr λs hs=>by rw[(Tc.mp hs).2];rfl
 have un:∀(i:Nat)(s:Sl),(.raw e o x::ah (N.length-1) .un:Rho)[i]?=a3 s->(i=0/\s=.raw e o x)\/s=.un:=λi s q=>by
  cases i with
  |zero=>rw[ie]at q;cases q;exact .inl ⟨rfl,rfl⟩
  |succ i=>rw[cA]at q;exact .inr (Tc.mp (Xm q)).2
 refine⟨by unfold start;simp,λi d q=>?_,λi a ds q=>?_,by rw[ho];exact eP,λi a o' x' q=>?_,tb⟩
 .rcases un i _ q with ⟨_,z⟩|z<;>cases z
 .rcases un i _ q with ⟨_,z⟩|z<;>cases z
 .rcases un i _ q with ⟨z,z2⟩|z
  .cases z2;subst z;exact⟨rfl,.inr ⟨by rw[ho,zy];exact h,hx⟩⟩
  .cases z
theorem kinds_of(F:Fun K g g st f fd)(Sc:FnScope N [pn] (j0 st))(hbd:Binds K fd [pn] [])(hm:mg g=a3 (.ref f))(hN:1<=N.length)(hnl:jz l=a7)
  (hbody:∀(cdv:a8)(A:aB)(outer:List cH)(s:ae)(H:Hp)(e:aa)(o:cE),A.depth+4<bH->A.units+150<aM ->
   DSs { (qi CX0 P w K mg base N g (j0 st) f cdv A outer s H E0).nox with calm:=a4 } (.raw e o x::ah (N.length-1) .un) (jd st) { nx:=λ_=>False,rt:=λr=>r=.fresh l }):KindsP P w K mg base g x l:=by
 refine⟨⟨f,hm,F.kp,λA outer s H e o hdp hun e0 tb he hx=>?_⟩,hnl⟩;obtain⟨oc,od,dV,kV,doc,pm,an,cdv,ct,osl,rfl,lk,hcd⟩:=F.ex;have KX:K.In s.heap:=e0.mod.kin.keeps λb o e=>(e0.bs b o e).1;have lim:s.heap.NoLimit:=e0.mod.nolimit.keeps λb o e=>(e0.bs b o e).1;have hb:=hbd s [.ref e] KX rfl;have hkind:∀y∈[pn].zip [aC e],(j0 st).names.lookup y.1=a3 .local\/((j0 st).names.lookup y.1=a3 .cell/\((aQ (s.heap.objs.size+1) (j0 st).names []).lookup y.1).isSome=a7):=λ⟨n,v⟩ hy=>by
  rcases Sc.par n (cV hy).1 with q|q
  .exact .inl q
  .exact .inr ⟨q,W.cellsFrom_some _ _ _ (.inl q)⟩
 refine kn nofun (KX _ _ lk) rfl Sc.co Sc.gen rfl (W.codeRec_of KX hcd) (hb _ _ _ _ ?_);refine iE Sc.kind hkind λenv henv s1 x1=>?_;subst henv;refine⟨lim.keeps x1.toInCall.keep,codeAny_func ?_⟩;have I:Inv { qi CX0 P w K mg base N g (j0 st) f cdv A outer s H E0 with calm:=a4 } [] (start N [.ref e]) H s1:=Lq Sc a4 (λz=>by cases z) e0 rfl (.cons rfl .nil) x1;have I':Inv { (qi CX0 P w K mg base N g (j0 st) f cdv A outer s H E0).nox with calm:=a4 } [] (start N [.ref e]) H s1 :=
  ⟨⟨I.ok.mod,I.ok.kind,I.ok.glob,I.ok.blt,I.ok.above,I.ok.inj,I.ok.has,I.ok.cab,I.ok.hd,I.ok.frames,I.ok.stk,I.ok.exf,I.ok.bs,I.ok.bsz,I.ok.noex,I.ok.exfs,I.ok.funs,I.ok.frf⟩,
   I.os,I.bare,I.base,I.loc,I.cell,I.free,I.freeC,I.pin,I.hok,I.len⟩
 have ho:owns (.raw e o x::ah (N.length-1) .un)=[]:=by
  rw[jl];show owns _=[]
  exact List.filterMap_eq_nil_iff.mpr λs hs=>by rw[(Tc.mp hs).2];rfl
 have run:=hbody cdv A outer s H e o hdp hun (start N [.ref e]) H { nx:=λ_ _=>False,bk:=λ_ _=>False,ct:=λ_ _=>False,rt:=λv H'=>∃a xs,v=.ref a/\j4 H H'/\H a=a5/\H' a=a3 (.lst xs)/\j5 K (del H' [a]) l xs } (jc1 tb hN he hx)
  ⟨λ_ _ _ z=>z.elim,λ_ _ _ z=>z.elim,λ_ _ _ z=>z.elim,(λr v H' n z=>by
   cases(show r=.fresh l from n)
   obtain⟨a,xs,e,g,m,en⟩:=z
   rw[ho,zy]at g
   refine⟨a,xs,e,g.trans jo,?_,m,en⟩
   cases y:H a with
   |none=>rfl
   |some o=>have:=g a o y;rw[qj (xg.mpr rfl)]at this;cases this),λ_ _ _ _ z=>z.elim⟩ [] s1 I'
 refine aI run (λfl s' hs=>?_) λ_ _ z=>z.elim;cases fl with
 |ret u =>obtain⟨v,σ',H',H2,J,rv,x,q⟩:=hs;exact⟨v,H2,J.os,J.bare,(J.extOut x).2 rfl,(J.extOut x).1,rv,q⟩
 |next=>obtain⟨_,_,_,q⟩:=hs;exact q.elim
 |brk=>obtain⟨_,_,_,q⟩:=hs;exact q.elim
 |cont=>obtain⟨_,_,_,q⟩:=hs;exact q.elim
end
section
variable{X:Cx}
def jlo:V->Option Int->Option Int->Hp->VK->Prop:=λx lo hi H Q=>∃z,x=.str z/\z.length<=aq/\Q (.str (bg z lo hi)) H
theorem part_of{v:a8}{o:Option Int}(h:fG v o):∃l:Option (Int×iq),v=partValue l/\l.map (·.1)=o:=by
 cases h with
 |none=>exact⟨a5,rfl,rfl⟩
 |int i t=>exact⟨a3 (i,t),rfl,rfl⟩
theorem jeh:SlR X jlo:=by intro pins s σ H x v vl vu lo hi sl Q I rx hs pl pu h;obtain⟨z,ex,hz,q⟩:=h;subst ex;obtain⟨t,ev⟩:=rx;subst ev;obtain⟨l,el,ml⟩:=part_of pl;obtain⟨u,eu,mu⟩:=part_of pu;subst el eu ml mu;obtain⟨o,h1,h2,h3⟩:=hs;refine⟨"str",_,PySem.F.slot_str_getitem.lookup,gm s z t,wpAny_getItem_str_slice (l:=l) (u:=u) (st:=a5) ⟨o,h1,h2,h3⟩ rfl ?_⟩;exact post_val_or_str ⟨Xi (Txt.slice_le z _ _) hz,λt' k=>⟨.str _,H,I.tok k,⟨_,rfl⟩,q⟩⟩
theorem j1s:∀{ts:List af}{us:List a8},Vals (ts.map V.str) us->∃l:List (af×iq),us=strValues l/\l.map (·.1)=ts
 |[],_,r=>by cases r;exact⟨[],rfl,rfl⟩
 |t::ts,_,r=>by
  cases r with
  |cons a b =>obtain⟨k,e⟩:=a;obtain⟨l,e1,e2⟩:=j1s b;subst e e1 e2;exact⟨(t,k)::l,rfl,rfl⟩
theorem jcj:MtR X "str.join" (λx vs H Q=>∃(sep:af)(l:aa)(ts:List af),x=.str sep/\vs=[.ref l]/\SqL X.K H l (ts.map V.str)/\fF sep ts=a7/\Q (.str (eS sep ts)) H):=by rintro pins s σ H x vs v us Q I rx rv ⟨sep,l,ts,e,e',sq,hok,q⟩;subst e e';obtain⟨t,ev⟩:=rx;subst ev;obtain⟨u,eu,ru⟩:=rv.one;subst eu;cases ru;obtain⟨its,ri,pl,_⟩:=I.list sq;obtain⟨ps,e1,e2⟩:=j1s ri;subst e1 e2;unfold fF at hok;rw[fU]at hok;exact bD j1 (gm _ _ _) F.entry_str_join (F.args_str_join_2 _ _) (meets_str_join_list sep t l ps hok) ⟨pl.isList,post_join ps ⟨joinFit_length hok,λt' k=>⟨.str _,H,I.tok k,⟨_,rfl⟩,q⟩⟩⟩
theorem j77 (hc:X.calm=a7):Jt X (.builtin "sum") (λxs H Q=>∃(lst:Bool)(l:aa)(ns:List Int),xs=[.ref l]/\SqB X.K lst H l (ns.map V.int)/\Q (.int ns.sum) H):=by
 rintro pins s σ H xs us Q I r ⟨lst,l,ns,e,sq,q⟩;subst e;obtain⟨u,eu,ru⟩:=vals1 r;subst eu;cases ru;obtain⟨its,rv,pl,_⟩:=I.side sq;have hl:its.length=ns.length:=by rw[<-rv.length,xj]
 have val:∀i v,its.toArray[i]?=a3 v->∃t,v=bj (ns.getD i 0) t:=by
  intro i v hv;have hi:i<its.length:=by obtain⟨h,_⟩:=T8.mp hv;simpa using h
  have hi':i<ns.length:=by omega
  obtain⟨w1,hw,rw1⟩:=rv.get (x:=.int (ns.getD i 0)) (i:=i) (by rw[X7,kh hi',km,kh hi'];rfl);have:its.toArray[i]?=a3 w1:=by simpa using hw
  rw[this]at hv;cases hv;exact rw1
 have tot:preSum (λi=>ns.getD i 0) its.toArray.size=ns.sum:=by rw[preSum_getD,Tj (by rw[X5];omega)]
 have fin:∀(o:cE)(s':ae)(t':iq),Moved [s.heap.objs.size] (λa b=>b=a) { s with heap:=s.heap.push o } s'->EP X pins σ Q (.int (preSum (λi=>ns.getD i 0) its.toArray.size) t') s':=λo s' t' mv=>by obtain⟨hh,gg,dd,tt,oo⟩:=s';obtain⟨m1,m2,m3,m4,m5⟩:=mv;cases m2;cases m3;cases m4;rw[tot];refine⟨.int _,H,I.kept (t':=tt) λb o e=>m1 b o ?_ (xn _ e),⟨_,rfl⟩,q⟩;intro z;rw[xg.mp z]at e;exact Xx _ (xq e)
 unfold ql at pl;cases lst with
 |true =>
  rw[if_pos rfl]at pl;have hlt:l<s.heap.objs.size:=by obtain⟨_,e,_⟩:=pl;exact xq e
  refine lB (bU pl ⟨s.heap.objs.size,[s.heap.objs.size,l],[s.heap.objs.size],_,its.toArray.size,_,_,λi=>ns.getD i 0,rfl,(Walks.list (A:=X.A.in1) (I.ok.hd hc) _ _ (X8 hlt) its.toArray).toS,⟨⟨_,X4 _ rfl,rfl,rfl⟩,pl.push _⟩,?_,val,λs' t' mv=>fin _ s' t' mv⟩);intro b hb;show b<(s.heap.push _).objs.size;rw[bQ];rcases xm.mp hb with z|z
  .rw[z];exact dY _
  .rw[xg.mp z];exact dJ hlt
 |false =>
  rw[if_neg xf]at pl;have hlt:l<s.heap.objs.size:=by obtain⟨_,e,_⟩:=pl;exact xq e
  refine lB (gj pl ⟨s.heap.objs.size,[s.heap.objs.size,l],[s.heap.objs.size],_,its.toArray.size,_,_,λi=>ns.getD i 0,rfl,(Walks.tuple (A:=X.A.in1) (I.ok.hd hc) _ _ (X8 hlt) its.toArray).toS,⟨⟨_,X4 _ rfl,rfl,rfl⟩,pl.push _⟩,?_,val,λs' t' mv=>fin _ s' t' mv⟩);intro b hb;show b<(s.heap.push _).objs.size;rw[bQ];rcases xm.mp hb with z|z
  .rw[z];exact dY _
  .rw[xg.mp z];exact dJ hlt
end
section
variable{X:Cx}{ρ:Rho}{a b e:ai}{ds:List D}{i j:Int}{pos p p1 p2:aJ}{y z:af}{lo hi:Option ai}{l u:Option Int}
theorem Lw{K:k8y}{H:Hp}:∀{ts:List af}{xs:List V},j5 K H (ts.map D.str) xs->xs=ts.map V.str
 |[],_,h=>h
 |t::ts,_,⟨x,r,e,h,l⟩=>by subst e;cases(show x=.str t from h);rw[Lw l];rfl
theorem J9{K:k8y}{H:Hp}:∀{ts:List Int}{xs:List V},j5 K H (ts.map D.int) xs->xs=ts.map V.int
 |[],_,h=>h
 |t::ts,_,⟨x,r,e,h,l⟩=>by subst e;cases(show x=.int t from h);rw[J9 l];rfl
theorem DE.lenS (ha:DT X ρ a (.str y)) (hy:y.length<=aq) (hm:X.mg "len" = a5) (hg:Gl X "len") (hs:a9 [a] X.env=[(a4,ay a X.env)]):DE X ρ (.Call (.Name "len" p) [a] [] pos) (.int y.length):=λσ H Q R q =>(v8 j0w hg hm gK (jc peS jr hs) (by decide) (by decide) hs).to (ha σ H _ R λv H1 g1 e1=>⟨y,by rw[show v=.str y from e1],hy,q _ H1 g1 rfl⟩)
theorem DE.catS(ha:DT X ρ a (.str y))(hb:DT X ρ b (.str z))(hl:y.length+z.length<=aq):DE X ρ (.BinOp a .Add b pos) (.str (y++z)):=λσ H Q R q =>(Ui j3l peS peS).to (ha σ H _ R λv H1 g1 e1=>hb σ H1 _ (R.grow g1) λu H2 g2 e2=>⟨y,z,e1,e2,hl,q _ H2 (g1.trans g2) rfl⟩)
theorem DE.ixC{c:Nat}(ha:DT X ρ a (.str y))(hb:DT X ρ b (.int i))(hy:y.length<=aq)(h:L2.atI y.cps.toList i=a3 c)(hs:Ys b):DE X ρ (.Subscript a b pos) (.str ⟨#[c]⟩):=λσ H Q R q =>(Wl jgf peS peS hs).to (ha σ H _ R λv H1 g1 e1=>hb σ H1 _ (R.grow g1) λu H2 g2 e2=>⟨y,i,c,e1,e2,hy,h,q _ H2 (g1.trans g2) rfl⟩)
theorem DE.sliceS(ha:DT X ρ a (.str y))(hl:DP X ρ lo l)(hu:DP X ρ hi u)(hy:y.length<=aq):DE X ρ (.Subscript a (.Slice lo hi a5 p2) pos) (.str (bg y l u)):=λσ H Q R q =>(Bd jeh peS poS poS).to (ha σ H _ R λv H1 g1 e1=>hl σ H1 _ (R.grow g1) λH2 g2=>hu σ H2 _ (R.grow (g1.trans g2)) λH3 g3=>⟨y,e1,hy,q _ H3 (g1.trans (g2.trans g3)) rfl⟩)
theorem DE.int1 {k:Bool} (ha:DT X ρ a (.bl k)) (hm:X.mg "int" = a5) (hg:Gl X "int") (hs:a9 [a] X.env=[(a4,ay a X.env)]):DE X ρ (.Call (.Name "int" p) [a] [] pos) (.int (if k then 1 else 0)):=λσ H Q R q =>(Uj j7d hg hm boot_int (jc peS jr hs) (by decide) (by decide) hs).to (ha σ H _ R λv H1 g1 e1=>.inr ⟨k,by rw[show v=.bl k from e1],q _ H1 g1 rfl⟩)
theorem DE.sum (lst:Bool) {ns:List Int} (ha:DT X ρ a (D.seq lst (ns.map D.int))) (hm:X.mg "sum" = a5) (hc:X.calm=a7) (hg:Gl X "sum") (hs:a9 [a] X.env=[(a4,ay a X.env)]):DE X ρ (.Call (.Name "sum" p) [a] [] pos) (.int ns.sum):=λσ H Q R q =>
 (v8 (j77 hc) hg hm boot_sum (jc peS jr hs) (by decide) (by decide) hs).to (ha σ H _ R λv H1 g1 e1=>by
  obtain⟨t,xs,ev,sq,en⟩:=Vp e1
  subst ev
  rw[J9 en]at sq
  exact⟨lst,t,ns,rfl,sq,q _ H1 g1 rfl⟩)
theorem DE.join{sep:af}{ts:List af}{n:Nat}{p0:aJ}(ha:DT X ρ a (.lst (ts.map D.str)))(hok:fF sep ts=a7)
  (hfew:((aO p2 (a9 [a] X.env)).all (λx=>!x.1)&&(bB p2 (aY [] X.env)).all (λx=>x.1.isSome)&&decide (([a]:List ai).length+([]:List aZ).length+(if ([]:List aZ).isEmpty then 0 else 1)<30))=a7)
  (hbase:aL (.Constant (.str sep) n p0) "join" X.env (ay (.Constant (.str sep) n p0) X.env)=ay (.Constant (.str sep) n p0) X.env)
  (hline:(p1.endLine==p2.line)=a7) (hs:a9 [a] X.env=(a4,ay a X.env)::a9 [] X.env):DE X ρ (.Call (.Attribute (.Constant (.str sep) n p0) "join" p1) [a] [] p2) (.str (eS sep ts)):=λσ H Q R q =>
 (Wm gQ j1 PySem.F.type_str_join jcj j5s (jc peS jr hs) hbase hfew hline hs rfl).to ⟨rfl,ha σ H _ R λv H1 g1 ⟨t,xs,e,sq,en⟩=>⟨sep,t,ts,rfl,by rw[e],by rw[Lw en]at sq;exact sq,hok,q _ H1 g1 rfl⟩⟩
end
section
variable{prog:au}{w:aA}{A:aB}{lst:Bool}{j t:aa}{its:Array a8}
theorem j43(hh:A.handled=a5)(hne:t≠j):Draws prog w A j [j,t] its.size (λi v=>its[i]?=a3 v) (λi h=>qy lst h j t i/\ql lst h t its) where
 live:=λ_ _ st=>by obtain⟨o,e,_⟩:=st.1.obj;exact⟨o,e⟩
 frame:=λ_ h h' st hk=>⟨st.1.stay λo e=>hk j (by simp) o e,by
  have q:=st.2
  unfold ql at q ⊢
  cases lst with
  |true=>rw[if_pos rfl]at q ⊢;exact q.at λo e=>hk t (by simp) o e
  |false=>rw[if_neg xf]at q ⊢;exact q.at λo e=>hk t (by simp) o e⟩
 item:=λi s Q E hi st hQ=>j56 st.1 st.2 (y:=its[i]) (by simp[hi]) λh' hit' hs'=>hQ _ h' s.toks (by simp[hi]) ⟨hit',st.2.ext hs'.extBut hne⟩ hs'
 done:=λs Q E st hE=>Ec hh st.1 st.2 (by simp) hE
theorem j6m{n:Nat}(hh:A.handled=a5)(hne:t≠j)(hn:its[n]?=a5):Draws prog w A j [j,t] n (λi v=>its[i]?=a3 v) (λi h=>i=n/\qy lst h j t i/\ql lst h t its) where
 live:=λ_ _ st=>by obtain⟨o,e,_⟩:=st.2.1.obj;exact⟨o,e⟩
 frame:=λ_ h h' st hk=>⟨st.1,st.2.1.stay λo e=>hk j (by simp) o e,by
  have q:=st.2.2
  unfold ql at q ⊢
  cases lst with
  |true=>rw[if_pos rfl]at q ⊢;exact q.at λo e=>hk t (by simp) o e
  |false=>rw[if_neg xf]at q ⊢;exact q.at λo e=>hk t (by simp) o e⟩
 item:=λi s Q E hi st hQ=>absurd st.1 (X8 hi)
 done:=λs Q E st hE=>Ec hh st.2.1 st.2.2 hn hE
end
noncomputable abbrev eh2(h:aD)(lst:Bool)(t:aa):aD:=(zh1 h lst t).push { cls:=.type "enumerate",data:=.fields #[.none,.bool a4,.ref h.objs.size,cw 0,.none,.none] }
theorem j9e {lst:Bool} (t:aa) (its:Array a8):kC (d9.«enumerate.__new__» ⟨[.type "enumerate",.ref t],[]⟩) (λ_ R s=>ql lst s.heap t its/\R (.ok (.ret (.ref (zh1 s.heap lst t).objs.size))) { s with heap:=eh2 s.heap lst t }) :=
 .of_wp λprog w A R s h=>by
  obtain⟨hp,g,d,tk,os⟩:=s;obtain⟨h1,h⟩:=h;have hsub:=sub_enumerate;have e1:ql lst (Shared.heap ⟨hp,g,d,tk,os⟩) t its:=h1;have ld:∃o:cE,hp.get? t=a3 o:=by
   unfold ql at e1;cases lst with
   |true=>rw[if_pos rfl]at e1;obtain⟨o,e,_⟩:=e1;exact⟨o,e⟩
   |false=>rw[if_neg xf]at e1;obtain⟨o,e,_⟩:=e1;exact⟨o,e⟩
  obtain⟨o,ho⟩:=ld
  wp_walk using bT ho
  refine wpAny_stack_any λstk=>?_;refine aj ?_;split
  .rename_i cl _ _ _ _ _;cases(cl==gx "enumerate")
   .wp_walk using bT ho,M4 e1
    exact⟨_,rfl,h⟩
   .wp_walk using bT ho,M4 e1
    exact⟨_,rfl,h⟩
  .wp_walk using bT ho,M4 e1
   exact⟨_,rfl,h⟩
noncomputable def Ite(K:k8y)(lst:Bool)(t:aa):It :=
 ⟨λi H=>∃xs x,SqB K lst H t xs/\xs[i]?=a3 x,
 λi H v H'=>∃p x,v=.ref p/\H p=a5/\H'=upd H p (.tup [.int (i:Int),x])/\∀xs,SqB K lst H t xs->xs[i]?=a3 x,
 λi H=>∃xs,SqB K lst H t xs/\xs.length<=i⟩
theorem j4t{P:au}{w:aA}{K:k8y}{es:List ai}{n:Nat}{pos:aJ}{lst:Bool}{z j t:aa}(hzj:z≠j)(hzt:z≠t)(htj:t≠j) :
  Turn P w K (.Tuple es n pos) (Ite K lst t) [z,j] z (λi h=>(∃old,IsEnum h z j (i:Nat) old)/\qy lst h j t i) where
 mem:=by simp
 obj:=λi h ⟨⟨old,hz⟩,h1⟩ c hc=>by
  simp at hc;rcases hc with rfl|rfl
  .exact⟨_,hz,λv e=>by cases e⟩
  .exact h1.obj
 keep:=λi h h' ⟨⟨old,hz⟩,h1⟩ k=>⟨⟨old,k z (by simp) _ hz⟩,h1.stay λo e=>k j (by simp) o e⟩
 item:=by
  rintro X hP hw hK hc i pins s σ H E I hf ⟨⟨old,hz⟩,h1⟩ ⟨xs,x,sx,hx⟩;subst hP hw hK;obtain⟨us,ru,qu,_⟩:=I.side sx;obtain⟨u,hu,rx⟩:=ru.get hx;have hlt:i<us.toArray.size:=by obtain⟨h,_⟩:=Xa.mp hu;simpa using h
  refine wpAny_pyNext_enum_itemD (j43 (A:=X.A.in1) (I.ok.hd hc) htj) hz ⟨h1,qu⟩ hlt hzj (by simp[hzj,hzt]) λv h' tk hv ho st ht sz kp=>⟨_,rfl,?_⟩
  have ev:u=v:=by
   have:us.toArray[i]?=a3 u:=by simpa using hu
   rw[this]at hv;exact ax hv
  subst ev;refine wpAny_letOwnedTupleGo_enum (s:={ s with heap:=h',toks:=tk+1 }) ho λh'' z'' sb=>?_
  replace sb:bS z h' h'':=sb
  have zlt:z<s.heap.objs.size:=xq hz;have kp':∀c o,c∉[z,j]->s.heap.get? c=a3 o->h''.get? c=a3 o:=λc o nc e=>by simp at nc;exact sb.extBut _ _ nc.1 (kp c o nc.1 nc.2 e)
  have pt:iH h'' s.heap.objs.size [.int i tk,u].toArray:=⟨_,sb.extBut _ _ (Pz zlt) ht,rfl,_,rfl⟩
  have I2:=(I.chgT hf kp' (xs:=[.int (i:Int),x]) (.cons ⟨tk,rfl⟩ (.cons rx .nil)) (by show 2<=aq;decide) pt (Vf.of (sb.extBut _ _ (Pz zlt) ht))).tok (tk+1);refine⟨.ref s.heap.objs.size,_,I2,rfl,⟨_,x,rfl,I.fresh,rfl,λws hw=>by rw[I.side_inj hw sx];exact hx⟩,⟨⟨u,?_⟩,st.1.ext sb.extBut (c8 hzj)⟩,λc hc=>?_⟩
  .have e:((i+1:Nat):Int)=(i:Int)+1:=by push_cast;rfl
   rw[e];exact z''
  .obtain⟨o,e⟩:∃o,s.heap.get? c=a3 o:=by
    simp at hc;rcases hc with rfl|rfl
    .exact⟨_,hz⟩
    .obtain⟨o,e,_⟩:=h1.obj;exact⟨o,e⟩
   rw[jb (X8 (xq e))];exact(hf c hc).1
 done:=by
  rintro X hP hw hK hc i pins s σ H E I hf ⟨⟨old,hz⟩,h1⟩ ⟨xs,sx,hend⟩;subst hP hw hK;obtain⟨us,ru,qu,_⟩:=I.side sx;have e1:=ru.length;have hn:us.toArray[i]?=a5:=by simp;omega
  refine wpAny_pyNext_enum_endD (j6m (A:=X.A.in1) (I.ok.hd hc) htj hn) hz ⟨rfl,h1,qu⟩ λh' kp=>⟨rfl,I.chg hf λc o nc e=>?_⟩
  simp at nc;exact kp c o nc.2 e
 self:=λ_ _ _ _ _ ⟨⟨old,hz⟩,_⟩ h=>lj hz h
section
variable{X:Cx}{ρ:Rho}{a b:ai}{es:List ai}{n:Nat}{pos p q1 q2:aJ}{ds ds':List D}{lst:Bool}
noncomputable def Qj(ds:List D):List D:=ds.zipIdx.map λp=>D.tup [.int (p.2:Int),p.1]
theorem Ls{i:Nat}:(Qj ds)[i]?=(ds[i]?).map λd=>D.tup [.int (i:Int),d]:=by unfold Qj;rw[X7,List.getElem?_zipIdx];cases ds[i]?<;>simp
theorem j6b{K:k8y}{F:Hp}{t:aa}{xs:List V}(s1:SqB K lst F t xs)(e1:j5 K F ds xs):Ub K F (Ite K lst t) (Qj ds):=λi H A g hA=>by
 have s1':SqB K lst H t xs:=jo.seqB (g.seqB s1);have hl:(Qj ds).length=ds.length:=by unfold Qj;rw[xj,dk]
 refine⟨λh=>?_,λh=>⟨xs,s1',?_⟩,λv H' ⟨p,x,ev,np,eH,hx⟩=>?_⟩
 .rw[hl]at h;obtain⟨x,hx,_⟩:=e1.get (kh h);exact⟨xs,x,s1',hx⟩
 .rw[hl]at h;rw[e1.length];exact h
 .subst eH;refine⟨j7 np,λd hd=>?_⟩;rw[Ls]at hd;cases z:ds[i]? with
  |none=>rw[z]at hd;cases hd
  |some d1 =>rw[z]at hd;cases hd;obtain⟨x',hx',ex⟩:=e1.get z;have q1:=hx xs s1';rw[hx']at q1;have q1:=ax q1;subst q1;have pA:p∉A:=λz=>hA p z np;have gg:j4 F (del (upd H p (.tup [.int (i:Int),x'])) A):=g.trans (jf (j7 np));exact⟨p,[.int (i:Int),x'],ev,.inl (.inl (by rw[j6 pA];exact j9)),.int (i:Int),[x'],rfl,rfl,x',[],rfl,ex.mono gg,rfl⟩
theorem DI.enum (lst:Bool) (ha:DE X ρ a (D.seq lst ds)) (hm:X.mg "enumerate" = a5) (hg:Gl X "enumerate") (hs:a9 [a] X.env=[(a4,ay a X.env)]):DI X ρ (.Tuple es n q1) (.Call (.Name "enumerate" p) [a] [] pos) (Qj ds):=λσ H R r q pins s I=>by
 have args:Oz X [a] σ H (λvs H'=>∃v,vs=[v]/\j4 H H'/\Enc X.K (del H' (owns ρ)) (D.seq lst ds) v) :=
  (jc peS jr hs).to (ha σ H _ r λv H1 g1 e1=>⟨v,rfl,g1,e1⟩)
 refine Call_ (V5 I hg hm boot_enumerate (callWith_type1 (thn (args pos pins s I) λus s1 h1=>?_) hs rfl));obtain⟨vs,H1,I1,r1,v,ev,g1,e1⟩:=h1;subst ev;obtain⟨t,xs,et,sq,en⟩:=Vp e1;subst et;obtain⟨u1,eu,ru1⟩:=r1.one;subst eu;cases ru1;obtain⟨w1,rw1,qw1,_⟩:=I1.side (jo.seqB sq);refine callType_new F.called_enumerate (by decide) (F.typeCall_enumerate_1 _) (F.newCall_enumerate_1 _) (λobj=>jN obj _) F.entry_enumerate_new (j9e (lst:=lst) t w1.toArray) ⟨qw1,?_⟩;have z1:(zh1 s1.heap lst t).objs.size=s1.heap.objs.size+1:=bQ ..;have b2:(eh2 s1.heap lst t).get? (zh1 s1.heap lst t).objs.size=a3 _:=X4 _ rfl;have b1:(eh2 s1.heap lst t).get? s1.heap.objs.size=a3 _:=xn _ (X4 _ rfl);have kp:∀c o,s1.heap.get? c=a3 o->(eh2 s1.heap lst t).get? c=a3 o:=λc o e=>xn _ (xn _ e);show _/\_;rw[z1]at b2 ⊢;have I2:Inv X pins σ H1 { s1 with heap:=eh2 s1.heap lst t }:=I1.kept (t':=s1.toks) kp;have lt1:t<s1.heap.objs.size:=by
  unfold ql at qw1;cases lst with
  |true=>rw[if_pos rfl]at qw1;obtain⟨_,e,_⟩:=qw1;exact xq e
  |false=>rw[if_neg xf]at qw1;obtain⟨_,e,_⟩:=qw1;exact xq e
 have side:qy lst (eh2 s1.heap lst t) s1.heap.objs.size t 0:=by
  unfold qy;cases lst with
  |true=>rw[if_pos rfl];exact⟨_,b1,rfl,rfl⟩
  |false=>rw[if_neg xf];exact⟨_,b1,rfl,rfl⟩
 refine⟨⟨_,b2,rfl⟩,lj (s:={ s1 with heap:=eh2 s1.heap lst t }) b2 ?_⟩;refine⟨_,_,_,Ite X.K lst t,H1,rfl,I2,j4t (j:=s1.heap.objs.size) (Nat.succ_ne_self _) (Pz (dJ lt1)) (X8 lt1),⟨⟨_,b2⟩,side⟩,λc hc=>?_,q _ H1 g1 (j6b sq en)⟩;have hc':c=s1.heap.objs.size+1\/c=s1.heap.objs.size:=by simpa using hc
 have hge:s1.heap.objs.size<=c:=by rcases hc' with e|e<;>rw[e]<;>first|exact X3 _|exact Nat.le_add_right _ _
 obtain⟨f0,f1,f2,f3,f4,f5⟩:=I1.fpOk hge (I1.hok.fresh hge);exact⟨f0,f1,f2,f3,f4,f5⟩
end
section
variable{X:Cx}
theorem j8k:OpR X (bc .FloorDiv) (rI (λ_ j=>0<j/\j<18446744073709551616) λi j=>.int (i/j)):=opI λi j _ _ _ _ _ hc q=>by
 have e:i/j=i.fdiv j:=by rw[hV _ nofun]
 refine floordiv_int nofun (by rw[<-e];exact q) (.inl (PyProof.noPylong_of_log2 ?_))
 have h2:(2:Nat)^64=18446744073709551616:=by decide
 have:=(mC (n:=j.natAbs) (k:=64) nofun).mpr (by rw[h2];omega);omega
theorem j64 (hu:X.A.units+100<aM):MtR X "list.count" (λx vs H Q=>∃t xs ds d y,x=.ref t/\vs=[y]/\SqL X.K H t xs/\j5 X.K H ds xs/\Enc X.K H d y/\D.depL ds<=97/\d.dep<10000/\Q (.int (ds.countP λe=>deq e d)) H):=by
 rintro pins s σ H x vs v us Q I rx rv ⟨t,xs,ds,d,y,e,e',sq,l,en,hd,nd,q⟩;subst e e';cases rx;obtain⟨u,eu,ru⟩:=rv.one;subst eu;obtain⟨its,ri,⟨⟨cl,dd,da,sl⟩,n,h1,h2,h4,h3⟩,_⟩:=I.list sq;have h2:cl=.type "list":=h2;have h3:da=.seq its.toArray n:=h3;subst h2 h3;refine bD iM ⟨_,h1,rfl⟩ F.entry_list_count (F.args_list_count_2 _ _) (SeqAt.list_countAt t its.toArray n dd sl u (eqW X H d)) ⟨h1,λy hy=>Vk (n:=97) I en ru nd (by show X.A.units+1+97<aM;omega) hd l ri y (by simpa using hy),?_⟩;have ev:(its.toArray.toList.countP (eqW X H d):Nat)=ds.countP λe=>deq e d:=by rw[eZ];exact Wy I nofun l ri
 rw[ev];exact⟨.int _,H,I.tok _,⟨_,rfl⟩,q⟩
end
section
variable{X:Cx}{ρ:Rho}{a b e:ai}{d d':D}{ds:List D}{i j:Int}{pos p p1 p2:aJ}{P:Po}
theorem DE.fdivB(ha:DT X ρ a (.int i))(hb:DT X ρ b (.int j))(h:0<j/\j<18446744073709551616):DE X ρ (.BinOp a .FloorDiv b pos) (.int (i/j)):=DE.arI (g:=λi j=>i/j) j8k ha hb h
theorem DE.countL (hu:X.A.units+100<aM) (ha:DT X ρ a (.lst ds)) (hb:DT X ρ b d) (hd:D.depL ds<=97) (nd:d.dep<10000) (hbase:aL a "count" X.env (ay a X.env)=ay a X.env)
  (hfew:((aO p2 (a9 [b] X.env)).all (λx=>!x.1)&&(bB p2 (aY [] X.env)).all (λx=>x.1.isSome)
   && decide (([b]:List ai).length+([]:List aZ).length+(if ([]:List aZ).isEmpty then 0 else 1)<30))=a7) (hline:(p1.endLine==p2.line)=a7)
  (hs:a9 [b] X.env=(a4,ay b X.env)::a9 [] X.env):DE X ρ (.Call (.Attribute a "count" p1) [b] [] p2) (.int (ds.countP λe=>deq e d)):=λσ H Q R q =>
 (Wm cc iM PySem.F.type_list_count (j64 hu) peS (jc peS jr hs) hbase hfew hline hs rfl).to (ha σ H _ R λv H1 g1 ⟨t,xs,e,sq,l⟩=>⟨by rw[e];exact .inl ⟨rfl,xs,sq⟩,hb σ H1 _ (R.grow g1) λu H2 g2 e2 =>
  ⟨t,xs,ds,d,u,e,rfl,g2.seq sq,l.mono g2,e2,hd,nd,q _ H2 (g1.trans g2) rfl⟩⟩)
end
noncomputable def ddS(acc:List af)(v:af):List af:=if acc.any (· == v)=a7 then acc else acc++[v]
noncomputable def dd(ts:List af):List af:=ts.foldl ddS []
section
variable{P:au}{w:aA}{A:aB}{I S:aa}{fp wr:List aa}{Gn:Array fH->Array fH->Prop}{Pv:Nat->a8->Prop}{St:Nat->ae->Prop}{ts:List af}
end
section
variable{P:au}{w:aA}{A:aB}{E:k8z}{s:ae}
end
section
variable{X:Cx}{ρ:Rho}{a:ai}{p p1 p2 pos:aJ}
end
section
variable{prog:au}{w:aA}{A:aB}{E:k8z}{s:ae}{d it vw:aa}{od:cE}{es:Array hU}{ep i:Nat}{ok ov:a8}
end
noncomputable def jgj(ks:List (List Int))(ds:List D):List D:=(ks.zip ds).map λp=>D.tup [.tup (p.1.map D.int),p.2]
section
variable{X:Cx}{ρ:Rho}{a b:ai}{es:List ai}{n:Nat}{pos p p1 p2 q1:aJ}{ks:List (List Int)}{ds:List D}{k:List Int}
theorem j0b{P:au}{w:aA}:∀{ks:List Int}{us:List a8},Vals (ks.map V.int) us->ItemsAre (fO P w) ks us
 |[],_,r=>by rw[Ph]at r;cases r;exact .nil
 |k::ks,_,r=>by
  rw[xu]at r;cases r with
  |cons h t =>
   obtain⟨tk,e⟩:=(show ∃t,_=bj k t from h)
   subst e;exact .cons (by simp[fO,l9]) (j0b t)
theorem Du{pins:k90}{σ:St}{H:Hp}{s:ae}{t:aa}(I:Inv X pins σ H s)(sq:SqT X.K H t (k.map V.int)):(fN (fO X.prog X.w)).is s.heap k t:=by obtain⟨its,rv,⟨o,e1,e2,m,e3⟩,_⟩:=I.tuple sq;exact⟨o,its.toArray,m,e1,e2,e3,by simpa using j0b rv⟩
theorem j2j{pins:k90}{σ:St}{H:Hp}{s:ae}{d:aa}{xs:List (List Int×aa×a8)}{ep:Nat}(I:Inv X pins σ H s)(hx:H d=a3 (.dI xs ep))(kt:∀x∈xs,SqT X.K H x.2.1 (x.1.map V.int)) :
  (d==eV)=a4/\xs.length<=aq/\s.heap.DictOfH (fN (fO X.prog X.w)) d xs:=by
 obtain⟨z1,z2,z3,od,en,h1,h2,h3,h4⟩:=(show jh X.prog X.w H s.heap d (.dI xs ep)from I.hok _ _ hx)
 exact⟨z2,z1,od,en,ep,h1,h2,h3,h4,λx hx=>Du I (kt x hx),z3⟩
theorem j7h{xs:List (List Int×aa×a8)}:(kA xs k).isSome=(xs.map λx=>x.1).contains k:=by
 induction xs with
 |nil=>rfl
 |cons x xs ih =>
  unfold kA at ih ⊢;rw[Option.isSome_map]at ih ⊢;rw[kH,xu,jH];by_cases z:x.1=k
  .simp[z]
  .have z':(k==x.1)=a4:=by simp;exact λe=>z e.symm
   rw[decide_eq_false z,z',fh];exact ih
theorem any_range:∀bs:List Bool,(aE bs.length).any (λi=>(bs[i]?).getD a7)=bs.any id
 |[]=>rfl
 |b::bs=>by rw[xx,cF,cj,List.any_map,cj,<-any_range bs];rfl
theorem j1j (hc:X.calm=a7):Jt X (.builtin "any") (λxs H Q=>∃(l:aa)(bs:List Bool),xs=[.ref l]/\SqL X.K H l (bs.map V.bl)/\Q (.bl (bs.any id)) H):=by
 intro pins s σ H xs us Q I r ⟨l,bs,e,sq,q⟩;subst e;obtain⟨u,eu,ru⟩:=vals1 r;subst eu;cases ru;obtain⟨its,rv,pl,_⟩:=I.list sq;have hlt:l<s.heap.objs.size:=by obtain⟨_,_,e,_⟩:=pl;exact xq e
 have hl:its.length=bs.length:=by rw[<-rv.length,xj]
 refine call_any_walk (bU pl.isList ⟨s.heap.objs.size,[s.heap.objs.size,l],[s.heap.objs.size],its.toArray.size,_,_,λi=>(bs[i]?).getD a7,rfl,Walks.list (A:=X.A.in1) (I.ok.hd hc) _ _ (X8 hlt) its.toArray,⟨⟨_,X4 _ rfl,rfl,rfl⟩,pl.isList.push _⟩,?_,λh' tk kp=>?_⟩)
 .intro i v s' Q' E' hv hq;have hi:i<its.length:=by have:=T8.mp hv;obtain⟨h,_⟩:=this;simpa using h
  have hb:i<bs.length:=by omega
  obtain⟨w1,hw,rw1⟩:=rv.get (x:=.bl bs[i]) (i:=i) (by rw[X7,kh hb];rfl);have:its.toArray[i]?=a3 w1:=by simpa using hw
  rw[this]at hv;cases hv;cases rw1;simp only[kh hb,dH]at hq;exact bu hq
 .have ev:(aE its.toArray.size).any (λi=>(bs[i]?).getD a7)=bs.any id:=by rw[X5,hl];exact any_range bs
  rw[ev];refine⟨.bl _,H,I.kept (t':=tk) λb o e=>kp b o ?_ (xn _ e),rfl,q⟩;intro z;rw[xg.mp z]at e;exact Xx _ (xq e)
theorem DE.any {bs:List Bool} (ha:DT X ρ a (.lst (bs.map D.bl))) (hm:X.mg "any" = a5) (hc:X.calm=a7) (hg:Gl X "any") (hs:a9 [a] X.env=[(a4,ay a X.env)]):DE X ρ (.Call (.Name "any" p) [a] [] pos) (.bl (bs.any id)):=λσ H Q R q =>(v8 (j1j hc) hg hm boot_any (jc peS jr hs) (by decide) (by decide) hs).to (ha σ H _ R λv H1 g1 ⟨l,xs,e,sq,en⟩=>⟨l,bs,by rw[e],by rw[Bm en]at sq;exact sq,q _ H1 g1 rfl⟩)
end
def jir:TE:=λ_ H Q=>∀p,H p=a5->Q (.ref p) (upd H p (.dI [] 0))
def jiy(K:k8y)(td ty tv:TE):TS:=λD σ H=>tv σ H λv H1=>td σ H1 λx H2=>ty σ H2 λy H3 =>
 ∃(a b:aa)(xs:List (List Int×aa×a8)) (ep:Nat) (k:List Int),x=.ref a/\H3 a=a3 (.dI xs ep)/\(∀x∈xs,SqT K H3 x.2.1 (x.1.map V.int))/\y=.ref b/\SqT K H3 b (k.map V.int) /\
  (xs.map λx=>x.1).contains k=a4/\xs.length<aq/\∀u ep',RelV v u->D.nx σ (upd H3 a (.dI (xs++[(k,b,u)]) ep'))
section
variable{X:Cx}{pos pos':aJ}{o i value:ai}{td ty tv:TE}
theorem Inv.bigD{pins:k90}{σ:St}{H:Hp}{s:ae}(I:Inv X pins σ H s):eV<s.heap.objs.size:=by have h:ak<s.heap.objs.size:=(I.mod.glob.keeps I.bk).lt;exact Xw (by decide) h
theorem jca:PE X (.Dict [] [] pos) jir:=λpins s σ H Q I h =>
 wpAny_Dict_empty ⟨.ref s.heap.objs.size,_,I.laid (a:=s.heap.objs.size) (o:=.dI [] 0) (t':=s.toks) (λ_ _ q=>xn _ q) (X3 _)
  ⟨Ti _,beq_eq_false_iff_ne.mpr (c8 (X8 I.bigD)),eP,_,#[],X4 _ rfl,⟨rfl,rfl,rfl⟩,rfl,rfl⟩,rfl,h _ (I.hok.fresh (X3 _))⟩
theorem jc4(hu:X.A.units+100<aM)(ho:PE X o td)(hi:PE X i ty)(hv:PE X value tv)(hs:aS value (a3 (.Subscript o i pos')) pos.line X.env=pure a4) :
  PS X (.Assign [.Subscript o i pos'] value pos) (jiy X.K td ty tv):=by
 intro pins s σ H D I h;refine wpAny_Assign_Subscript (thn (hv pins s σ H _ I h) λr s1 ⟨v,H1,I1,rv,q1⟩=>thn (ho pins s1 σ H1 _ I1 q1) λu s2 ⟨x,H2,I2,rx,q2⟩=>thn (hi pins s2 σ H2 _ I2 q2) λiv s3 ⟨y,H3,I3,ry,hq⟩=>?_) hs;obtain⟨a,b,xs,ep,k,ex,hx,kt,ey,sq,nk,hl,q⟩:=hq;subst ex ey;cases rx;cases ry;obtain⟨lo,hz,dd⟩:=j2j I3 hx kt;refine wpAny_setItem_heap (hsz:=hz) (kW nofun) (Du I3 sq) dd λh' dd' sb=>?_;have na:kA xs k=a5:=by
  have:=j7h (xs:=xs) (k:=k);rw[nk]at this;cases z:kA xs k with
  |none=>rfl
  |some _=>rw[z]at this;cases this
 rw[storedH_new na]at dd';obtain⟨ob,es,ep',w1,w2,w3,w4,w5,w6⟩:=dd';refine⟨σ,_,I3.write (x:=a) (e:=a) (o:=.dI (xs++[(k,b,r)]) ep') (t':=s3.toks+(fN (fO X.prog X.w)).draws k) (by rw[hx];exact True.intro) (.inl rfl) (λc z nc e=>(sb.2 c nc).trans e) ⟨ob,w1⟩ ?_,q r ep' rv⟩;exact⟨by simp;omega,lo,w6,ob,es,w1,w2,w3,w4⟩
end
section
variable{X:Cx}{ρ:Rho}{it e:ai}{P:Po}{ds:List D}{x t y:Nat}{nx nt ny:af}{n8:Nat}{p1 p2 p3 p4 p5 p6 p7 p8 p9 p10 p11 p12 p13 p14 p15 p16 p17 p18:aJ}
theorem jb9{H:Hp}{a:aa}{o:HO}(h:H a=a3 o):H=upd (del H [a]) a o:=funext λb=>by
 by_cases z:b=a
 .subst z;rw[j9];exact h
 .rw[jb z,j6 (by simpa using z)]
theorem j0m{H:Hp}{a:aa}{o:HO}(h:H a=a5):del (upd H a o) [a]=H:=funext λb=>by
 by_cases z:b=a
 .subst z;rw[qj (by simp)];exact h.symm
 .rw[j6 (by simpa using z),jb z]
theorem j27{H F:Hp}{a:aa}{o:HO}(h:H a=a3 o):mrg [a] H F=upd F a o:=funext λb=>by
 by_cases z:b=a
 .subst z;rw[Jg (by simp),j9];exact h
 .rw[jg (by simpa using z),jb z]
end
noncomputable def vq:List (List Int)->List D->List Int->Option D
 |k'::ks,d::ds,k=>if k'=k then a3 d else vq ks ds k
 |_,_,_=>a5
theorem j2k{K:k8y}{H:Hp}{k:List Int}{d:D}:∀{xs:List (List Int×aa×a8)} {ds:List D} {vs:List V},Vals vs (xs.map λx=>x.2.2)->j5 K H ds vs->vq (xs.map λx=>x.1) ds k=a3 d->∃p v,kA xs k=a3 p/\RelV v p.2/\Enc K H d v
 |[],_,_,_,_,h=>by cases h
 |x::xs,[],_,_,_,h=>by cases h
 |x::xs,d'::ds,_,rv,⟨v,r,e,h1,l⟩,h=>by
  subst e;rw[xu]at rv h;unfold kA;rw[kH];cases rv with
  |cons a b =>
   rw[vq]at h;by_cases z:x.1=k
   .rw[if_pos z]at h;cases h;rw[decide_eq_true z];exact⟨x.2,v,rfl,a,h1⟩
   .rw[if_neg z]at h;rw[decide_eq_false z];exact j2k b l h
section
variable{X:Cx}{ρ:Rho}{a b:ai}{d:D}{ds:List D}{ks:List (List Int)}{k:List Int}{pos p p1 p2 p3:aJ}
theorem jjs(hu:X.A.units+100<aM):IxR X (λx y H Q=>∃(d:aa)(xs:List (List Int×aa×a8)) (ep:Nat) (t:aa) (k:List Int) (q:aa×a8) (v:V),x=.ref d/\y=.ref t/\H d=a3 (.dI xs ep)/\(∀x∈xs,SqT X.K H x.2.1 (x.1.map V.int))/\SqT X.K H t (k.map V.int)/\kA xs k=a3 q/\RelV v q.2/\Q v H):=by intro value slice pins s σ H x y v u Q I rx ry h hs;obtain⟨d,xs,ep,t,k,q,w,rfl,rfl,hx,kt,sq,hq,rq,hQ⟩:=h;cases rx;cases ry;obtain⟨lo,hz,dd⟩:=j2j I hx kt;exact mQ dd.typeIs slot_dict_getitem.lookup (wpAny_getItem_heap (kW nofun) (Du I sq) dd hq ⟨w,H,I.tok _,rq,hQ⟩) hs
theorem DE.dget(hu:X.A.units+100<aM)(ha:DE X ρ a (.dct ks ds))(hb:DT X ρ b (.tup (k.map D.int)))(h:vq ks ds k=a3 d)(hs:Ys b):DE X ρ (.Subscript a b pos) d:=λσ H Q R q =>
 (Wl (jjs hu) peS peS hs).to (ha σ H _ R λv H1 g1 ⟨c,xs,ep,vs,e,hx,ek,kt,rv,l⟩=>hb σ H1 _ (R.grow g1) λu H2 g2 ⟨t,ys,e2,sq,l2⟩=>by
  rw[J9 l2]at sq
  subst ek
  obtain⟨q',v',z1,z2,z3⟩:=j2k rv (l.mono (jf g2)) h
  exact⟨c,xs,ep,t,k,q',v',e,e2,g2 _ _ (of_del hx).2,λx hx=>g2.seqT (jo.seqT (kt x hx)),sq,z1,z2,q v' H2 (g1.trans g2) z3⟩)
end
section
variable{prog:au}{w:aA}{A:aB}{E:k8z}{s:ae}{d it vw:aa}{od:cE}{es:Array hU}{ep i:Nat}
theorem jdk {Q:k8z} (ht:s.TypeIs (.ref d) "dict") (lo:(d==eV)=a4)
  (q:Q (.ref s.heap.objs.size) { s with heap:=s.heap.push { cls:=.type "dict_values",data:=.fields #[.ref d] } }):ar (aw prog w) A (call (.builtin "dict.values") [.ref d]) Q E s:=by
 refine bF iC ht F.entry_dict_values ?_ (F.args_dict_values_1 _);unfold d9.«dict.values»;refine a6 ?_;unfold Builtin.Dict.noArgs;refine a6 (wpAny_notOrdered_dict ht ?_);show ar _ _ (pure d) _ _ s;refine aj ?_;show ar _ _ (Builtin.Dict.showsAll d >>= _) _ _ s;unfold Builtin.Dict.showsAll;rw[if_neg (λz=>by rw[lo]at z;cases z)];exact a6 (aj (a6 (aN (aj ⟨_,rfl,q⟩))))
theorem jdj{Q:k8z}(hv:s.heap.IsValuesView vw d)(ho:s.heap.get? d=a3 od)(hd:od.data=.dict es ep)
  (q:Q (.ref s.heap.objs.size) { s with heap:=s.heap.push { cls:=.type "dict_valueiterator",data:=.fields #[.ref d,.int 0 0,.int es.size 0,.int ep 0] } }) :
  ar (aw prog w) A (iF (.ref vw)) Q E s:=by
 obtain⟨oz,z1,z2,z3⟩:=id hv;refine wpAny_pyIter_slot hv.typeIs iN (bF iN hv.typeIs F.entry_dict_values_iter ?_ (F.args_dict_values_iter_1 _));unfold d9.«dict_values.__iter__»;refine a6 (aj ?_);refine a6 ?_;unfold ka;refine a6 (bx z1 z3 (x:=.ref d) rfl (aj (a6 ?_)));unfold k9;refine a6 (gD ho hd (a6 (ia ho hd ?_)));have own:cg "dict_valueiterator" = a4:=by decide
 simp only[own,Xv,if_false];refine aN (aj ⟨_,rfl,"dict_valueiterator",_,⟨_,X4 _ rfl,rfl⟩,Pu.lookup,?_⟩);simpa [cw]using q
theorem jdi{e:hU}{Q:Option a8->ae->Prop}(hit:s.heap.IsValIter it d i es.size ep)(ho:s.heap.get? d=a3 od)(hd:od.data=.dict es ep)(he:es[i]?=a3 e)
  (hQ:∀h',h'.IsValIter it d (i+1) es.size ep->bS it s.heap h'->Q (a3 e.val) { s with heap:=h' }):ar (aw prog w) A (fw (.ref it)) Q E s:=by
 obtain⟨o,hoI,hc,hdI⟩:=id hit;unfold fw;refine a6 (gb (bG (name:=aR "__next__") hit.typeIs Pu
  (bF Pu hit.typeIs gr ?_ (gh _))))
 refine a6 (aj ?_);refine a6 ?_;refine a6 ?_
 first|refine a6 (bJ hit.typeIs (aj ?_))|refine a6 (cC hit.typeIs (aj ?_))
 refine a6 (mJ hoI hdI ?_);have hown:cg "dict_valueiterator" = a4:=by decide
 simp only[hown,Xv,if_false];show ar _ _ (if (aC d==aU)=a7 then _ else _) _ _ s;rw[if_neg (λz=>by cases z)];refine a6 (aj ?_);refine a6 (gD ho hd ?_);rw[if_neg (by simp)];refine a6 (aj ?_);refine a6 (ia ho hd ?_);rw[if_neg (by simp)];refine aj ?_;simp only[show ¬((i:Int)<0)from by omega,if_false,Xh,he];refine a6 ?_
 first|refine a6 (bJ hit.typeIs (aj ?_))|refine a6 (cC hit.typeIs (aj ?_))
 refine a6 (ff hit.typeIs ?_);show ar _ _ (setField (.ref it) 1 (cw ((i:Int)+1)) >>= _) _ _ s;refine a6 (dP hoI hdI (by simp) ?_);have hit':(s.heap.update it (dM (·.setIfInBounds 1 (cw ((i:Int)+1))))).IsValIter it d (i+1) es.size ep :=
  ⟨_,eE _ hoI (eK (Tp hdI _)),(k8 ..).trans hc,by rw[Tp hdI];simp[cw]⟩
 refine a6 (bC ?_);refine a6 (ff (s:={ s with heap:=s.heap.update it (dM (·.setIfInBounds 1 (cw ((i:Int)+1)))) }) hit'.typeIs ?_);refine a6 (ff (s:={ s with heap:=s.heap.update it (dM (·.setIfInBounds 1 (cw ((i:Int)+1)))) }) hit'.typeIs ?_);show ar _ _ (pure e.val) _ _ _;exact aj (aj ⟨_,rfl,aj (hQ _ hit' (T5 ..))⟩)
theorem jhi{Q:Option a8->ae->Prop}(hh:A.handled=a5)(hit:s.heap.IsValIter it d i es.size ep)(ho:s.heap.get? d=a3 od)(hd:od.data=.dict es ep)(hge:es.size<=i)
  (hQ:∀h',eN it s.heap h'->Q a5 { s with heap:=h' }):ar (aw prog w) A (fw (.ref it)) Q E s:=by
 obtain⟨o,hoI,hc,hdI⟩:=id hit;unfold fw;refine a6 (gb (bG (name:=aR "__next__") hit.typeIs Pu
  (bF Pu hit.typeIs gr ?_ (gh _))))
 refine a6 (aj ?_);refine a6 ?_;refine a6 ?_
 first|refine a6 (bJ hit.typeIs (aj ?_))|refine a6 (cC hit.typeIs (aj ?_))
 refine a6 (mJ hoI hdI ?_);have hown:cg "dict_valueiterator" = a4:=by decide
 simp only[hown,Xv,if_false];show ar _ _ (if (aC d==aU)=a7 then _ else _) _ _ s;rw[if_neg (λz=>by cases z)];refine a6 (aj ?_);refine a6 (gD ho hd ?_);rw[if_neg (by simp)];refine a6 (aj ?_);refine a6 (ia ho hd ?_);rw[if_neg (by simp)];refine aj ?_;simp only[show ¬((i:Int)<0)from by omega,if_false,Xh,Array.getElem?_eq_none hge];refine a6 ?_
 first|refine a6 (bJ hit.typeIs (aj ?_))|refine a6 (cC hit.typeIs (aj ?_))
 show ar _ _ (setField (.ref it) 0 .none >>= _) _ _ s;refine a6 (dP hoI hdI (by simp) ?_);show ar _ _ (mM (.type "StopIteration") [] >>= _) _ _ _;refine a6 ?_;simp only[mM,newTuple];refine a6 (aN ?_ (by size_fits));refine a6 (m:=fD _ _) (fv (a:=aU) (by first|rfl|(simp only[fD];rfl)) ?_);refine aN ?_ (by size_fits);simp only[raiseNew];refine a6 (mU ?_);rw[show A.in1.handled=a5 from hh];refine a6 (aj (kx ?_));refine a6 (wpAny_isInstance (T:="StopIteration") (b:=a7) ⟨_,X4 _ rfl,rfl⟩ isSubtype_stop ?_);exact aj (hQ _ (((T5 ..).extBut.push _).push _))
theorem j9k(hh:A.handled=a5)(I:aa)(hne:d≠I)(hd:od.data=.dict es ep):Walks prog w A I [I,d] [I] es.size (λi v=>∃e,es[i]?=a3 e/\v=e.val) (λi h=>h.IsValIter I d i es.size ep/\h.get? d=a3 od) where
 sub:=λb hb=>by simp at hb;simp[hb]
 frame:=λ_ _ _ st hk=>⟨let ⟨o,ho,x⟩:=st.1;⟨o,hk I (by simp) o ho,x⟩,hk d (by simp) _ st.2⟩
 item:=λi s Q E hi st hQ=>by refine jdi st.1 st.2 hd (bW hi) λh' hit' hs'=>?_;exact hQ _ h' s.toks ⟨_,bW hi,rfl⟩ ⟨hit',hs'.extBut _ _ hne st.2⟩ λb o hb e=>hs'.extBut b o (λh=>hb (by simp[h])) e
 done:=λs Q E st hQ=>jhi hh st.1 st.2 hd (X3 _) λh' he'=>hQ h' s.toks λb o hb e=>he' b o (λh=>hb (by simp[h])) e
 self:=λ_ _ _ _ st hQ=>wpAny_pyIter_valiter st.1 hQ
theorem jhh (hd:od.data=.dict es ep):gc prog w "dict_values" vw d es.size (λi v=>∃e,es[i]?=a3 e/\v=e.val) (λh=>h.IsValuesView vw d/\h.get? d=a3 od) where
 type:=λ_ hm=>hm.1.typeIs
 there:=λ_ hm=>⟨let ⟨_,ho,_⟩:=hm.1;xq ho,xq hm.2⟩
 keep:=λ_ _ hm hk=>⟨let ⟨o,ho,x⟩:=hm.1;⟨o,hk vw (.inl rfl) o ho,x⟩,hk d (.inr rfl) _ hm.2⟩
 notList:=by decide
 notTuple:=by decide
 hint:=λ_ _ _ _ hm hq=>W.kdl_hint_values hm.1.typeIs hq
 iter:=λ_ _ hh hm=>⟨_,_,(λ_ _ hq=>jdj hm.1 hm.2 hd hq),j9k hh _ (X8 (xq hm.2)) hd,⟨⟨_,X4 _ rfl,rfl,rfl⟩,xn _ hm.2⟩⟩
end
section
variable{prog:au}{w:aA}{A:aB}{E:k8z}{s:ae}{T:String}{r d:aa}{n:Nat}{P:Nat->a8->Prop}{OK:aD->Prop}
theorem j1h{Q:List a8->ae->Prop}(K:gc prog w T r d n P OK)(hh:A.handled=a5)(hok:OK s.heap)(hn:n<=aq)
  (hQ:∀(h':aD)(tk:Nat)(acc:Array a8),(∀b o,s.heap.get? b=a3 o->h'.get? b=a3 o)->lC P acc n->Q acc.toList { s with heap:=h',toks:=tk }):ar (aw prog w) A (collect (.ref r)) Q E s:=by
 have hlt:=K.there _ hok;have hS:(s.heap.push { cls:=.type "list",data:=.seq ([]:List a8).toArray }).get? s.heap.objs.size=a3 { cls:=.type "list",data:=.seq ([]:List a8).toArray }:=X4 _ rfl;have key:∀R:eB->ae->Prop,(∀(h':aD)(tk:Nat)(acc:Array a8)(c:Nat),(∀b o,s.heap.get? b=a3 o->h'.get? b=a3 o)->h'.get? s.heap.objs.size=a3 { cls:=.type "list",dict:=a5,data:=.seq acc c,slots:=#[] }->lC P acc n->R (.ok (.ret (.ref s.heap.objs.size))) { s with heap:=h',toks:=tk }) ->
   bK (aw prog w) A (.builtin "proto.collect" ⟨[.ref r],[]⟩) R s:=λR hR=>by
  refine bP F.entry_proto_collect ?_;rw[Td F.plain_proto_collect _];show ar _ A.in1 (lA [] >>= λl=>jC (.builtin "list.__iadd__" ⟨[l,.ref r],[]⟩)) _ _ s;refine a6 (aN ?_);refine aj ⟨d8 kN _,bP F.entry_list_iadd ?_⟩;rw[Td kN _];show ar _ A.in1 (mr (.ref s.heap.objs.size) (.ref r) (.ref s.heap.objs.size)) _ _ _;exact W.kdl_extend (R:=R) (s:={ s with heap:=s.heap.push { cls:=.type "list",data:=.seq ([]:List a8).toArray } }) K hh (K.keep _ _ hok λb _ o e=>xn _ e) _ (Pz hlt.1) (Pz hlt.2) _ 0 hS
   (λh' tk acc c kp hS' hacc=>hR h' tk acc c (λb o e=>kp b o (X8 (xq e)) (xn _ e)) hS' hacc) hn
 unfold collect;refine a6 (wpAny_runValue (key _ λh' tk acc c kp hS' hacc=>?_));show ar _ A (load s.heap.objs.size >>= _) _ _ _;refine a6 (wpAny_load hS' ?_);exact aj (hQ h' tk acc kp hacc)
theorem Ck {Q:k8z} (K:gc prog w T r d n P OK) (hh:A.handled=a5) (hok:OK s.heap) (hsz:n<=aq) (hTt:(gx T==gx "tuple")=a4)
  (hQ:∀(h':aD)(tk:Nat)(acc:Array a8),(∀b o,s.heap.get? b=a3 o->h'.get? b=a3 o)->lC P acc n->Q (.ref h'.objs.size) { s with heap:=h'.push { cls:=.type "tuple",data:=.seq acc },toks:=tk }) :
  ar (aw prog w) A (call (.type "tuple") [.ref r]) Q E s:=by
 refine callType_codes (Q₁:=λobj s₁=>s₁.TypeIs obj "tuple"/\Q obj s₁) F.called_tuple (F.typeCall_tuple_1 _) F.entry_object_init ?_ λobj s₁ h₁ =>⟨h₁.1,jN obj _,object_init_meets F.called_tuple.init.lookup F.called_tuple.made (by decide) prog w A.in1 _ s₁ ⟨h₁.1,rfl,h₁.2⟩⟩
 refine my ?_;show ar _ A.in1.in1 (do hJ "tuple.__new__" ⟨[.type "tuple",.ref r],[]⟩;jC (.builtin "tuple.__new__" ⟨[.type "tuple",.ref r],[]⟩)) _ _ s;refine a6 (fv (F.newCall_tuple_1 _) (aj ⟨d8 kM _,bP F.entry_tuple_new ?_⟩));rw[Td kM _];have hsub:=sub_tuple_self;have hinit:=init_tuple_lookup;have hmh:=madeHere_tuple;have hTI:=K.type s hok;have hn:=hsz
 wp_walk using wpAny_typeOf hTI,j1h (A:=A.in1.in1) K hh hok hn
 intro h' tk acc kp hacc;show ar _ _ (ba acc.toList.toArray >>= λv=>ret v) _ _ _;unfold ba;refine a6 (aN ?_ (by show acc.toList.toArray.size<=aq;simp only[Array.toArray_toList];rw[hacc.1];exact hsz));refine aj ?_;have e:acc.toList.toArray=acc:=by simp
 rw[e];exact⟨⟨_,X4 _ rfl,rfl⟩,hQ h' tk acc kp hacc⟩
end
section
variable{X:Cx}{ρ:Rho}{a:ai}{ds:List D}{ks:List (List Int)}{pos p p1 p2:aJ}
theorem j0j{P:au}{w:aA}{en:Array hU}{xs:List (List Int×aa×a8)}{acc:Array a8}(h:en.toList=xs.map (kX (fN (fO P w))))(ha:lC (λi v=>∃e,en[i]?=a3 e/\v=e.val) acc en.size):acc=(xs.map λx=>x.2.2).toArray:=by
 obtain⟨h1,h2⟩:=ha;have hl:en.size=xs.length:=by have:=congrArg cT h;simpa using this
 apply Array.ext';refine cG λi=>?_;rw[eZ,X7];by_cases hi:i<acc.size
 .have hv:acc[i]?=a3 acc[i]:=bW hi;obtain⟨e,he,ev⟩:=h2 i _ hv;have he':en.toList[i]?=a3 e:=by simpa using he
  rw[h,X7]at he';rw[iu,hv,ev];obtain⟨x,hx,ex⟩:=Xu.mp he';rw[hx,<-ex];rfl
 .rw[ph (by simpa using hi),ph nofun];rfl
theorem DE.tupVals (ha:DE X ρ a (.dct ks ds)) (hc:X.calm=a7) (hm:X.mg "tuple" = a5) (hg:Gl X "tuple") (hbase:aL a "values" X.env (ay a X.env)=ay a X.env) (hline:(p1.endLine==p2.line)=a7)
  (hs2:a9 [.Call (.Attribute a "values" p1) [] [] p2] X.env=[(a4,ay (.Call (.Attribute a "values" p1) [] [] p2) X.env)]):DE X ρ (.Call (.Name "tuple" p) [.Call (.Attribute a "values" p1) [] [] p2] [] pos) (.tup ds):=λσ H Q R q pins s I=>by
 refine aT (V5 I hg hm boot_tuple ?_);refine callWith_type1 ?_ hs2 rfl;rw[hs2];show ar _ _ (lz ((a4,ay _ X.env)::aO pos [])) _ _ s;refine iS ?_;refine j3 hbase hline (thn (ha σ H (λv H'=>j4 H H'/\Enc X.K (del H' (owns ρ)) (.dct ks ds) v) R (λv H' g e=>⟨g,e⟩) pins s I) λv s1 ⟨x,H1,I1,r1,g1,en⟩=>?_);obtain⟨d,xs,ep,vs,ex,hx,ek,kt,rv,l⟩:=en;subst ex ek;cases r1;have hx1:H1 d=a3 (.dI xs ep):=(of_del hx).2;obtain⟨z1,z2,z3,od,en,h1,h2,h3,h4⟩:=(show jh X.prog X.w H1 s1.heap d (.dI xs ep)from I1.hok _ _ hx1)
 have hsz:en.size=xs.length:=by have:=congrArg cT h4;simpa using this
 refine⟨"dict","dict.values",PySem.F.plainAttrs_dict,iC,PySem.F.type_dict_values,⟨od,h1,h2.1⟩,λb e=>by cases e;exact⟨od,h1,h2.2.1⟩,dX rfl (iP (jdk ⟨od,h1,h2.1⟩ z2 ?_))⟩;refine j2 ?_;have v1:(s1.heap.push { cls:=.type "dict_values",data:=.fields #[.ref d] }).get? s1.heap.objs.size=a3 { cls:=.type "dict_values",data:=.fields #[.ref d] }:=X4 _ rfl;have I2:=I1.kept (t':=s1.toks) (h':=s1.heap.push { cls:=.type "dict_values",data:=.fields #[.ref d] }) λb o e=>xn _ e;refine Ck (jhh (vw:=s1.heap.objs.size) (d:=d) (od:=od) h3) (I1.ok.hd hc) ⟨⟨_,v1,rfl,rfl⟩,xn _ h1⟩ (by rw[hsz];exact z1) (by decide) λh' tk acc kp hacc=>?_;have ea:=j0j h4 hacc;subst ea;have I3:Inv X pins σ H1 { s1 with heap:=h',toks:=tk }:=I2.kept (t':=tk) (h':=h') kp;have hf:H1 h'.objs.size=a5:=I3.hok.fresh (X3 _);have hl:=rv.length;have hxl:vs.length<=aq:=by rw[hl,xj];exact z1
 have I4:=I3.laid (a:=h'.objs.size) (o:=.tup vs) (t':=tk) (h':=h'.push { cls:=.type "tuple",data:=.seq (xs.map λx=>x.2.2).toArray }) (λb u q=>xn _ q) (X3 _) ⟨hxl,_,rv,IsTup.new _ _,Vf.new _ _⟩;have nt:h'.objs.size∉owns ρ:=(R.grow g1).fresh hf;exact⟨.ref h'.objs.size,_,I4,rfl,q _ _ (g1.trans (j7 hf)) ⟨h'.objs.size,vs,rfl,.inl (.inl (by rw[j6 nt];exact j9)),l.mono (jf (j7 hf))⟩⟩
end
section
variable{X:Cx}{ρ:Rho}{it e1 e2:ai}{P:Po}{ds:List D}{x t y:Nat}{nx nt ny:af}{p1 p2 p3 p4 p5 p6 p10 p11 p12 p14 p16 p17 p18:aJ}
noncomputable abbrev jao(nx nt ny:af)(it e1 e2:ai)(p1 p2 p3 p4 p5 p6 p10 p11 p12 p14 p16 p17 p18:aJ):List aP :=
 [.Assign [.Name nx p1] (.Dict [] [] p2) p3,.For (.Name nt p4) it [.Assign [.Name ny p5] e1 p6,.Assign [.Subscript (.Name nx p10) (.Name nt p11) p12] e2 p14] [] p16,.Return (a3 (.Name nx p17)) p18]
theorem Qs:∀ns:List Int,jz (ns.map D.int)=a7
 |[]=>rfl
 |n::ns=>by rw[xu,jz,Qs ns];rfl
theorem Eg{α:Type}:∀{l:List α}{i:Nat}{x:α},l[i]?=a3 x->l.set i x=l
 |[],_,_,_=>rfl
 |y::l,0,x,h=>by simp at h;subst h;rfl
 |y::l,i+1,x,h=>by rw[t8,Eg (by simpa using h)]
theorem j9h{K:k8y}{H:Hp}{A:List aa}(hA:∀a∈A,Hd (H a)){ds:List D}{vs:List V}(n:jz ds=a7)(h:j5 K H ds vs):j5 K (del H A) ds vs:=j5.hide hA n h
theorem DSs.nmake(W:Nat->Rho->List (List Int)->List Int->Prop)(rx:x<ρ.length)(rt:t<ρ.length)(ry:y<ρ.length)(hxt:x≠t)(hxy:x≠y)(hty:t≠y)(hi:DI X (ρ.set x .un) (.Name nt p4) it ds)(h0:W 0 (ρ.set x .un) [] [])
  (hs:∀i d ρ' ks ns,ds[i]?=a3 d->W i ρ' ks ns->∃k d1 n,d=.tup (k.map D.int)/\DE X (ρ'.set t (.val d)) e1 d1/\DE X (((ρ'.set t (.val d)).set y (.val d1)).set x (.val (.dct ks (ns.map D.int)))) e2 (.int n) /\
   ks.contains k=a4/\ks.length<aq/\W (i+1) ((ρ'.set t (.val d)).set y (.val d1)) (ks++[k]) (ns++[n]))
  (hd:∀ρ' ks ns,W ds.length ρ' ks ns->P.rt (.val (.dct ks (ns.map D.int))))
  (hu:X.A.units+100<aM) (hc:X.calm=a7) (hp:d5 (aw X.prog X.w) X.A X.env X.xe) (hN:X.N.Nodup) (hX:X.N[x]?=a3 nx) (hT:X.N[t]?=a3 nt) (hY:X.N[y]?=a3 ny)
  (lx:Loc X.env.scope nx) (lt:Loc X.env.scope nt) (ly:Loc X.env.scope ny) (fx:X.fn nx=a7\/X.env.scope.names.lookup nx=a3 .local) (ft:X.fn nt=a7\/X.env.scope.names.lookup nt=a3 .local) (fy:X.fn ny=a7\/X.env.scope.names.lookup ny=a3 .local)
  (dx:(nx==k92)=a4) (cx:(nx==k93)=a4) (dt:(nt==k92)=a4) (ct:(nt==k93)=a4)
  (s1:aS (.Dict [] [] p2) (a3 (.Name nx p1)) p3.line X.env=pure a4) (s2:aS e1 (a3 (.Name ny p5)) p6.line X.env=pure a4)
  (s3:aS e2 (a3 (.Subscript (.Name nx p10) (.Name nt p11) p12)) p14.line X.env=pure a4) (hf:∀x,aF it X.env x=pure x) :
  DSs X ρ (jao nx nt ny it e1 e2 p1 p2 p3 p4 p5 p6 p10 p11 p12 p14 p16 p17 p18) P:=λσ H E R q=>by
 have vis:∀{z:af},Loc X.env.scope z->Vis X.env.scope z:=λh=>h.elim .inl λz=>.inr (.inl z);refine(Wi (W7 hN hX lx jca s1 fx) (Wi (j5k hp hc piS (Mw hN hT lt ft) (Wi (W7 hN hY ly peS s2 fy)
  (j20 (jc4 hu (Jk hX (vis lx) dx cx) (Jk hT (vis lt) dt ct) peS s3))) hf)
  (j20 (Rx (Jk hX (vis lx) dx cx))))).to ?_
 intro a ha;have R0:Rep X.K (ρ.set x .un) (σ.set x (a3 (.ref a))) H:=R.set_un;have hxl:x<σ.length:=by rw[R.len];exact rx
 refine j3d (A:=[a]) (R':=λJ F=>j4 H F/\Ub X.K (del F (owns (ρ.set x .un))) J ds) (λb hb=>.inr ⟨[],0,by rw[xg.mp hb];exact j9⟩) (by rw[j0m ha];exact hi _ H _ R0 λJ F g ok=>⟨g,ok⟩) λJ F ⟨g,ok⟩ hn=>?_;rw[j27 j9];have fa:F a=a5:=hn a (by simp);refine⟨λi m σ' H'=>∃ρ' Fh xs ep ns,H'=upd Fh a (.dI xs ep)/\Fh a=a5/\Rep X.K ρ' σ' Fh/\j4 F Fh/\(∀b∈owns ρ',b∈owns (ρ.set x .un))/\ρ'.length=ρ.length/\σ'[x]?=a3 (a3 (.ref a)) /\
   (∀z∈xs,SqT X.K Fh z.2.1 (z.1.map V.int))/\Vals (ns.map V.int) (xs.map λz=>z.2.2)/\W i ρ' (xs.map λz=>z.1) ns/\m=ds.length-i/\i<=ds.length,
  ⟨ds.length,ρ.set x .un,F,[],0,[],rfl,fa,R0.grow g,j4.refl _,λb hb=>hb,by simp,Zg hxl,λz hz=>(nomatch hz),.nil,h0,rfl,Ti _⟩,?_⟩
 rintro i m σ' H' ⟨ρ',Fh,xs,ep,ns,rfl,fha,R',gF,sub,hL,sx,kt,rv,w,rfl,hle⟩;have gU:j4 Fh (upd Fh a (.dI xs ep)):=j7 fha;obtain⟨go,stop,yld⟩:=ok i (upd Fh a (.dI xs ep)) (a::owns ρ') (λb o eb=>by
  obtain⟨nb,eb⟩:=of_del eb
  have nba:b≠a:=λz=>by rw[z,fa]at eb;cases eb
  rw[j6,jb nba]
  .exact gF b o eb
  .intro z
   rcases xm.mp z with z|z
   .exact nba z
   .exact nb (sub b z)) (λb hb=>by
  rcases xm.mp hb with z|z
  .rw[z,j9];simp
  .obtain⟨ys,eb⟩:=R'.owned b z
   rw[gU _ _ eb];simp)
 by_cases hlt:i<ds.length
 .obtain⟨k,d1,n,ed,hE,hE2,nk,hkl,w'⟩:=hs i ds[i] ρ' _ ns (kh hlt) w;refine .inr ⟨go hlt,λσ2 H2=>∃ρ2 Fh2 xs2 ep2 ns2,H2=upd Fh2 a (.dI xs2 ep2)/\Fh2 a=a5/\Rep X.K ρ2 σ2 Fh2/\j4 F Fh2/\(∀b∈owns ρ2,b∈owns (ρ.set x .un))/\ρ2.length=ρ.length/\σ2[x]?=a3 (a3 (.ref a)) /\
   (∀z∈xs2,SqT X.K Fh2 z.2.1 (z.1.map V.int))/\Vals (ns2.map V.int) (xs2.map λz=>z.2.2)/\W (i+1) ρ2 (xs2.map λz=>z.1) ns2,
   λσ2 H2 ⟨ρ2,Fh2,xs2,ep2,ns2,z1,z2,z3,z4,z5,z5',z6,z7,z8,z10⟩=>⟨ds.length-(i+1),by omega,ρ2,Fh2,xs2,ep2,ns2,z1,z2,z3,z4,z5,z5',z6,z7,z8,z10,rfl,hlt⟩,λv H2 yv=>?_⟩
  obtain⟨g2,en⟩:=yld v H2 yv;have en:=en _ (kh hlt);have h2a:H2 a=a3 (.dI xs ep):=g2 _ _ j9;have e2:H2=upd (del H2 [a]) a (.dI xs ep):=jb9 h2a;have f2a:del H2 [a] a=a5:=qj (by simp);have gF2:j4 Fh (del H2 [a]):=λb o eb=>by
   have nb:b≠a:=λz=>by rw[z,fha]at eb;cases eb
   rw[j6 (by simpa using nb)];exact g2 b o (gU b o eb)
  have en2:Enc X.K (del (del H2 [a]) (owns ρ')) ds[i] v:=by rw[Qv];exact en
  generalize del H2 [a]=F2 at e2 f2a gF2 en2;subst e2;have R2:Rep X.K (ρ'.set t (.val ds[i])) (σ'.set t (a3 v)) F2:=(R'.grow gF2).set_val en2;have sub2:∀b∈owns (ρ'.set t (.val ds[i])),b∈owns (ρ.set x .un):=λb hb=>sub b ((ji rfl).subset hb);show Qd X e1 (σ'.set t (a3 v)) (upd F2 a (.dI xs ep)) _;refine j3e (A:=[a]) (Q':=λv F3=>j4 F2 F3/\Enc X.K (del F3 (owns (ρ'.set t (.val ds[i])))) d1 v) (λb hb=>.inr ⟨xs,ep,by rw[xg.mp hb];exact j9⟩) (by rw[j0m f2a];exact hE _ F2 _ R2 λv F3 g e=>⟨g,e⟩) λv3 F3 ⟨g3,en3⟩ hn3=>?_;rw[j27 j9];have f3a:F3 a=a5:=hn3 a (by simp);have R3:Rep X.K ((ρ'.set t (.val ds[i])).set y (.val d1)) ((σ'.set t (a3 v)).set y (a3 v3)) F3:=(R2.grow g3).set_val en3;have sub3:∀b∈owns ((ρ'.set t (.val ds[i])).set y (.val d1)),b∈owns (ρ.set x .un):=λb hb=>sub2 b ((ji rfl).subset hb);have sx3:((σ'.set t (a3 v)).set y (a3 v3))[x]?=a3 (a3 (.ref a)):=by rw[qe (c8 hxy),qe (c8 hxt)];exact sx
  have lenN:σ'.length=ρ.length:=by rw[R'.len,hL]
  have htl:t<σ'.length:=by rw[lenN];exact rt
  have hL3:((ρ'.set t (.val ds[i])).set y (.val d1)).length=ρ.length:=by rw[cX,cX,hL]
  have st3:((σ'.set t (a3 v)).set y (a3 v3))[t]?=a3 (a3 v):=by rw[qe (c8 hty)];exact Zg htl
  have kt3:∀z∈xs,SqT X.K F3 z.2.1 (z.1.map V.int):=λz hz=>g3.seqT (gF2.seqT (kt z hz));rw[ed]at en2;obtain⟨tb,ys,ev,sq,li⟩:=en2;rw[J9 li]at sq;subst ev;have sq3:SqT X.K F3 tb (k.map V.int):=g3.seqT (jo.seqT sq);clear R2;show Qd X e2 ((σ'.set t (a3 (V.ref tb))).set y (a3 v3)) (upd F3 a (.dI xs ep)) _;generalize (σ'.set t (a3 (V.ref tb))).set y (a3 v3)=σ3 at R3 sx3 st3 ⊢;generalize (ρ'.set t (.val ds[i])).set y (.val d1)=ρ3 at R3 sub3 hL3 hE2 w' ⊢;have g4:j4 F3 (upd F3 a (.dI xs ep)):=j7 f3a;have hO:∀b∈owns ρ3,Hd (upd F3 a (.dI xs ep) b):=λb hb=>.inl (let ⟨zs,e⟩:=R3.owned b hb;⟨zs,g4 _ _ e⟩);have na:a∉owns ρ3:=λz=>by obtain⟨zs,e⟩:=R3.owned a z;rw[f3a]at e;cases e
  have R4:Rep X.K (ρ3.set x (.val (.dct (xs.map λz=>z.1) (ns.map D.int)))) σ3 (upd F3 a (.dI xs ep)):=by
   have z:=(R3.grow g4).set_val (i:=x) (d:=.dct (xs.map λz=>z.1) (ns.map D.int)) (v:=.ref a) ⟨a,xs,ep,ns.map V.int,rfl,by rw[j6 na];exact j9,rfl,λz hz=>?_,rv,j9h hO (Qs ns) (j5.ints ns)⟩
   .rw[Eg sx3]at z;exact z
   .have e:Enc X.K (upd F3 a (.dI xs ep)) (.tup (z.1.map D.int)) (.ref z.2.1):=⟨_,_,rfl,g4.seqT (kt3 z hz),j5.ints z.1⟩
    obtain⟨b,zs,e1,e2,e3⟩:=e.hide hO (by rw[Z6];exact Qs z.1);cases e1;rw[J9 e3]at e2;exact e2
  refine hE2 σ3 _ _ R4 λv4 H4 g5 en4=>?_;cases(show v4=.int n from en4);have h4a:H4 a=a3 (.dI xs ep):=g5 _ _ j9;have f4a:del H4 [a] a=a5:=qj (by simp);have gF4:j4 F3 (del H4 [a]):=λb o eb=>by
   have nb:b≠a:=λz=>by rw[z,f3a]at eb;cases eb
   rw[j6 (by simpa using nb)];exact g5 b o (g4 b o eb)
  have gU4:j4 (del H4 [a]) H4:=jo;refine⟨.ref a,sx3,.ref tb,st3,a,tb,xs,ep,k,rfl,h4a,λz hz=>gU4.seqT (gF4.seqT (kt3 z hz)),rfl,gU4.seqT (gF4.seqT sq3),nk,by rw[xj]at hkl;exact hkl,λu ep' ru=>?_⟩;refine⟨ρ3,del H4 [a],xs++[(k,tb,u)],ep',ns++[n],?_,f4a,R3.grow gF4,gF.trans (gF2.trans (g3.trans gF4)),sub3,hL3,sx3,λz hz=>?_,?_,by rw[Xp];exact w'⟩
  .funext b
   by_cases z:b=a
   .subst z;rw[j9,j9]
   .rw[jb z,jb z,j6 (by simpa using z)]
  .rcases Pq.mp hz with hz|hz
   .exact gF4.seqT (kt3 z hz)
   .rw[xg.mp hz];exact gF4.seqT sq3
  .rw[Xp,Xp];exact rv.append (.cons ru .nil)
 .have e:i=ds.length:=by omega
  subst e;refine .inl ⟨stop (X3 _),.ref a,sx,?_⟩;refine q.rt (.val (.dct _ (ns.map D.int))) (.ref a) _ (hd ρ' _ ns w) ⟨λb o eb=>gU b o (gF b o (g b o (of_del eb).2)),a,xs,ep,ns.map V.int,rfl,j9,rfl,λz hz=>gU.seqT (kt z hz),rv,j5.ints ns⟩
end
theorem Ft{M:gL}{A:aB}{E:k8z}{s:ae}{β:Type}{a b:Nat}(f:Nat->β->kY (ForInStep β))(I:Nat->β->ae->Prop)(Q:β->ae->Prop)
  (turn:∀i c st,a<=i->i<b->I i c st->ar M A (f i c) (λr s'=>match r with|.yield c'=>I (i+1) c' s'|.done c'=>Q c' s') E st)
  (fin:∀c st,I (max a b) c st->Q c st) (c:β) (h:I a c s):ar M A (forIn [a:b] c f) Q E s:=by
 rw[Std.Legacy.Range.forIn_eq_forIn_range'];have hsz:([a:b]:Std.Legacy.Range).size=b-a:=by simp[Std.Legacy.Range.size]
 show ar M A (forIn (lV a ([a:b]:Std.Legacy.Range).size 1) c f) Q E s;rw[hsz];refine gX f (λl c st=>∃i,a<=i/\i<=max a b/\l=lV i (max a b-i) 1/\I i c st) Q ?_ ?_ _ c ⟨a,X3 _,by omega,by congr 1;omega,h⟩
 .rintro x rest c st ⟨i,hai,hib,hl,hI⟩;have hlt:i<max a b:=by
   rcases eC i (max a b)with h'|h'
   .exact h'
   .rw[show max a b-i=0 by omega]at hl;simp at hl
  obtain⟨n,hn⟩:∃n,max a b-i=n+1:=⟨max a b-i-1,by omega⟩
  rw[hn,ko]at hl;obtain⟨rfl,rfl⟩:=List.cons.inj hl;refine aI (turn x c st hai nofun hI) (λr st' h'=>?_) λ_ _ h=>h;cases r with
  |done c'=>exact h'
  |yield c'=>exact⟨x+1,by omega,by omega,by congr 1;omega,h'⟩
 .rintro c st ⟨i,hai,hib,hl,hI⟩;have:i=max a b:=by
   rcases eC i (max a b)with h'|h'
   .obtain⟨n,hn⟩:∃n,max a b-i=n+1:=⟨max a b-i-1,by omega⟩
    rw[hn,ko]at hl;cases hl
   .omega
  subst this;exact fin c st hI
theorem Ke(l:aa)(items:Array a8)(n:Nat)(dd:Option aa)(sl:Array (Option a8))(x:a8)(e:a8->Bool)(k:Nat)(hk:k<items.size)(h0:∀(j:Nat)(h:j<items.size),j<k->e items[j]=a4)(h1:e items[k]=a7) :
  kC (d9.«tuple.index» ⟨[.ref l,x],[]⟩)
   (λA R s=>s.heap.get? l=a3 { cls:=.type "tuple",dict:=dd,data:=.seq items n,slots:=sl }/\(∀y,y∈items->cN A.in1 s y x (e y))/\R (.ok (.ret (.int k s.toks))) { s with toks:=s.toks+1 }) :=
 .of_wp λprog w A R s h=>by
  obtain⟨hp,g,d,tk,os⟩:=s;obtain⟨hl,he,h⟩:=h
  wp_walk using dw hl,Ft _ (λi b s'=>b.1=a5/\s'=⟨hp,g,d,tk,os⟩/\i<=k) _
  case turn =>
   rintro i c s'-hi ⟨hb,rfl,hik⟩;have hlt:i<items.size:=by omega
   have hy:items[i]?=a3 items[i]:=by simp[hlt]
   rw[hy];refine a6 (he items[i] (Array.getElem_mem hlt) prog w _ _ ?_);by_cases z:i=k
   .subst z;rw[h1]
    wp_walk
    exact⟨_,rfl,h⟩
   .rw[h0 i hlt nofun]
    wp_walk
    exact⟨rfl,rfl,by omega⟩
  case fin =>rintro c s' ⟨hb,rfl,hik⟩;omega
  case h =>exact⟨rfl,rfl,Ti _⟩
section
variable{X:Cx}{ρ:Rho}{a e:ai}{l:List D}{d:D}{p1 pos:aJ}
noncomputable def ixD(d:D):List D->Option Nat
 |[]=>a5
 |x::r=>if deq x d=a7 then a3 0 else(ixD d r).map (· + 1)
theorem j0a{d:D}:∀{l:List D}{k:Nat},ixD d l=a3 k->∃x,l[k]?=a3 x/\deq x d=a7/\∀j y,j<k->l[j]?=a3 y->deq y d=a4
 |[],k,h=>by cases h
 |x::r,k,h=>by
  unfold ixD at h;split at h
  .rename_i z;cases h;exact⟨x,rfl,z,λj y hj=>absurd hj (Nat.not_lt_zero _)⟩
  .rename_i z;cases q:ixD d r with
   |none=>rw[q]at h;cases h
   |some m =>
    rw[q]at h;cases h;obtain⟨y,hy,e,f⟩:=j0a q;refine⟨y,hy,e,λj y hj hq=>?_⟩;cases j with
    |zero=>cases hq;simpa using z
    |succ j=>exact f j y (Nat.lt_of_succ_lt_succ hj) hq
theorem j60 (hu:X.A.units+100<aM):MtR X "tuple.index" (λx vs H Q=>∃t xs ds d y k,x=.ref t/\vs=[y]/\SqT X.K H t xs/\j5 X.K H ds xs/\Enc X.K H d y/\D.depL ds<=97/\d.dep<10000/\ixD d ds=a3 k/\Q (.int (k:Nat)) H):=by
 rintro pins s σ H x vs v us Q I rx rv ⟨t,xs,ds,d,y,k,e,e',sq,l,en,hd,nd,hk,q⟩;subst e e';cases rx;obtain⟨u,eu,ru⟩:=rv.one;subst eu;obtain⟨its,ri,⟨⟨cl,dd,da,sl⟩,h1,h2,n,h3⟩,_⟩:=I.tuple sq;have h2:cl=.type "tuple":=h2;have h3:da=.seq its.toArray n:=h3;subst h2 h3;obtain⟨z,hz,ez,fz⟩:=j0a hk;have ll:=l.length;have rl:=ri.length;have hks:k<its.toArray.size:=by have:=(Xa.mp hz).1;simp;omega
 have at_:∀(j:Nat)(h:j<its.toArray.size)(z:D),ds[j]?=a3 z->eqW X H d its.toArray[j]=deq z d:=λj h z hz=>by
  obtain⟨x,hx,ex⟩:=l.get hz;obtain⟨w,hw,rw⟩:=ri.get hx;have g1:its.toArray[j]=w:=by simp at h ⊢;rw[kh (by simpa using h)]at hw;exact ax hw
  have:=D.depL_le hz;rw[g1];exact M9 I nofun ex rw
 refine bD iy ⟨_,h1,rfl⟩ F.entry_tuple_index (F.args_tuple_index_2 _ _) (Ke t its.toArray n dd sl u (eqW X H d) k hks (λj h hj=>?_) (by rw[at_ k hks z hz];exact ez))
  ⟨h1,λy hy=>Vk (n:=97) I en ru nd (by show X.A.units+1+97<aM;omega) hd l ri y (by simpa using hy),⟨.int _,H,I.tok _,⟨_,rfl⟩,q⟩⟩
 have hlt:j<ds.length:=by simp at h;omega
 rw[at_ j h ds[j] (kh hlt)];exact fz j _ hj (kh hlt)
theorem DE.indexT {b:ai} {ds:List D} {k:Nat} {p2:aJ} (hu:X.A.units+100<aM) (ha:DT X ρ a (.tup ds)) (hb:DT X ρ b d) (hd:D.depL ds<=97) (nd:d.dep<10000) (hk:ixD d ds=a3 k) (hbase:aL a "index" X.env (ay a X.env)=ay a X.env)
  (hfew:((aO p2 (a9 [b] X.env)).all (λx=>!x.1)&&(bB p2 (aY [] X.env)).all (λx=>x.1.isSome)
   && decide (([b]:List ai).length+([]:List aZ).length+(if ([]:List aZ).isEmpty then 0 else 1)<30))=a7) (hline:(p1.endLine==p2.line)=a7)
  (hs:a9 [b] X.env=(a4,ay b X.env)::a9 [] X.env):DE X ρ (.Call (.Attribute a "index" p1) [b] [] p2) (.int (k:Nat)):=λσ H Q R q =>
 (Wm gz iy PySem.F.type_tuple_index (j60 hu) peS (jc peS jr hs) hbase hfew hline hs rfl).to (ha σ H _ R λv H1 g1 ⟨t,xs,e,sq,l⟩=>⟨by rw[e];exact .inr (.inl ⟨rfl,xs,sq⟩),hb σ H1 _ (R.grow g1) λu H2 g2 e2 =>
  ⟨t,xs,ds,d,u,k,e,rfl,g2.seqT sq,l.mono g2,e2,hd,nd,hk,q _ H2 (g1.trans g2) rfl⟩⟩)
end
section
variable{X:Cx}{pins:k90}{σ:St}{H:Hp}{l q S I:aa}{xs:List V}{R:eB->ae->Prop}
end
section
variable{X:Cx}{ρ:Rho}{σ:St}{H:Hp}{q:aa}{f:af}{l:List D}{xs:List V}{kf:Nat->Int}{a:ai}{d:D}{p p1 pk pos:aJ}
end
section
variable{X:Cx}{pins:k90}{σ:St}{H:Hp}{l S I:aa}{xs:List V}{R:eB->ae->Prop}
def jik(X:Cx)(pins:k90)(σ:St)(H:Hp)(xs:List V)(bt:Nat->Nat->Bool):Prop:=∀(i j:Nat)(x y:V)(u v:a8)(s:ae)(Q:k8z)(E:k8z),xs[i]?=a3 x->xs[j]?=a3 y->RelV x u->RelV y v->Inv X pins σ H s ->
 Q (.bool (bt i j)) s->ar (aw X.prog X.w) X.A.in1 (i5 .Lt u v) Q E s
theorem jck(bt:Nat->Nat->Bool)(hh:X.A.handled=a5)(hl:SqL X.K H l xs)(hSI:S≠I)(fS:Qm X pins H S)(fI:Qm X pins H I)(cmp:jik X pins σ H xs bt)
  (hR:∀x u s',xs[aV bt (xs.length-1)]?=a3 x->RelV x u->Inv X pins σ H s'->R (.ok (.ret u)) s') :
  ∀(r j:Nat)(s:ae)(x:V)(u:a8)(c:Nat),xs.length-(j+1)=r->j+1<=xs.length->Inv X pins σ H s->s.heap.get? S=a3 (fJ "list" #[u,u] c) ->
   s.heap.IsListIter I l (j+1)->xs[aV bt j]?=a3 x->RelV x u->bK (aw X.prog X.w) X.A (.builtin "min.loop" ⟨[.ref I,.none,.ref S],[]⟩) R s:=by
 have hname:(toString "min" ++ toString ".loop":String) = "min.loop":=by decide
 have fp:∀b∈[S,I],Qm X pins H b:=λb hb=>by
  rcases xm.mp hb with e|hb
  .subst e;exact fS
  .rw[xg.mp hb];exact fI
 intro r;induction r with
 |zero =>
  intro j s x u c hr hj I1 oS it hx ru;have hin:j+1=xs.length:=by omega
  obtain⟨its,rv,p,_⟩:=I1.list hl;have hlen:=rv.length;refine bP dO ?_;rw[Td Pk _];show ar _ X.A.in1 (gY (.ref S) >>= _) _ _ _;refine a6 (dQ oS rfl ?_);show ar _ X.A.in1 (tryCatch (fw (.ref I)) _ >>= _) _ _ _;refine a6 (fq (kg hh it p.isList (by simp;omega) λh' eb=>?_));have I2:Inv X pins σ H { s with heap:=h' }:=I1.chg (ch:=[S,I]) fp λb o hb e=>eb b o (λz=>hb (by simp[z])) e;have oS':h'.get? S=a3 (fJ "list" #[u,u] c):=eb S _ hSI oS;show ar _ X.A.in1 (updateSeq S (λ_=>#[]) >>= _) _ _ _;refine a6 ?_;refine i8 oS' rfl (a6 (i4 (aj ?_)));have s1:=T5 h' S (dq λ_=>(#[]:Array a8));exact hR x u _ (by rw[<-hin];exact hx) ru (I2.chg (ch:=[S,I]) fp λb o hb e=>(s1.2 b (λz=>hb (by simp[z]))).trans e)
 |succ r ih =>
  intro j s x u c hr hj I1 oS it hx ru;have hlt:j+1<xs.length:=by omega
  obtain⟨its,rv,p,_⟩:=I1.list hl;have hlen:=rv.length;have hx1:xs[j+1]?=a3 xs[j+1]:=by simp[hlt]
  obtain⟨v,hv,rv1⟩:=rv.get hx1;refine bP dO ?_;rw[Td Pk _];show ar _ X.A.in1 (gY (.ref S) >>= _) _ _ _;refine a6 (dQ oS rfl ?_);show ar _ X.A.in1 (tryCatch (fw (.ref I)) _ >>= _) _ _ _;refine a6 (fq (eU it p.isList (x:=v) (by simpa using hv) λh' it' sb=>?_));have I2:Inv X pins σ H { s with heap:=h' }:=I1.chg (ch:=[S,I]) fp λb o hb e=>(sb.2 b (λz=>hb (by simp[z]))).trans e;have oS':h'.get? S=a3 (fJ "list" #[u,u] c):=(sb.2 S hSI).trans oS;obtain⟨oI,eI,cI,dI⟩:=id it';show ar _ X.A.in1 (tryCatch (ip [v,v] (i5 .Lt v u >>= _)) _ >>= _) _ _ _;refine a6 (fq (bC (a6 (cmp (j+1) (aV bt j) _ _ v u _ _ _ hx1 hx rv1 ru I2 ?_))));refine a6 (bC (bu ?_));refine a6 (i4 (aj ?_));cases hb:bt (j+1) (aV bt j) with
  |true =>
   have s1:=T5 h' S (dq λ_=>#[v,v]);obtain⟨c2,hc2⟩:∃c2,(h'.update S (dq λ_=>#[v,v])).get? S=a3 (fJ "list" #[v,v] c2):=⟨_,mz oS' λ_=>#[v,v]⟩
   simp only[if_true];refine a6 ?_;refine i8 oS' rfl (a6 (i4 ?_));rw[hname];exact aj ⟨d8 Pk _,ih (j+1) _ _ v c2 nofun hlt (I2.chg (ch:=[S,I]) fp λb o hb e=>(s1.2 b (λz=>hb (by simp[z]))).trans e) hc2
    ⟨oI,(s1.2 I hSI.symm).trans eI,cI,dI⟩ (by simp only[aV,hb,if_true];exact hx1) rv1⟩
  |false =>simp only[Xv,if_false];refine a6 (i4 ?_);rw[hname];exact aj ⟨d8 Pk _,ih (j+1) _ x u c nofun hlt I2 oS' ⟨oI,eI,cI,dI⟩ (by simp only[aV,hb,Xv,if_false];exact hx) ru⟩
theorem j65(bt:Nat->Nat->Bool)(hh:X.A.handled=a5){s:ae}{Q:VK}{E:k8z}(I0:Inv X pins σ H s)(hl:SqL X.K H l xs)(hne:0<xs.length)(cmp:jik X pins σ H xs bt)
  (hQ:∀x,xs[aV bt (xs.length-1)]?=a3 x->Q x H):ar (aw X.prog X.w) X.A (call (.builtin "min") [.ref l]) (EP X pins σ Q) E s:=by
 have hname:(toString "min" ++ toString ".loop":String) = "min.loop":=by decide
 obtain⟨its0,rv0,p0,_⟩:=I0.list hl;refine call_function_tree PySem.F.kind_min PySem.F.plain_min PySem.F.entry_min (PySem.F.args_min1 _) ?_;show ar _ X.A.in1 (Builtin.Builtins.bindParams "min" ["key","default"] 0 ⟨[],[]⟩ >>= _) _ _ s;refine a6 (fv (show Builtin.Builtins.bindParams "min" ["key","default"] 0 ⟨[],[]⟩=pure [a5,a5]from rfl) ?_);refine a6 (aj ?_);refine a6 (bU p0.isList ?_);refine a6 (wpAny_newList ?_ (Ti _));rw[hname];generalize hA:s.heap.push { cls:=.type "list_iterator",data:=.fields #[.ref l,.int 0 0] }=h1;have z1:h1.objs.size=s.heap.objs.size+1:=by rw[<-hA];exact size_push' ..
 have gI:(h1.push (fJ "list" #[] 0)).get? s.heap.objs.size=a3 { cls:=.type "list_iterator",data:=.fields #[.ref l,.int 0 0] }:=by rw[<-hA];exact xn _ (X4 _ rfl)
 have gS:(h1.push (fJ "list" #[] 0)).get? h1.objs.size=a3 (fJ "list" #[] 0):=X4 _ rfl;have I1:Inv X pins σ H { s with heap:=h1.push (fJ "list" #[] 0) }:=I0.kept (t':=s.toks) λb o e=>xn _ (by rw[<-hA];exact xn _ e);have fI:Qm X pins H s.heap.objs.size:=I0.fpOk (X3 _) (I0.hok.fresh (X3 _));have fS:Qm X pins H h1.objs.size:=I0.fpOk (by rw[z1];exact P0 _) (I0.hok.fresh (by rw[z1];exact P0 _));have hSI:h1.objs.size≠s.heap.objs.size:=by rw[z1];exact Pz (dY _)
 have fp:∀b∈[h1.objs.size,s.heap.objs.size],Qm X pins H b:=λb hb=>by
  rcases xm.mp hb with e|hb
  .subst e;exact fS
  .rw[xg.mp hb];exact fI
 refine aj ⟨d8 Pk _,?_⟩;obtain⟨its,rv,p,_⟩:=I1.list hl;have hlen:=rv.length;have hx0:xs[0]?=a3 xs[0]:=by simp[hne]
 obtain⟨v,hv,rv1⟩:=rv.get hx0;refine bP dO ?_;rw[Td Pk _];show ar _ X.A.in1 (gY (.ref _) >>= _) _ _ _;refine a6 (dQ gS rfl ?_);show ar _ X.A.in1 (tryCatch (fw (.ref s.heap.objs.size)) _ >>= _) _ _ _;refine a6 (fq (eU (i:=0) ⟨_,gI,rfl,rfl⟩ p.isList (x:=v) (by simpa using hv) λh' it' sb=>?_));have I2:Inv X pins σ H { s with heap:=h' }:=I1.chg (ch:=[h1.objs.size,s.heap.objs.size]) fp λb o hb e=>(sb.2 b (λz=>hb (by simp[z]))).trans e;have oS':h'.get? h1.objs.size=a3 (fJ "list" #[] 0):=(sb.2 _ hSI).trans gS;obtain⟨oI,eI,cI,dI⟩:=id it';have s1:=T5 h' h1.objs.size (dq λ_=>#[v,v]);obtain⟨c2,hc2⟩:∃c2,(h'.update h1.objs.size (dq λ_=>#[v,v])).get? h1.objs.size=a3 (fJ "list" #[v,v] c2):=⟨_,mz oS' λ_=>#[v,v]⟩
 show ar _ X.A.in1 (updateSeq h1.objs.size (λ_=>#[v,v]) >>= _) _ _ _;refine a6 ?_;refine i8 oS' rfl ?_;rw[hname];exact aj ⟨d8 Pk _,jck bt hh hl hSI fS fI cmp (λx u s' hx ru I=>⟨x,H,I,ru,hQ x hx⟩) _ 0 _ _ v c2 rfl hne
  (I2.chg (ch:=[h1.objs.size,s.heap.objs.size]) fp λb o hb e=>(s1.2 b (λz=>hb (by simp[z]))).trans e) hc2 ⟨oI,(s1.2 _ hSI.symm).trans eI,cI,dI⟩ hx0 rv1⟩
end
noncomputable def Jv(l:List (List Int))(i j:Nat):Bool:=HT.lexLt (l.getD i []) (l.getD j [])
section
variable{X:Cx}{ρ:Rho}{a:ai}{l:List (List Int)}{k:List Int}{p pos:aJ}
theorem DT.minT (hu:X.A.units+100<aM) (hcalm:X.calm=a7) (hm:X.mg "min" = a5) (hg:Gl X "min") (ha:DT X ρ a (.lst (l.map λk=>D.tup (k.map D.int)))) (hk:l[aV (Jv l) (l.length-1)]?=a3 k) (hs:a9 [a] X.env=[(a4,ay a X.env)]) :
  DT X ρ (.Call (.Name "min" p) [a] [] pos) (.tup (k.map D.int)):=λσ H Q R q pins s I=>by
 refine aT (V5 I hg hm kD ?_ (by decide) (by decide));refine callWith_builtin1 (thn ((jc (es:=[]) peS jr hs).to (σ:=σ) (H:=H) (Q:=λvs H1=>∃v,vs=[v]/\j4 H H1/\Enc X.K H1 (.lst (l.map λk=>D.tup (k.map D.int))) v) (ha σ H _ R λv H1 g1 e1=>⟨v,rfl,g1,e1⟩) pos pins s I) λus s1 ⟨vs,H1,I1,r1,v,ev,g1,e1⟩=>?_) hs rfl;subst ev;obtain⟨b,xs,eb,sq,en⟩:=e1;subst eb;obtain⟨u,eu,ru⟩:=r1.one;subst eu;cases(show u=aC b from ru);have hlen:xs.length=l.length:=by rw[en.length,xj]
 have hin:=(Xa.mp hk).1;have item:∀{i:Nat}{x:V},xs[i]?=a3 x->∃t,x=.ref t/\SqT X.K H1 t ((l.getD i []).map V.int)/\Enc X.K H1 (.tup ((l.getD i []).map D.int)) x:=λ{i x} hx=>by
  obtain⟨d,hd,ed⟩:=en.get' hx;rw[X7]at hd;obtain⟨k',hk',ek⟩:=Xu.mp hd;subst ek;have eg:l.getD i []=k':=by rw[km,hk'];rfl
  rw[eg];obtain⟨t,ys,e1,sq',l'⟩:=id ed;rw[J9 l']at sq';exact⟨t,e1,sq',ed⟩
 refine j65 (Jv l) (I.ok.hd hcalm) I1 sq nofun (λi j x y u v s2 Q2 E2 hx hy rx ry I2 hq=>?_) λx hx=>?_
 .obtain⟨t,e1,s1',_⟩:=item hx;obtain⟨t',e2,s2',_⟩:=item hy;subst e1 e2;cases rx;cases ry;obtain⟨its,r1,p1,_⟩:=I2.tuple s1';obtain⟨its2,r2,p2,_⟩:=I2.tuple s2';exact HT.lt_tupInts (A:=X.A.in1) p1 p2 (intsAre_of r1) (intsAre_of r2) (by show X.A.units+1<aM;omega) hq
 .rw[hlen]at hx;obtain⟨t,e1,_,ed⟩:=item hx;have eg:l.getD (aV (Jv l) (l.length-1)) []=k:=by rw[km,hk];rfl
  rw[eg]at ed;exact q x H1 g1 ed
end
section
variable{X:Cx}{ρ:Rho}{it e2:ai}{P:Po}{ds:List D}{x t:Nat}{nx nt:af}{p1 p2 p3 p4 p10 p11 p12 p14 p16 p17 p18:aJ}
end
noncomputable def jlw(p q:Int×List Int):Bool:=if p.1=q.1 then HT.lexLt p.2 q.2 else decide (p.1<q.1)
noncomputable def Dr(l:List (Int×List Int))(i j:Nat):Bool:=jlw (l.getD i (0,[])) (l.getD j (0,[]))
noncomputable def pairD(p:Int×List Int):D:=.tup [.int p.1,.tup (p.2.map D.int)]
theorem Nj:∀l:List Int,HT.lexLt l l=a4
 |[]=>rfl
 |x::l=>by rw[HT.lexLt_cons,if_pos rfl,Nj l]
theorem Bq:∀l:List Int,D.depL (l.map D.int)=0
 |[]=>rfl
 |x::l=>by rw[xu,D.depL,Bq l];rfl
theorem Lx:∀{ns ms:List Int},v5 (ns.map D.int) (ms.map D.int)=a7->ns=ms
 |[],[],_=>rfl
 |[],_::_,h=>nomatch h
 |_::_,[],h=>nomatch h
 |x::ns,y::ms,h=>by rw[xu,xu,Z2,Xg]at h;rw[Lx h.2,show x=y from by simpa [j6p]using h.1]
section
open PySem.SeqAt
open PySem.AutoSeq1 (wpAny_loadPart')
open PySem.MeetsSeq PySem.MeetsSeq2 PySem.MeetsSeq3
theorem Kc(l b x y:aa)(a c:Int)(t u:iq)(n n2:Nat)(dd dd2:Option aa)(sl sl2:Array (Option a8))(e r:Bool) :
  kC (d9.«tuple.__lt__» ⟨[.ref l,.ref b],[]⟩)
   (λA R s=>s.heap.get? l=a3 { cls:=.type "tuple",dict:=dd,data:=.seq #[.int a t,.ref x] n,slots:=sl }/\s.heap.get? b=a3 { cls:=.type "tuple",dict:=dd2,data:=.seq #[.int c u,.ref y] n2,slots:=sl2 } /\
    EqAt A.in1 s (.ref x) (.ref y) e/\(∀(prog:au)(w:aA)(E:k8z)(Q:k8z),Q (.bool r) s->ar (aw prog w) A.in1 (i5 .Lt (.ref x) (.ref y)) Q E s) /\
    R (.ok (.ret (.bool (if a=c then(if e=a7 then a4 else r)else decide (a<c))))) s) :=
 .of_wp λprog w A R s h=>by
  obtain⟨hp,g,d,tk,os⟩:=s;obtain⟨hl,hb,hx,hr,h⟩:=h;have f2:=gu
  wp_walk using dw hl,dw hb,gX _ (λrest b s'=>b.1=a5/\s'=⟨hp,g,d,tk,os⟩ /\
   (rest=[(bj a t,bj c u),(aC x,aC y)]\/(rest=[(aC x,aC y)]/\a=c)\/(rest=[]/\a=c/\e=a7))) _
  case turn =>
   rintro⟨y',x'⟩ rest b s' ⟨hb',rfl,hz⟩;rcases hz with hz|⟨hz,ac⟩|⟨hz,_⟩
   .injection hz with hyx hrest;injection hyx with hy hx';subst hy hx';obtain⟨e',he,hiff⟩:=HT.eqAt_int A.in1 ⟨hp,g,d,tk,os⟩ a t c u;refine a6 (he prog w _ _ ?_);cases e' with
    |true =>
     wp_walk
     exact⟨rfl,rfl,.inr (.inl ⟨hrest,hiff.mp rfl⟩)⟩
    |false =>
     rw[if_neg (λq=>absurd (hiff.mpr q) xf)]at h;have hri:=HT.rcLt_int A.in1 ⟨hp,g,d,tk,os⟩ a t c u prog w
     wp_walk using hri
     exact⟨_,rfl,by simpa using h⟩
   .injection hz with hyx hrest;injection hyx with hy hx';subst hy hx';refine a6 (hx prog w _ _ ?_);rw[if_pos ac]at h;cases e with
    |true =>
     wp_walk
     exact⟨rfl,rfl,.inr (.inr ⟨hrest,ac,rfl⟩)⟩
    |false =>
     have hri:=hr prog w
     wp_walk using hri
     exact⟨_,rfl,by simpa using h⟩
   .cases hz
  case fin =>
   rintro⟨b1,b2⟩ s' ⟨hb',rfl,hz⟩;simp only at hb';subst hb';rcases hz with hz|⟨hz,ac⟩|⟨hz,ac,e1⟩
   .cases hz
   .cases hz
   .rw[if_pos ac,if_pos e1]at h
    wp_walk
    exact⟨_,rfl,by simpa [eG]using h⟩
  case h =>exact⟨rfl,rfl,.inl rfl⟩
end
section
variable{X:Cx}{ρ:Rho}{a:ai}{l:List (Int×List Int)}{k:Int×List Int}{p pos:aJ}
theorem DT.minP (hu:X.A.units+100<aM) (hcalm:X.calm=a7) (hm:X.mg "min" = a5) (hg:Gl X "min") (ha:DT X ρ a (.lst (l.map pairD))) (hk:l[aV (Dr l) (l.length-1)]?=a3 k) (hs:a9 [a] X.env=[(a4,ay a X.env)]) :
  DT X ρ (.Call (.Name "min" p) [a] [] pos) (pairD k):=λσ H Q R q pins s I=>by
 refine aT (V5 I hg hm kD ?_ (by decide) (by decide));refine callWith_builtin1 (thn ((jc (es:=[]) peS jr hs).to (σ:=σ) (H:=H) (Q:=λvs H1=>∃v,vs=[v]/\j4 H H1/\Enc X.K H1 (.lst (l.map pairD)) v) (ha σ H _ R λv H1 g1 e1=>⟨v,rfl,g1,e1⟩) pos pins s I) λus s1 ⟨vs,H1,I1,r1,v,ev,g1,e1⟩=>?_) hs rfl;subst ev;obtain⟨b,xs,eb,sq,en⟩:=e1;subst eb;obtain⟨u,eu,ru⟩:=r1.one;subst eu;cases(show u=aC b from ru);have hlen:xs.length=l.length:=by rw[en.length,xj]
 have hin:=(Xa.mp hk).1;have item:∀{i:Nat}{x:V},xs[i]?=a3 x->Enc X.K H1 (pairD (l.getD i (0,[]))) x:=λ{i x} hx=>by
  obtain⟨d,hd,ed⟩:=en.get' hx;rw[X7]at hd;obtain⟨k',hk',ek⟩:=Xu.mp hd;subst ek;have eg:l.getD i (0,[])=k':=by rw[km,hk'];rfl
  rw[eg];exact ed
 have part:∀{q:Int×List Int}{x:V},Enc X.K H1 (pairD q) x->∃t y,x=.ref t/\SqT X.K H1 t [.int q.1,.ref y]/\SqT X.K H1 y (q.2.map V.int)/\Enc X.K H1 (.tup (q.2.map D.int)) (.ref y):=λ{q x} ed=>by obtain⟨t,ys,e1,sq',l'⟩:=ed;obtain⟨v1,ys1,rfl,e2,v2,ys2,rfl,e3,rfl⟩:=l';cases(show v1=.int q.1 from e2);obtain⟨y,zs,e4,sq2,l4⟩:=id e3;subst e4;rw[J9 l4]at sq2;exact⟨t,y,e1,sq',sq2,e3⟩
 refine j65 (Dr l) (I.ok.hd hcalm) I1 sq nofun (λi j x y u v s2 Q2 E2 hx hy rx ry I2 hq=>?_) λx hx=>?_
 .obtain⟨t,x1,e1,s1',s1'',en1⟩:=part (item hx);obtain⟨t',y1,e2,s2',s2'',en2⟩:=part (item hy);subst e1 e2;cases rx;cases ry;obtain⟨its,r1,p1,_⟩:=I2.tuple s1';obtain⟨its2,r2,p2,_⟩:=I2.tuple s2';obtain⟨itx,rx1,px,_⟩:=I2.tuple s1'';obtain⟨ity,ry1,py,_⟩:=I2.tuple s2'';obtain⟨_,_,rfl,⟨k1,rfl⟩,eu⟩:=r1.two;obtain⟨_,_,rfl,⟨k2,rfl⟩,ev⟩:=r2.two;cases eu;cases ev;have hE:=(Vi I2 1 X.A.in1.in1 (d:=.tup ((l.getD i (0,[])).2.map D.int)) (d':=.tup ((l.getD j (0,[])).2.map D.int)) (by rw[D.dep,Bq];decide) (by show X.A.units+1+1+1<aM;omega) (by rw[D.dep,Bq];decide) en1 rfl en2 rfl).2;obtain⟨⟨cls,dd,data,sl⟩,ho,hc,n,hd⟩:=id p1;obtain⟨⟨cls2,dd2,data2,sl2⟩,ho2,hc2,n2,hd2⟩:=id p2;simp only at hc hd hc2 hd2;subst hc hd hc2 hd2;have hb:Dr l i j=if (l.getD i (0,[])).1=(l.getD j (0,[])).1 then(if deq (.tup ((l.getD i (0,[])).2.map D.int)) (.tup ((l.getD j (0,[])).2.map D.int))=a7 then a4 else HT.lexLt (l.getD i (0,[])).2 (l.getD j (0,[])).2)else decide ((l.getD i (0,[])).1<(l.getD j (0,[])).1):=by
   show(if _ then _ else _)=_;split
   .split
    .rename_i h;rw[Fd]at h;rw[Lx h,Nj]
    .rfl
   .rfl
  rw[hb]at hq;exact jR (op:=.Lt) ⟨_,ho,rfl⟩ ⟨_,ho2,rfl⟩ hZ gR (gM _ _) (Kc t t' x1 y1 _ _ _ _ n n2 dd dd2 sl sl2 _ _)
   ⟨ho,ho2,hE,λprog w E Q h=>HT.lt_tupInts (A:=X.A.in1.in1) px py (intsAre_of rx1) (intsAre_of ry1) (by show X.A.units+1+1<aM;omega) h,(λx=>nomatch x),hq⟩ (by show X.A.units+1<aM;omega)
 .rw[hlen]at hx;have ed:=item hx;have eg:l.getD (aV (Dr l) (l.length-1)) (0,[])=k:=by rw[km,hk];rfl
  rw[eg]at ed;exact q x H1 g1 ed
end
section
variable{X:Cx}{ρ:Rho}{a:ai}{p p1 p2 pos:aJ}
end
noncomputable def jm6(kvs:List (af×Int))(k:af):Option Int:=(kvs.find? λp=>decide (p.1=k)).map λp=>p.2
noncomputable def jm9(kvs:List (af×Int))(k:af):Bool:=kvs.any λp=>decide (p.1=k)
noncomputable def dput(kvs:List (af×Int))(k:af)(n:Int):List (af×Int):=if jm9 kvs k=a7 then kvs.map λp=>if p.1=k then(p.1,n)else p else kvs++[(k,n)]
section
variable{X:Cx}{ρ:Rho}{a b e k:ai}{rest:List aP}{P:Po}{kvs:List (af×Int)}{z:af}{n:Int}{i j:Nat}{nx ny:af}{pos pos' p p1 p2 p3 p4 p5 p6 p7 p8:aJ}{td ty tv:TE}{o value:ai}
theorem j61 (hu:X.A.units+100<aM):MtR X "list.index" (λx vs H Q=>∃t xs ds d y k,x=.ref t/\vs=[y]/\SqL X.K H t xs/\j5 X.K H ds xs/\Enc X.K H d y/\D.depL ds<=97/\d.dep<10000/\ixD d ds=a3 k/\Q (.int (k:Nat)) H):=by
 rintro pins s σ H x vs v us Q I rx rv ⟨t,xs,ds,d,y,k,e,e',sq,l,en,hd,nd,hk,q⟩;subst e e';cases rx;obtain⟨u,eu,ru⟩:=rv.one;subst eu;obtain⟨its,ri,⟨⟨cl,dd,da,sl⟩,n,h1,h2,h4,h3⟩,hz0⟩:=I.list sq;have h2:cl=.type "list":=h2;have h3:da=.seq its.toArray n:=h3;subst h2 h3;obtain⟨z,hz,ez,fz⟩:=j0a hk;have ll:=l.length;have rl:=ri.length;have hks:k<its.toArray.size:=by have:=(Xa.mp hz).1;simp;omega
 have at_:∀(j:Nat)(h:j<its.toArray.size)(z:D),ds[j]?=a3 z->eqW X H d its.toArray[j]=deq z d:=λj h z hz=>by
  obtain⟨x,hx,ex⟩:=l.get hz;obtain⟨w,hw,rw⟩:=ri.get hx;have g1:its.toArray[j]=w:=by simp at h ⊢;rw[kh (by simpa using h)]at hw;exact ax hw
  have:=D.depL_le hz;rw[g1];exact M9 I nofun ex rw
 have hn:=W8;have hks':k<its.length:=by simpa using hks
 refine bD iL ⟨_,h1,rfl⟩ F.entry_list_index (F.args_list_index_2 _ _) (SeqAt.list_indexAt t its.toArray n dd sl u (eqW X H d) k hks nofun (by rw[at_ k hks z hz];exact ez) (λj h hj=>?_))
  ⟨h1,λy hy=>Vk (n:=97) I en ru nd (by show X.A.units+1+97<aM;omega) hd l ri y (by simpa using hy),⟨.int _,H,I.tok _,⟨_,rfl⟩,q⟩⟩
 have hlt:j<ds.length:=by simp at h;omega
 rw[at_ j h ds[j] (kh hlt)];exact fz j _ hj (kh hlt)
theorem DE.indexL {ds:List D} {d:D} {k':Nat} (hu:X.A.units+100<aM) (ha:DT X ρ a (.lst ds)) (hb:DT X ρ b d) (hd:D.depL ds<=97) (nd:d.dep<10000) (hk:ixD d ds=a3 k') (hbase:aL a "index" X.env (ay a X.env)=ay a X.env)
  (hfew:((aO p2 (a9 [b] X.env)).all (λx=>!x.1)&&(bB p2 (aY [] X.env)).all (λx=>x.1.isSome)
   && decide (([b]:List ai).length+([]:List aZ).length+(if ([]:List aZ).isEmpty then 0 else 1)<30))=a7) (hline:(p1.endLine==p2.line)=a7)
  (hs:a9 [b] X.env=(a4,ay b X.env)::a9 [] X.env):DE X ρ (.Call (.Attribute a "index" p1) [b] [] p2) (.int (k':Nat)):=λσ H Q R q =>
 (Wm cc iL PySem.F.type_list_index (j61 hu) peS (jc peS jr hs) hbase hfew hline hs rfl).to (ha σ H _ R λv H1 g1 ⟨t,xs,e,sq,l⟩=>⟨by rw[e];exact .inl ⟨rfl,xs,sq⟩,hb σ H1 _ (R.grow g1) λu H2 g2 e2 =>
  ⟨t,xs,ds,d,u,k',e,rfl,g2.seq sq,l.mono g2,e2,hd,nd,hk,q _ H2 (g1.trans g2) rfl⟩⟩)
end
section
variable{prog:au}{w:aA}{A:aB}{E:k8z}{s:ae}
end
section
variable{prog:au}{w:aA}{A:aB}{E:k8z}{s:ae}{l1 l2:Bool}{z TI TO i1 i2 t1 t2 p:aa}{f:Bool}{op:cE}{k:Nat}{us vs:Array a8}{x y a b:a8}
end
section
variable{X:Cx}{pins:k90}{σ:St}{z TI TO i1 i2 t1 t2 d:aa}{l1 l2:Bool}{ks:List af}{ns:List Int}{A:aB}{R:eB->ae->Prop}
end
section
variable{X:Cx}{ρ:Rho}{a b:ai}{ks:List af}{ns:List Int}{p p2 p3 p4:aJ}
end
section
variable{X:Cx}{ρ:Rho}{a e:ai}{es:List ai}{x:af}{d:D}{p p1 p2 pos:aJ}{y:af}{ds:List D}
theorem Bt{M:gL}{A:aB}{E:k8z}{s:ae}{env:cH}{value:ai}{pos:aJ}{Q:k8z}
  (h:ar M A (ay value env) (λv s₁=>ar M A (pyReprObj v) (λr s₂=>ar M A (formatField r dj) Q E s₂) E s₁) E s) :
  ar M A (ay (.FormattedValue value 114 a5 pos) env) Q E s:=by
 rw[arm_eval_FormattedValue];refine a6 (aI h (λv s₁ h₁=>?_) λ_ _ x=>x);refine a6 (d7 ?_);show ar _ _ (do let v' <-ip [v] (pyReprObj v);formatField v' dj) Q E s₁;exact a6 (bC h₁)
theorem DE.fmtR(ha:DT X ρ e (.str y))(hy:(aH y).length<=aq):DE X ρ (.FormattedValue e 114 a5 pos) (.str (aH y)):=λσ H Q R q pins s I=>by
 refine Bt (thn (ha σ H (λv H1=>v=.str y/\j4 H H1) R (λv H1 g e=>⟨e,g⟩) pins s I) λu s1 ⟨v,H1,I1,r,ev,g⟩=>?_);subst ev;obtain⟨t,rfl⟩:=(show ∃t,u=bq y t from r)
 refine wpAny_pyReprObj_gives (gm s1 y t) F.slot_str_repr F.entry_str_repr (F.args_str_repr_1 _) (gives_str_repr y t) ?_ rfl hy;exact mB (λt' tk=>⟨.str (aH y),H1,I1.un (t':=tk) Un.refl I1.hok,⟨_,rfl⟩,q _ H1 g rfl⟩) hy
theorem j8n:MtR X "str.upper" (λx vs H Q=>∃z,x=.str z/\vs=[]/\z.length<=1000/\Q (.str (cU z)) H):=by
 rintro pins s σ H x vs v us Q I rx rv ⟨z,e,e',hz,q⟩;subst e e';obtain⟨t,rfl⟩:=(show ∃t,v=bq z t from rx)
 cases rv;exact SCL.upper nofun λ_=>⟨.str (cU z),H,I.tok _,⟨_,rfl⟩,q⟩
theorem DE.upper (ha:DT X ρ a (.str y)) (hy:y.length<=1000) (hbase:aL a "upper" X.env (ay a X.env)=ay a X.env) (hline:(p1.endLine==p2.line)=a7) :
  DE X ρ (.Call (.Attribute a "upper" p1) [] [] p2) (.str (cU y)):=λσ H Q R q =>
 (jfi gQ PySem.F.slot_str_upper PySem.F.type_str_upper j8n peS hbase hline).to (ha σ H _ R λv H1 g1 e=>by
  subst e
  exact⟨rfl,y,rfl,rfl,hy,q _ H1 g1 rfl⟩)
theorem U9.grow{σ:St}{H H':Hp}(k:U9 X σ H x)(g:j4 H H'):U9 X σ H' x:=λpins H2 s' e C I g2 hC Fe=>k pins H2 s' e C I (g.trans g2) hC Fe
theorem DXA.head(ha:DX X ρ a x)(hs:a9 (a::es) X.env=(a4,ay a X.env)::a9 es X.env):DXA X ρ (a::es) x:=λσ H Q R k =>(jc peS paS hs).to (ha σ H _ R k)
theorem DXA.tail(ha:DT X ρ a d)(h:DXA X ρ es x)(hs:a9 (a::es) X.env=(a4,ay a X.env)::a9 es X.env):DXA X ρ (a::es) x:=λσ H Q R k =>(jc peS paS hs).to (ha σ H _ R λv H1 g _=>h σ H1 _ (R.grow g) (k.grow g))
theorem DX.args {f:af} (ha:DXA X ρ (e::es) x) (hg:Gl X f) (hdb:(f==k92)=a4) {fa:aa} (hfa:X.mg f=a3 (.ref fa)) (hk:W.keepIn X.K (.ref fa)=a7)
  (he:a9 (e::es) X.env=(a4,ay e X.env)::a9 es X.env) (hpl:(aO pos (a9 es X.env)).any (·.1)=a4):DX X ρ (.Call (.Name f p) (e::es) [] pos) x:=λσ H Q R k pins s I=>by
 refine aT (Zy I hg hfa ?_ hdb);exact W.callWith_K (h₀:=X.base) I.ok.mod.kin hk (thn (ha σ H (λ_ _=>False) R k pos pins s I) λus s1 ⟨vs,H1,I1,r,z⟩=>z.elim) he hpl
end
noncomputable def Jj:List Int->Int
 |[]=>0
 |a::r=>r.foldl max a
theorem j8s:∀(r:List Int)(a:Int),a<=r.foldl max a
 |[],a=>gv a
 |b::r,a=>by rw[cq];have:=j8s r (max a b);omega
theorem Lr:∀(r:List Int)(a:Int),r.foldl max a∈a::r/\∀b∈a::r,b<=r.foldl max a
 |[],a=>⟨xg.mpr rfl,λb hb=>by rw[xg.mp hb];exact gv _⟩
 |c::r,a=>by
  rw[cq];obtain⟨h1,h2⟩:=Lr r (max a c);refine⟨?_,λb hb=>?_⟩
  .rcases xm.mp h1 with z|z
   .rw[z];by_cases q:a<=c
    .rw[Int.max_eq_right q];exact kj _ xr
    .rw[Int.max_eq_left nofun];exact xr
   .exact kj _ (kj _ z)
  .have l:=h2 (max a c) xr;rcases xm.mp hb with z|z
   .rw[z];omega
   .rcases xm.mp z with z|z
    .rw[z];omega
    .exact h2 b (kj _ z)
theorem j04{ns:List Int}(h:ns≠[]):Jj ns∈ns/\∀b∈ns,b<=Jj ns:=by
 cases ns with
 |nil=>exact absurd rfl h
 |cons a r=>exact Lr r a
theorem jcm{ns:List Int}{M:Int}(h1:M∈ns)(h2:∀a∈ns,a<=M):Jj ns=M:=by
 have hn:ns≠[]:=λe=>by rw[e]at h1;exact nomatch h1
 obtain⟨a,b⟩:=j04 hn;have:=h2 _ a;have:=b _ h1;omega
noncomputable def V4(ns:List Int):Int:=-Jj (ns.map λn=>-n)
theorem j8o{ns:List Int}(h:ns≠[]):V4 ns∈ns/\∀b∈ns,V4 ns<=b:=by
 obtain⟨h1,h2⟩:=j04 (ns:=ns.map λn=>-n) (by simpa using h);obtain⟨a,ha,e⟩:=Xe.mp h1;unfold V4;refine⟨?_,λb hb=>?_⟩
 .rw[<-e,Int.neg_neg];exact ha
 .have:=h2 _ (Xe.mpr ⟨b,hb,rfl⟩);omega
theorem j2b{ns:List Int}{M:Int}(h1:M∈ns)(h2:∀a∈ns,M<=a):V4 ns=M:=by
 obtain⟨a,b⟩:=j8o (ns:=ns) λe=>by rw[e]at h1;exact nomatch h1
 have:=h2 _ a;have:=b _ h1;omega
section
variable{X:Cx}{ρ:Rho}{a b e:ai}{es:List ai}{x y:af}{d:D}{i j:Int}{p p1 p2 p3 p4 pk pos:aJ}{ds:List D}
theorem jac{pins:k90}{s:ae}{σ:St}{H:Hp}{l:aa}{ns:List Int}(I:Inv X pins σ H s)(sq:SqL X.K H l (ns.map V.int))(hne:ns≠[]):∃zs,s.heap.IsList l (fC zs)/\0<zs.size/\zs.size=ns.length/\∀i,i<zs.size->i6 zs i=ns.getD i 0:=by
 obtain⟨its,rv,pl,_⟩:=I.list sq;have hl:its.length=ns.length:=by rw[<-rv.length,xj]
 have val:∀(i:Nat)(v:a8),its[i]?=a3 v->∃t,v=bj (ns.getD i 0) t:=by
  intro i v hv;have hi:i<its.length:=(Xa.mp hv).1;have hi':i<ns.length:=by omega
  obtain⟨w1,hw,rw1⟩:=rv.get (x:=.int (ns.getD i 0)) (i:=i) (by rw[X7,kh hi',km,kh hi'];rfl);rw[hw]at hv;cases hv;exact rw1
 have hall:AllInts its.toArray:=by intro v hv;obtain⟨i,hi,e⟩:=Te.mp (show v∈its by simpa using hv);obtain⟨t,e'⟩:=val i v (by rw[kh hi,e]);exact⟨_,t,e'⟩
 obtain⟨zs,hz⟩:=hall.items;have pl':=pl.isList;rw[hz]at pl';have hsz:0<zs.size:=by
  have:its.toArray.size=(fC zs).size:=by rw[hz]
  have h1:0<ns.length:=List.length_pos_iff.mpr hne;simp[fC]at this;omega
 have hns:∀i,i<zs.size->i6 zs i=ns.getD i 0:=by
  intro i hi;obtain⟨v1,e1⟩:∃v,(fC zs)[i]?=a3 v:=⟨_,bW (by simpa [fC]using hi)⟩
  obtain⟨t,ht⟩:=ky e1;rw[<-hz]at e1;obtain⟨t',ht'⟩:=val i _ (by simpa using e1);rw[ht]at ht';exact(Value.int.inj ht').1
 have len:zs.size=ns.length:=by
  have:its.toArray.size=(fC zs).size:=by rw[hz]
  simp[fC]at this;omega
 exact⟨zs,pl',hsz,len,hns⟩
theorem j7a (hc:X.calm=a7):Jt X (.builtin "max") (λxs H Q=>∃(l:aa)(ns:List Int),xs=[.ref l]/\SqL X.K H l (ns.map V.int)/\ns≠[]/\Q (.int (Jj ns)) H):=by
 rintro pins s σ H xs us Q I r ⟨l,ns,e,sq,hne,q⟩;subst e;obtain⟨u,eu,ru⟩:=vals1 r;subst eu;cases ru;obtain⟨zs,pl',hsz,len,hns⟩:=jac I sq hne;refine max_intList (I.ok.hd hc) pl' hsz λv h' tk hv hk=>?_;obtain⟨t,rfl⟩:=ky hv;obtain⟨h1,h2⟩:=argBest_gt (i6 zs) (zs.size-1);have hM:Jj ns=i6 zs (aV (λi j=>decide (i6 zs i>i6 zs j)) (zs.size-1)):=by
  refine jcm ?_ λc hc=>?_
  .rw[hns _ nofun];rw[km,kh nofun];exact Xy _
  .obtain⟨k,hk,rfl⟩:=Te.mp hc;have:=h2 k nofun
   rw[hns k nofun,km,kh hk]at this;exact this
 rw[hM]at q;exact⟨.int _,H,I.kept hk,⟨t,rfl⟩,q⟩
theorem j78 (hc:X.calm=a7):Jt X (.builtin "min") (λxs H Q=>∃(l:aa)(ns:List Int),xs=[.ref l]/\SqL X.K H l (ns.map V.int)/\ns≠[]/\Q (.int (V4 ns)) H):=by
 rintro pins s σ H xs us Q I r ⟨l,ns,e,sq,hne,q⟩;subst e;obtain⟨u,eu,ru⟩:=vals1 r;subst eu;cases ru;obtain⟨zs,pl',hsz,len,hns⟩:=jac I sq hne;refine min_intList (I.ok.hd hc) pl' hsz λv h' tk hv hk=>?_;obtain⟨t,rfl⟩:=ky hv;obtain⟨h1,h2⟩:=argBest_lt (i6 zs) (zs.size-1);have hM:V4 ns=i6 zs (aV (λi j=>decide (i6 zs i<i6 zs j)) (zs.size-1)):=by
  refine j2b ?_ λc hc=>?_
  .rw[hns _ nofun];rw[km,kh nofun];exact Xy _
  .obtain⟨k,hk,rfl⟩:=Te.mp hc;have:=h2 k nofun
   rw[hns k nofun,km,kh hk]at this;exact this
 rw[hM]at q;exact⟨.int _,H,I.kept hk,⟨t,rfl⟩,q⟩
theorem DE.max2 (ha:DT X ρ a (.int i)) (hb:DT X ρ b (.int j)) (hm:X.mg "max" = a5) (hc:X.calm=a7) (hg:Gl X "max") (hs:a9 [a,b] X.env=(a4,ay a X.env)::a9 [b] X.env) (hs2:a9 [b] X.env=(a4,ay b X.env)::a9 [] X.env)
  (hpl:(aO pos (a9 [b] X.env)).any (·.1)=a4):DE X ρ (.Call (.Name "max" p) [a,b] [] pos) (.int (if j>i then j else i)):=λσ H Q R q =>
 (v8 (j7b hc) hg hm boot_max (jc peS (jc peS jr hs2) hs) (by decide) (by decide) hs hpl).to (ha σ H _ R λv H1 g1 e1=>hb σ H1 _ (R.grow g1) λu H2 g2 e2=>⟨i,j,by rw[show v=.int i from e1,show u=.int j from e2],q _ H2 (g1.trans g2) rfl⟩)
theorem DE.maxL {ns:List Int} (ha:DT X ρ a (.lst (ns.map D.int))) (hn:ns≠[]) (hm:X.mg "max" = a5) (hc:X.calm=a7) (hg:Gl X "max") (hs:a9 [a] X.env=[(a4,ay a X.env)]):DE X ρ (.Call (.Name "max" p) [a] [] pos) (.int (Jj ns)):=λσ H Q R q =>(v8 (j7a hc) hg hm boot_max (jc peS jr hs) (by decide) (by decide) hs).to (ha σ H _ R λv H1 g1 ⟨l,xs,e,sq,en⟩=>⟨l,ns,by rw[e],by rw[J9 en]at sq;exact sq,hn,q _ H1 g1 rfl⟩)
theorem DE.minL {ns:List Int} (ha:DT X ρ a (.lst (ns.map D.int))) (hn:ns≠[]) (hm:X.mg "min" = a5) (hc:X.calm=a7) (hg:Gl X "min") (hs:a9 [a] X.env=[(a4,ay a X.env)]):DE X ρ (.Call (.Name "min" p) [a] [] pos) (.int (V4 ns)):=λσ H Q R q =>(v8 (j78 hc) hg hm kD (jc peS jr hs) (by decide) (by decide) hs).to (ha σ H _ R λv H1 g1 ⟨l,xs,e,sq,en⟩=>⟨l,ns,by rw[e],by rw[J9 en]at sq;exact sq,hn,q _ H1 g1 rfl⟩)
theorem jjr {K:k8y} {fd:aG} {ps:List af} (hn:0<ps.length) (h:∀(s:ae)(us:List a8)(w:a8),K.In s.heap->us.length+1=ps.length->dD s fd ⟨us,[("prices",w)]⟩ (ps.zip (us++[w]))):KBinds K fd ps ["prices"] kG kGV :=
 ⟨λs us ws hK hl=>by
  match ws,hl with
  |[w],hl=>exact h s us w hK (by simpa [kG]using hl)
  |[],hl=>exact absurd hl (X8 hn)
  |_::_::_,hl=>exact absurd hl (X8 hn),λ{vs us zs ws} r1 r2=>by
  cases r2 with
  |nil=>exact .nil
  |cons a b =>
   cases b with
   |nil=>exact r1.append (.cons a .nil)
   |cons _ _=>exact .nil⟩
end
section
variable{X:Cx}{ρ:Rho}{p1 p2 p3 p4 p5 p6 q1 pos:aJ}
end
section
variable{X:Cx}{ρ:Rho}{p1 p2 p3 p4 p5 p6 q1 pos:aJ}
end
noncomputable def ch1(c:Nat):af:=⟨#[c]⟩
noncomputable def chs(y:af):List D:=y.cps.toList.map λc=>D.str (ch1 c)
noncomputable def ascii(y:af):Bool:=y.cps.all (· < 128)
noncomputable def Its(y:af):It:=⟨λi _=>i<y.cps.size,λi H x H'=>H'=H/\∃c,y.cps[i]?=a3 c/\x=.str (ch1 c),λi _=>y.cps.size<=i⟩
theorem j7o {P:au} {w:aA} {K:k8y} {tg:ai} (it:aa) (y:af) (t:iq):Turn P w K tg (Its y) [it] it (λi h=>h.IsStrIter it "str_ascii_iterator" y t i) where
 mem:=by simp
 obj:=λi h st b hb=>by
  have e:b=it:=by simpa using hb
  subst e;obtain⟨o,e,c,d⟩:=st;exact⟨o,e,λv z=>by rw[d]at z;cases z⟩
 keep:=λi h h' st k=>let ⟨o,e,r⟩:=st;⟨o,k it (by simp) o e,r⟩
 item:=by intro X hP hw hK hc i pins s σ H E I hf st hg;subst hP hw hK;obtain⟨f0,f1,f2,f3,f4,f5⟩:=hf it (by simp);have W:=Walks.strAscii (prog:=X.prog) (w:=X.w) (I.ok.hd hc) it y t;refine W.item i s _ _ hg st λv h' tk hv st' kk=>?_;obtain⟨c,u,hcu,rfl⟩:=hv;have I1:Inv X pins σ H { s with heap:=h',toks:=tk }:=I.turned (λb o hb e=>kk b o (by simpa using hb) e) f0 f1 f3 f4 f5;obtain⟨o,e,oc,d⟩:=id st';exact⟨_,rfl,Kz (s:={ s with heap:=h',toks:=tk }) e oc d (by decide) ⟨.str (ch1 c),H,I1,⟨u,rfl⟩,⟨rfl,c,hcu,rfl⟩,st',λb hb=>(hf b hb).1⟩⟩
 done:=by intro X hP hw hK hc i pins s σ H E I hf st hg;subst hP hw hK;obtain⟨f0,f1,f2,f3,f4,f5⟩:=hf it (by simp);exact wpAny_pyNext_ascii_end (I.ok.hd hc) st (by have:y.cps.size<=i:=hg;simp;omega) λh' eb=>⟨rfl,I.turned (t':=s.toks) (λb o hb e=>eb b o hb e) f0 f1 f3 f4 f5⟩
 self:=λ_ _ _ _ _ st h=>wpAny_pyIter_striter_ascii st h
section
variable{X:Cx}{ρ:Rho}{a b c e tg it:ai}{y z:af}{i j k:Int}{p p2 pos:aJ}
theorem j8x{K:k8y}{F:Hp}(y:af):Ub K F (Its y) (chs y):=λi H A g hA=>by
 have hl:(chs y).length=y.cps.size:=by unfold chs;rw[xj,cY]
 rw[hl];refine⟨λh=>h,λh=>h,λx H' ⟨e,c,hc,ex⟩=>?_⟩;subst e ex;refine⟨j4.refl _,λd hd=>?_⟩;unfold chs at hd;rw[X7,iu,hc]at hd;cases hd;rfl
theorem DI.str(h:DT X ρ it (.str y))(ha:ascii y=a7):DI X ρ tg it (chs y):=λσ H R r q pins s I=>by
 refine thn (h σ H (λv H1=>v=.str y/\j4 H H1) r (λv H1 g e=>⟨e,g⟩) pins s I) λv s1 ⟨x,H1,I1,r1,ex,g1⟩=>?_;subst ex;obtain⟨t,rfl⟩:=(show ∃t,v=bq y t from r1)
 refine wpAny_pyIter_ascii ha ?_;refine⟨s1.heap.objs.size,[s1.heap.objs.size],_,_,H1,rfl,I1.kept (t':=s1.toks) λb o e=>xn _ e,j7o _ y t,⟨_,X4 _ rfl,rfl,rfl⟩,λb hb=>?_,q _ H1 g1 (j8x y)⟩;have e:b=s1.heap.objs.size:=by simpa using hb
 subst e;exact I1.fpOk (X3 _) (I1.hok.fresh (X3 _))
noncomputable def inS(y z:af):Bool:=!(g9 z y 0 z.length 1).isEmpty
theorem Lg:OpR X (aW .Gt) (λx y H Q=>∃i j,x=.str i/\y=.str j/\Q (.bl (decide (j.cps.toList<i.cps.toList))) H):=by intro pins s σ H x y v u Q I rx ry h;obtain⟨i,j,rfl,rfl,q⟩:=h;obtain⟨t,rfl⟩:=rx;obtain⟨t',rfl⟩:=ry;exact P.gt_str (jt I q rfl)
theorem DE.ltS(ha:DT X ρ a (.str y))(hb:DT X ρ b (.str z)):DE X ρ (.Compare a [.Lt] [b] pos) (.bl (decide (y.cps.toList<z.cps.toList))):=λσ H Q R q =>(Q3 Ld peS peS (zb _)).to (ha σ H _ R λv H1 g1 e1=>hb σ H1 _ (R.grow g1) λu H2 g2 e2=>⟨y,z,e1,e2,q _ H2 (g1.trans g2) rfl⟩)
theorem DB.ltS(ha:DT X ρ a (.str y))(hb:DT X ρ b (.str z)):DB X ρ (.Compare a [.Lt] [b] pos) (decide (y.cps.toList<z.cps.toList)):=λσ H Q R q =>(Q0 Ld peS peS (zb _)).to (ha σ H _ R λv H1 g1 e1=>hb σ H1 _ (R.grow g1) λu H2 g2 e2=>⟨y,z,e1,e2,_,rfl,q H2 (g1.trans g2)⟩)
theorem DE.gtS(ha:DT X ρ a (.str y))(hb:DT X ρ b (.str z)):DE X ρ (.Compare a [.Gt] [b] pos) (.bl (decide (z.cps.toList<y.cps.toList))):=λσ H Q R q =>(Q3 Lg peS peS (zb _)).to (ha σ H _ R λv H1 g1 e1=>hb σ H1 _ (R.grow g1) λu H2 g2 e2=>⟨y,z,e1,e2,q _ H2 (g1.trans g2) rfl⟩)
theorem DB.gtS(ha:DT X ρ a (.str y))(hb:DT X ρ b (.str z)):DB X ρ (.Compare a [.Gt] [b] pos) (decide (z.cps.toList<y.cps.toList)):=λσ H Q R q =>(Q0 Lg peS peS (zb _)).to (ha σ H _ R λv H1 g1 e1=>hb σ H1 _ (R.grow g1) λu H2 g2 e2=>⟨y,z,e1,e2,_,rfl,q H2 (g1.trans g2)⟩)
theorem DE.inS(ha:DT X ρ a (.str y))(hb:DT X ρ b (.str z))(hm:aK .In b=a4):DE X ρ (.Compare a [.In] [b] pos) (.bl (inS y z)):=λσ H Q R q =>(Q3 Le peS peS hm).to (ha σ H _ R λv H1 g1 e1=>hb σ H1 _ (R.grow g1) λu H2 g2 e2=>⟨y,z,e1,e2,q _ H2 (g1.trans g2) rfl⟩)
theorem DB.inS(ha:DT X ρ a (.str y))(hb:DT X ρ b (.str z))(hm:aK .In b=a4):DB X ρ (.Compare a [.In] [b] pos) (inS y z):=λσ H Q R q =>(Q0 Le peS peS hm).to (ha σ H _ R λv H1 g1 e1=>hb σ H1 _ (R.grow g1) λu H2 g2 e2=>⟨y,z,e1,e2,_,rfl,q H2 (g1.trans g2)⟩)
theorem mulOk_of(h1:1<=k/\k<=1000)(h2:y.length<=1000):MulOk y k:=by
 refine⟨?_,λ_ _=>?_,λ_ _=>?_⟩
 .simp;omega
 .have:(1000:Int)<=(2^63-1)/k:=Int.le_ediv_of_mul_le nofun nofun
  omega
 .have hk:k.toNat<=1000:=by omega
  have:y.length*k.toNat<=1000000:=Nat.mul_le_mul h2 hk;unfold cM;rw[dh];simp;omega
theorem j3k:OpR X (bc .Mult) (λx y H Q=>∃i k,x=.str i/\y=.int k/\MulOk i k/\Q (.str (jL i k)) H):=by intro pins s σ H x y v u Q I rx ry h;obtain⟨i,k,rfl,rfl,hm,q⟩:=h;obtain⟨t,rfl⟩:=rx;obtain⟨t',rfl⟩:=ry;exact SB.mul hm λt' tk=>⟨.str _,H,I.un (t':=tk) Un.refl I.hok,⟨_,rfl⟩,q⟩
theorem DE.mulS(ha:DT X ρ a (.str y))(hb:DT X ρ b (.int k))(h1:1<=k/\k<=1000)(h2:y.length<=1000):DE X ρ (.BinOp a .Mult b pos) (.str (jL y k)):=λσ H Q R q =>(Ui j3k peS peS).to (ha σ H _ R λv H1 g1 e1=>hb σ H1 _ (R.grow g1) λu H2 g2 e2=>⟨y,k,e1,e2,mulOk_of h1 h2,q _ H2 (g1.trans g2) rfl⟩)
end
section
variable{X:Cx}{pins:k90}{σ:St}{H:Hp}{l S I:aa}{xs:List V}{R:eB->ae->Prop}{dv:a8}
end
section
variable{X:Cx}{ρ:Rho}{a b c:ai}{ns:List Int}{i j k:Int}{n:Nat}{p p1 pk pos:aJ}
end
section
variable{X:Cx}{ρ ρ1 ρ':Rho}{e c:ai}{ss sa sb:List aP}{is is2:List Nat}{d:D}{i:Nat}{x:af}{p pos:aJ}
def DMs(X:Cx)(ρ ρ':Rho)(is:List Nat)(ss:List aP):Prop:=∀(σ:St)(H:Hp)(E:Ends),Rep X.K ρ σ H->(∀σ' H',j4 H H'->Rep X.K ρ' σ' H'->(∀j,j∉is->σ'[j]?=σ[j]?)->E.nx σ' H')->Yi X ss E σ H
def DMt(X:Cx)(ρ ρ':Rho)(is:List Nat)(full tl:List aP):Prop:=∀(σ:St)(H:Hp)(E:Ends),Rep X.K ρ σ H->(∀σ' H',j4 H H'->Rep X.K ρ' σ' H'->(∀j,j∉is->σ'[j]?=σ[j]?)->Yi X tl E σ' H')->Yi X full E σ H
variable{tl:List aP}
end
def Kp(ρ ρ':Rho)(is:List Nat):Prop:=(∀b∈owns ρ',b∈owns ρ)/\∀j,j∉is->ρ'[j]?=ρ[j]?
section
variable{X:Cx}{ρ ρ1 ρ':Rho}{is js:List Nat}{i:Nat}{d:D}
end
noncomputable def pcF(b:aa)(k:Int):List (af×V):=[("standing",.ref b),("spot",.int k)]
structure Ob where
 a:aa
 dx:aa
 b:aa
structure PcAt(C:aa)(H:Hp)(o:Ob)(ls:List af)(k:Nat):Prop where
 ob:H o.a=a3 (.ins C o.dx (pcF o.b (k:Int)))
 li:H o.b=a3 (.lst (ls.map V.str))
def But(a:aa)(H H':Hp):Prop:=∀b o,b≠a->H b=a3 o->H' b=a3 o
structure PcT(K:k8y)(mg:k91)(C fA fT fL fI:aa):Prop where
 cl:Cls K C
 nS:Mq K C "standing"
 nP:Mq K C "spot"
 mA:Meth K C "ahead" fA
 mT:Meth K C "taken" fT
 mL:Meth K C "all_taken" fL
 mkI:Mk K C fI
 mgC:mg "Pieces" = a3 (.ref C)
 len:mg "len" = a5
def j1y(C:aa):Sp:=λvs H Q _=>∃(o:Ob)(ls:List af)(k:Nat),vs=[.ref o.a]/\PcAt C H o ls k/\Q (.str (ls.getD k "")) H
def j1w(C:aa):Sp:=λvs H Q _=>∃(o:Ob)(ls:List af)(k:Nat),vs=[.ref o.a]/\PcAt C H o ls k/\∀H',PcAt C H' o ls (k+1)->But o.a H H'->Q (.str (ls.getD k "")) H'
def jag(C:aa):Sp:=λvs H Q _=>∃(o:Ob)(ls:List af)(k:Nat),vs=[.ref o.a]/\PcAt C H o ls k/\Q (.bl (decide (ls.length<=k))) H
section
variable{P:au}{w:aA}{K:k8y}{mg:k91}{base:aD}{C fA fT fL fI f:aa}{fd fdA:aG}{st:aP}
noncomputable def ji1(n:Nat)(p1 p2 p3 p4 p5 p6 p7 p8 p9 p10 p11 p12 p13 p14 p15 p16:aJ):List aP :=
 [.If (.Compare (.Attribute (.Name "self" p1) "spot" p2) [.Lt] [.Call (.Name "len" p3) [.Attribute (.Name "self" p4) "standing" p5] [] p6] p7) [.Return (a3 (.Subscript (.Attribute (.Name "self" p8) "standing" p9) (.Attribute (.Name "self" p10) "spot" p11) p12)) p13] [] p14,
 .Return (a3 (.Constant (.str "") n p15)) p16]
def jkx(X:Cx)(o:ai)(m:af)(apos pos:aJ):Prop:=∃pl:kY Bool,ay (.Call (.Attribute o m apos) [] [] pos) X.env=(do
   let ov <-ay o X.env
   jP apos.atName
   let (f,first) <-ip [ov] (getMethod ov m pl)
   callWith pos f first (aO pos (a9 [] X.env)) (bB pos (aY [] X.env)))
noncomputable def jeb(n:Nat)(p1 p2 p3 p4 p5 p6 p7 p8 p9 p10 p11 p12 p13 p14:aJ):List aP :=
 [.Assign [.Name "piece" p1] (.Call (.Attribute (.Name "self" p2) "ahead" p3) [] [] p4) p5,
 .Assign [.Attribute (.Name "self" p6) "spot" p7] (.BinOp (.Attribute (.Name "self" p8) "spot" p9) .Add (.Constant (.int 1) n p10) p11) p12,
 .Return (a3 (.Name "piece" p13)) p14]
noncomputable def allB(p1 p2 p3 p4 p5 p6 p7 p8:aJ):List aP:=[.Return (a3 (.Compare (.Attribute (.Name "self" p1) "spot" p2) [.GtE] [.Call (.Name "len" p3) [.Attribute (.Name "self" p4) "standing" p5] [] p6] p7)) p8]
end
section
variable{X:Cx}{ρ:Rho}{a:ai}{p1 p2 p3:aJ}{y:af}
end
section
variable{P:au}{w:aA}{K:k8y}{mg:k91}{base:aD}{C fA fT fL fI f:aa}{fd:aG}{st:aP}
noncomputable def jjx(n n2:Nat)(p1 p2 p3 p4 p5 p6 p7 p8 p9 p10 p11:aJ):List aP :=
 [.Assign [.Attribute (.Name "self" p1) "standing" p2] (.Call (.Attribute (.Name "text" p3) "split" p4) [.Constant (.str " ") n p5] [] p6) p7,
 .Assign [.Attribute (.Name "self" p8) "spot" p9] (.Constant (.int 0) n2 p10) p11]
def j1x(C:aa):Sp:=λvs H Q _=>∃(a dx:aa)(t:af),vs=[.ref a,.str t]/\H a=a3 (.ins C dx [])/\t.length<=100000/\(cL t " ").length<=aq/\∀b H',H b=a5->PcAt C H' ⟨a,dx,b⟩ (cL t " ") 0->But a H H'->Q .non H'
end
structure Pm where
 nx:Rho->Nat->Prop
 rt:D->Nat->Prop
 ex:af->Rho->Prop
def FrM(a:aa)(ρ ρ':Rho)(H H':Hp):Prop:=j4 (del H (a::owns ρ)) (del H' (a::owns ρ'))
structure EndsM(X:Cx)(C:aa)(o:Ob)(ls:List af)(ρ:Rho)(H:Hp)(P:Pm)(E:Ends):Prop where
 nx:∀ρ' k' σ' H',P.nx ρ' k'->Rep X.K ρ' σ' H'->PcAt C (del H' (owns ρ')) o ls k'->FrM o.a ρ ρ' H H'->E.nx σ' H'
 rt:∀d k' v H',P.rt d k'->PcAt C H' o ls k'->j4 (del H (o.a::owns ρ)) (del H' [o.a])->Enc X.K H' d v->E.rt v H'
 ex:∀x ρ' σ' H',P.ex x ρ'->Rep X.K ρ' σ' H'->FrM o.a ρ ρ' H H'->U9 X σ' H' x
structure PcX(X:Cx)(C:aa):Prop where
 ex:∃(fA fT fL fI:aa)(dA dT dL dI:aG),PcT X.K X.mg C fA fT fL fI/\(FnOk X.prog X.w X.K X.mg X.base CX0 1 fA dA ["self"] (j1y C)/\Binds X.K dA ["self"] []) /\
  (FnOk X.prog X.w X.K X.mg X.base CX0 2 fT dT ["self"] (j1w C)/\Binds X.K dT ["self"] [])/\(FnOk X.prog X.w X.K X.mg X.base CX0 1 fL dL ["self"] (jag C)/\Binds X.K dL ["self"] []) /\
  (FnOk X.prog X.w X.K X.mg X.base CX0 1 fI dI ["self","text"] (j1x C)/\Binds X.K dI ["self","text"] [])/\Room 3 X.A
def MSs(X:Cx)(C:aa)(o:Ob)(ls:List af)(ρ:Rho)(k:Nat)(sts:List aP)(P:Pm):Prop :=
 ∀σ H E,Rep X.K ρ σ H->PcAt C (del H (owns ρ)) o ls k->EndsM X C o ls ρ H P E->Yi X sts E σ H
section
variable{X:Cx}{C:aa}{o:Ob}{ls:List af}{ρ ρ1:Rho}{H H1 H':Hp}{P:Pm}{E:Ends}{k k':Nat}{st:aP}{rest:List aP}{σ:St}
section
variable{pi i:Nat}{ob:cE}{x y:af}{p py p1 p2 pos:aJ}
end
end
def jlj(K:k8y)(C:aa)(S:List af->Nat->List D->D->Nat->Prop):Sp:=λvs H Q _=>∃(o:Ob)(ls:List af)(k:Nat)(ds:List D)(d:D)(k':Nat)(ws:List V),vs=.ref o.a::ws/\TabOk K H/\PcAt C H o ls k/\j5 K H ds ws/\S ls k ds d k' /\
 ∀v H',PcAt C H' o ls k'->j4 (del H [o.a]) (del H' [o.a])->Enc K H' d v->Q v H'
def spM(K:k8y)(C:aa)(S:List af->Nat->List D->D->Nat->Prop):Sp:=λvs H Q _=>∃(A:List aa)(o:Ob)(ls:List af)(k:Nat)(ds:List D)(d:D)(k':Nat) (ws:List V),vs=.ref o.a::ws/\TabOk K H/\(∀a∈A,∃xs,H a=a3 (.lst xs))/\PcAt C (del H A) o ls k/\j5 K (del H A) ds ws/\S ls k ds d k' /\
 ∀v H',PcAt C (del H' A) o ls k'->j4 (del H [o.a]) (del H' [o.a])->Enc K (del H' A) d v->Q v H'
def j7x(K:k8y)(mg:k91)(C:aa)(S:List af->Nat->List D->af->Prop):Sp:=λvs H _ E=>∃(o:Ob)(ls:List af)(k:Nat)(ds:List D)(x:af)(V:a8)(ws:List L2.V),vs=.ref o.a::ws/\TabOk K H/\PcAt C H o ls k/\j5 K H ds ws/\S ls k ds x/\mg x=a3 V /\
 ∀H',j4 (del H [o.a]) (del H' [o.a])->E V a5 H'
section
variable{P:au}{w:aA}{K:k8y}{mg:k91}{base:aD}{n:Nat}{f C:aa}{fd:aG}{ps:List af}
theorem FnOk.toM{S:List af->Nat->List D->D->Nat->Prop}(F:FnOk P w K mg base CX0 n f fd ps (jlj K C S)):FnOk P w K mg base CX0 n f fd ps (spM K C S) :=
 F.framed.imp λvs H Q E ⟨A,o,ls,k,ds,d,k',ws,e,tb,hA,pc,en,hS,q⟩=>⟨A,hA,o,ls,k,ds,d,k',ws,e,tb.del hA,pc,en,hS,λv F pc' g e' hF=>by
  refine q v _ (by rw[Z9 hF];exact pc') (λb u z=>?_) (by rw[Z9 hF];exact e')
  obtain⟨nb,z⟩:=of_del z
  rw[j6 nb]
  by_cases y:b∈A
  .rw[Jg y];exact z
  .rw[jg y]
   exact(of_del (g b u (by rw[j6 nb,j6 y];exact z))).2⟩
end
structure CalM(X:Cx)(f:af)(C:aa)(S:List af->Nat->List D->D->Nat->Prop):Prop where
 ex:∃(n:Nat)(fa:aa)(fd:aG)(ps:List af),FnOk X.prog X.w X.K X.mg X.base CX0 n fa fd ps (spM X.K C S)/\Room n X.A/\X.mg f=a3 (.ref fa)/\W.keepIn X.K (.ref fa)=a7/\Binds X.K fd ps []
structure CalMX(X:Cx)(f:af)(C:aa)(S:List af->Nat->List D->af->Prop):Prop where
 ex:∃(n:Nat)(fa:aa)(fd:aG)(ps:List af),FnOk X.prog X.w X.K X.mg X.base (CX1 X.prog X.w) n fa fd ps (j7x X.K X.mg C S)/\Room n X.A/\X.mg f=a3 (.ref fa)/\W.keepIn X.K (.ref fa)=a7/\Binds X.K fd ps []
section
variable{X:Cx}{C:aa}{o:Ob}{ls:List af}{ρ ρ1:Rho}{H H1 H':Hp}{P:Pm}{E:Ends}{k k':Nat}{st:aP}{rest:List aP}{σ:St}{pi i:Nat}{ob:cE}{x y f:af}{p py pf p1 p2 pos:aJ}{es:List ai}{ds:List D}{d:D}
structure MC(X:Cx)(pi:Nat)(f:af)(es:List ai)(c:ai):Prop where
 ex:∃(y:af)(pf py pos:aJ),c=.Call (.Name f pf) (.Name y py::es) [] pos/\X.N[pi]?=a3 y/\Vis X.env.scope y/\(y==k92)=a4/\(y==k93)=a4/\Gl X f/\(f==k92)=a4 /\
  a9 (.Name y py::es) X.env=(a4,ay (.Name y py) X.env)::a9 es X.env/\(aO pos (a9 es X.env)).any (·.1)=a4
end
section
variable{X:Cx}{C:aa}{o:Ob}{ls:List af}{ρ ρ1:Rho}{H H1 H':Hp}{P:Pm}{E:Ends}{k k':Nat}{st:aP}{sa rest:List aP}{σ:St}{pi i:Nat}{ob:cE}{x y f:af}{p py pf p1 p2 p3 p4 pos:aJ}{es:List ai}{ds:List D}{d:D}
theorem Rep.set_rf{K:k8y}{a:aa}{o:cE}(R:Rep K ρ σ H):Rep K (ρ.set i (.raw a o rfN)) (σ.set i (a3 (.ref a))) H:=by
 have sub:(owns (ρ.set i (.raw a o rfN))).Sublist (owns ρ):=ji rfl;have g:j4 (del H (owns ρ)) (del H (owns (ρ.set i (.raw a o rfN)))):=vy λb hb=>sub.subset hb;refine⟨by simp[R.len],λj d' h=>?_,λj a ds h=>?_,sub.nodup R.nd,λj a' o' x' h=>?_,R.tb⟩
 .rcases getElem?_set_of h with ⟨rfl,z,hl⟩|⟨n,h⟩
  .cases z
  .obtain⟨u,q,h⟩:=R.val j d' h;exact⟨u,by rw[qe n];exact q,h.mono g⟩
 .rcases getElem?_set_of h with ⟨rfl,z,_⟩|⟨n,h⟩
  .cases z
  .obtain⟨q,xs,h,l⟩:=R.own j a ds h;exact⟨by rw[qe n];exact q,xs,h,l.mono g⟩
 .rcases getElem?_set_of h with ⟨rfl,z,hl⟩|⟨n,h⟩
  .cases z;exact⟨Zg (by rw[R.len];exact hl),.inl rfl⟩
  .obtain⟨q,h⟩:=R.raw j a' o' x' h;exact⟨by rw[qe n];exact q,h.mono g⟩
noncomputable def dOb:cE:={ cls:=.none }
end
noncomputable def startM(N:List af)(a:aa)(ds:List D):Rho:=(jx N (.int 0::ds)).set 0 (.raw a dOb rfN)
theorem Nb{K:k8y}{H:Hp}{N:List af}{ds:List D}{ws:List V}{a:aa}(tb:TabOk K H)(h:j5 K H ds ws):Rep K (startM N a ds) (start N (.ref a::ws)) H :=
 (Y5 (N:=N) tb (show j5 K H (.int 0::ds) (.int 0::ws) from⟨.int 0,ws,rfl,rfl,h⟩)).set_rf (i:=0) (a:=a) (o:=dOb)
theorem Og(N:List af)(a:aa)(ds:List D):owns (startM N a ds)=[]:=by have h:(owns (startM N a ds)).Sublist (owns (jx N (.int 0::ds))):=ji rfl;rw[Zi]at h;exact List.sublist_nil.mp h
section
variable{P:au}{w:aA}{K:k8y}{mg:k91}{base:aD}{x qual:af}{st:aP}{f C:aa}{fd:aG}{N ps:List af}{n:Nat}
theorem jm5{S:List af->Nat->List D->D->Nat->Prop}(F:Fun K x qual st f fd)(Sc:FnScope N ps (j0 st))(hl:∀ls k ds d k',S ls k ds d k'->ds.length+1=ps.length)
  (hbody:∀(cdv:a8)(A:aB)(outer:List cH)(s:ae)(H:Hp)(E:XK),W0 K f cdv->Room n (A.deeper (bp qual (j0 st) s.heap.objs.size f cdv))->∀o ls k ds d k',S ls k ds d k' ->
   MSs (qi CX0 P w K mg base N qual (j0 st) f cdv A outer s H E).nox C o ls (startM N o.a ds) k (jd st) { nx:=λ_ _=>False,rt:=λd2 k2=>d2=d/\k2=k',ex:=λ_ _=>False }):FnOk P w K mg base CX0 (n+1) f fd ps (spM K C S):=by
 refine FnOk.toM (F.okC Sc (λvs H Q E ⟨o,ls,k,ds,d,k',ws,e,tb,pc,en,hS,_⟩=>by rw[e,xx,en.length];exact hl ls k ds d k' hS) λcdv A outer s H vs Q E hcv hr ⟨o,ls,k,ds,d,k',ws,e,tb,pc,en,hS,q⟩=>⟨_,Wj,?_⟩);subst e;have ho:=Og N o.a ds;refine hbody cdv A outer s H E hcv hr o ls k ds d k' hS _ H _ (Nb tb en) (by rw[ho,zy];exact pc) ⟨λ_ _ _ _ z=>z.elim,λd2 k2 v H' ⟨e1,e2⟩ pc' g en'=>?_,λ_ _ _ _ z=>z.elim⟩;subst e1 e2;rw[ho]at g;exact q v H' pc' g en'
theorem jk5{S:List af->Nat->List D->af->Prop}(F:Fun K x qual st f fd)(Sc:FnScope N ps (j0 st))(hl:∀ls k ds y,S ls k ds y->ds.length+1=ps.length)
  (hbody:∀(cdv:a8)(A:aB)(outer:List cH)(s:ae)(H:Hp)(E:XK),W0 K f cdv->Room n (A.deeper (bp qual (j0 st) s.heap.objs.size f cdv))->∀o ls k ds y,S ls k ds y ->
   MSs (qi (CX1 P w) P w K mg base N qual (j0 st) f cdv A outer s H E) C o ls (startM N o.a ds) k (jd st) { nx:=λ_ _=>False,rt:=λ_ _=>False,ex:=λz _=>z=y }):FnOk P w K mg base (CX1 P w) (n+1) f fd ps (j7x K mg C S):=by
 obtain⟨oc,od,dV,kV,doc,pm,an,cdv,ct,osl,rfl,lk,hcd⟩:=F.ex;refine j40 lk hcd Sc (λvs H Q E ⟨o,ls,k,ds,y,V,ws,e,tb,pc,en,hS,_⟩=>by rw[e,xx,en.length];exact hl ls k ds y hS) λA outer s H vs Q E hr ⟨o,ls,k,ds,y,V,ws,e,tb,pc,en,hS,hC,hE⟩=>⟨_,Wj,?_⟩
 subst e;have ho:=Og N o.a ds;refine hbody cdv A outer s H E ⟨oc,od,_,osl,lk,rfl⟩ hr o ls k ds y hS _ H _ (Nb tb en) (by rw[ho,zy];exact pc) ⟨λ_ _ _ _ z=>z.elim,λ_ _ _ _ z=>z.elim,λz ρ' σ' H' n R g=>?_⟩;cases(show z=y from n);intro pins H2 s' e C' I g2 hC' Fe;cases hC.symm.trans hC';unfold FrM at g;rw[ho]at g;refine Ln I Fe (hE H2 λb u z=>?_);obtain⟨nb,z⟩:=of_del z;obtain⟨_,z1⟩:=of_del (g b u (by rw[j6 nb];exact z));rw[j6 nb];exact g2 b u z1
end
section
variable{X:Cx}{ρ:Rho}{a:ai}{p p1 p2 pos:aJ}
theorem DO.callT {S:List D->List D->Prop} {x:af} {e:ai} {es:List ai} {ds l:List D} (c:Cal X x (spF X.K S)) (ha:DTA X ρ (e::es) ds) (hS:S ds l) (hn:jz l=a7) (hg:Gl X x) (hdb:(x==k92)=a4)
  (he:a9 (e::es) X.env=(a4,ay e X.env)::a9 es X.env) (hpl:(aO pos (a9 es X.env)).any (·.1)=a4):DO X ρ (.Call (.Name x p) (e::es) [] pos) l:=λσ H Q R q=>by
 obtain⟨k,f,fd,ps,F,hr,hm,hk,hb,_⟩:=c.ex;refine(Mz F (hr.mono (P0 _)) hg hm hk hb .nil Ky paS hdb he hpl).to (ha σ H _ R λvs H1 g1 e1=>?_);show spF X.K S (vs++[]) H1 Q E0;rw[Xo];exact⟨[],ds,l,R.tb.mono g1,(λa h=>nomatch h),by rw[zy];exact e1,hS,λa xs H2 g2 n m z=>q a xs H2 (g1.trans g2) (g1.free n) m ((z.mono jo).hide (λc hc=>by
  rcases xm.mp hc with z|z
  .rw[z];exact .inl ⟨xs,m⟩
  .exact .inl ((R.grow (g1.trans g2)).owned c z)) hn)⟩
end
section
variable{X:Cx}{ρ:Rho}{a:ai}{p p1 p2 p3 pos:aJ}{y:af}{i n:Int}
theorem Kr:Jt X (.type "int") (λxs H Q=>∃y n,xs=[.str y]/\gG y=a3 n/\y.length<=640/\Q (.int n) H):=by intro pins s σ H xs us Q I r h;obtain⟨y,n,rfl,hn,hl,q⟩:=h;obtain⟨u,rfl,t,rfl⟩:=vals1 r;exact PySem.W.KIN.call_text hn hl ⟨.int n,H,I.tok _,⟨_,rfl⟩,q⟩
theorem DE.intS (ha:DT X ρ a (.str y)) (hn:gG y=a3 n) (hl:y.length<=640) (hm:X.mg "int" = a5) (hg:Gl X "int") (hs:a9 [a] X.env=[(a4,ay a X.env)]):DE X ρ (.Call (.Name "int" p) [a] [] pos) (.int n):=λσ H Q R q =>(Uj Kr hg hm boot_int (jc peS jr hs) (by decide) (by decide) hs).to (ha σ H _ R λv H1 g1 e1=>⟨y,n,by rw[show v=.str y from e1],hn,hl,q _ H1 g1 rfl⟩)
end
section
variable{prog:au}{w:aA}{A:aB}{E:k8z}{s:ae}
end
section
variable{X:Cx}{ρ:Rho}{p1 p2 p3 q1 pos:aJ}{n:Nat}
end
section
variable{M:gL}{A:aB}{E:k8z}{env:cH}{s:ae}
def compX(M:gL)(A:aB)(E:k8z)(fr:Option aa)(C:aa)(r:eB)(s':ae):Prop :=
 match r with
 |.ok _=>False
 |.error x=>∃m,s'.heap.Ns C m/\∀h',bS C s'.heap h'->∀cenv:cH,cenv.frame=fr->ar M A (ib "comprehension.variables-let-go" x cenv:kY a8) (λ_ _=>False) E { s' with heap:=h' }
theorem jhn{e:ai}{scope:b9}{pos:aJ}{newAcc first:kY a8}{g:n3}{gs:List n3}{cl:List (af×aa)}{Q:k8z}
  (hcl:clausesOf e=g::gs) (hs:∀x,aF g.iter env x=pure x) (hclos:d4 scope env=pure cl)
  (hkind:scope.kind=.function) (hnames:∀x∈scope.names,x.2=.local->scope.names.lookup x.1=a3 .local)
  (h:ar M A first (λx s₁=>ar M A (iF x) (λit s₂=>ar M A newAcc (λacc s₃ =>
   ar M A (dR scope env.globals cl [] env.qual a5 .none (a3 env)) (λcenv s₄ =>
    cenv.frame=env.frame/\bK M A (.compStart e 0 it acc { cenv with scope:=gE scope env }) (compX M A E env.frame cenv.locals) s₄) E s₃) E s₂) E s₁) E s) :
  ar M A (iV e scope env pos newAcc a4 first a5) Q E s:=by
 unfold iV;rw[hclos,hcl];refine a6 (aI h (λx s₁ h₁=>a6 (d7 (a6 (fv (hs x) (a6 (bC (aI h₁ (λit s₂ h₂ =>
  wpAny_standIf (a6 (aI h₂ (λacc s₃ h₃=>a6 (aj (a6 (aI h₃ (λcenv s₄ h₄=>?_) λ_ _ h'=>h')))) λ_ _ h'=>h')))
   λ_ _ h'=>h'))))))) λ_ _ h'=>h')
 dsimp only;have hv:∀x∈(scope.names.filter λx=>(x.2==.local || x.2==.cell)&&x.1 != (".0":af)).reverse,x.2=.local ->
   Env.kindOf { cenv with scope:=gE scope env } x.1=a3 .local:=λx hx hl=>fB (hnames x (Xz.mp (List.mem_reverse.mp hx)).1 hl)
 refine bC (a6 (gb (bC (wpAny_run (bA h₄.2 λr s' hr=>?_)))));cases r with
 |ok f=>exact b8 hr
 |error x =>obtain⟨m,hn,hr⟩:=hr;exact a6 (bC (wpAny_comp_letGo (cenv:={ cenv with scope:=gE scope env }) hkind _ s' m hv hn λh' m' _ hs'=>aI (hr h' hs' _ h₄.1) (λ_ _ f=>f.elim) λ_ _ y=>y))
end
section
variable{X:Cx}{pins:k90}{σ:St}{H:Hp}{s:ae}{e C T:aa}{Cv fl:a8}
theorem jcc{x:af}{H0:Hp}{what:String}{cenv:cH}{L:aa}{Q:k8z}(k:U9 X σ H0 x)(g:j4 H0 H)(hm:X.mg x=a3 Cv)(hfx:X.env.frame=a3 L)(hf:cenv.frame=a3 L)(I:Inv X pins σ H s)(F:FlT (Old X pins) H s.heap e Cv fl) :
  ar (aw X.prog X.w) X.A (ib what (.ref e) cenv:kY a8) Q X.xe s:=by
 obtain⟨oe,vs,a0,T,oT,ts,he,hc,hd,h0,h1,hTe,hT,hdT,h3,hTf,hTn⟩:=F.obj;have hsz:3<ts.size:=(T8.mp h3).1;unfold ib;refine a6 (bx he hd h1 ?_);rw[if_neg (show ¬(aC T==aU)=a7 from by simp)];unfold ja;refine a6 (a6 (bx he hd h1 ?_));rw[if_pos (show(aC T != aU)=a7 from by simp),hf];refine dP hT hdT hsz ?_;refine kx ?_;have keep:∀b o,s.heap.get? b=a3 o->b∉[T]->(s.heap.update T (dM (·.setIfInBounds 3 (cw L)))).get? b=a3 o:=λb o q n=>by rw[il _ _ (λz=>n (xg.mpr z.symm))];exact q
 have hT':=eE (dM (·.setIfInBounds 3 (cw L))) hT (eK (Tp hdT _));have I':=I.noted (as:=[T]) (λb hb=>.inr (by rw[xg.mp hb];exact⟨hTf,hTn⟩)) keep λb o q nf=>⟨o.slots,keep b o q λz=>by
  rw[xg.mp z,hT]at q
  cases q
  exact nf ts hdT⟩
 refine k pins H _ e Cv I' g hm ⟨F.new,F.free,oe,vs,a0,keep e oe he (λz=>hTe (xg.mp z).symm),hc,hd,h0,.inr ⟨T,_,_,cw L,h1,hTe,hT',Tp hdT _,⟨by simp[hsz],.inr ⟨L,hfx,rfl⟩⟩,hTf,hTn⟩⟩
end
section
variable{X:Cx}{ρ:Rho}{tg elt iter:ai}{scope:b9}{pos:aJ}{ds:List D}{d0:D}{cs:List Nat}{x:af}
theorem jgu{fp:List aa}{pins:k90}{H:Hp}{b:aa}(f2:∀b∈fp,Qm X pins H b)(h:Old X pins b):b∉fp:=λhb=>by
 obtain⟨_,hl,_,hx,hc,hp⟩:=f2 b hb;rcases h with ⟨o,q,n⟩|⟨p,hpm,rfl⟩|rfl|⟨y,q⟩
 .rcases hx with z|z
  .exact n z
  .exact absurd (xq q) (Nat.not_lt.mpr z)
 .exact hp p hpm rfl
 .exact hl rfl
 .exact hc y b q rfl
theorem DX.comp(cs:List Nat)(hi:DI X ρ tg iter (d0::ds))
  (hb:∀C s H fp pn xe,d5 (aw X.prog X.w) X.A (cCx X scope C s H fp pn).env xe->∃ρ2,DG (cCx X scope C s H fp pn) ρ tg d0 ρ2/\owns ρ2=owns ρ/\DX { cCx X scope C s H fp pn with xe:=xe } ρ2 elt x)
  (hcs:∀j∈cs,ρ[j]?=a3 .un) {env0:cH} {out0:List cH} {L:aa} (hst:X.stack=env0::out0) (hf0:env0.frame=a3 L) (hfm:X.env.frame=a3 L) (hc:X.calm=a7:=by rfl) (hkind:scope.kind=.function:=by rfl) (hok:J7 scope X.env X.N cs=a7:=by rfl)
  (hs:∀x,aF iter X.env x=pure x:=by intro _;rfl):DX X ρ (.ListComp elt [⟨tg,iter,[],0⟩] scope pos) x:=λσ H Q R k pins s I=>by
 rw[mW];refine jhn rfl hs (R8 (Uz hok)) hkind (U3 hok) (thn (hi σ H (λJ H'=>j4 H H'/\Ub X.K (del H' (owns ρ)) J (d0::ds)) R (λJ H' g1 ok=>⟨g1,ok⟩) pins s I) λv s1 h1=>thn h1 λitv s2 h2=>?_);obtain⟨it,fp,tn,J,H2,e,I2,T,st2,f2,g2,ok⟩:=h2;subst e;have R2:=R.grow g2;refine j0p (RR:=λ_ C=>compX (aw X.prog X.w) X.A X.xe X.env.frame C) (cs:=cs) I2 T st2 f2 hkind hok λC Dd h₁ okc I0 hDd hDlt hD0 old=>?_;have hDlt:@LT.lt Nat _ Dd C:=hDlt;have pinlt:∀p∈X.pn++pins,p.1<Dd:=λp hp=>by rw[<-hDd];exact xq (I2.pin p hp).1
 have celllt:∀y c,X.env.cells.lookup y=a3 c->c<Dd:=λy c h=>by obtain⟨v,o,e,_⟩:=I2.cell y c h;rw[<-hDd];exact xq e
 have loclt:X.env.locals<Dd:=by rw[<-hDd];exact I2.lt
 have fplt:∀b∈fp,b<Dd:=λb hb=>by obtain⟨o,e,_⟩:=T.obj _ _ st2 b hb;rw[<-hDd];exact xq e
 have hDo:Dd∉owns ρ:=R2.fresh hD0;have fpok:∀{H':Hp},(∀b∈fp,H' b=a5)->∀b∈fp,Qm (cCx X scope C s2 H2 fp (X.pn++pins)) [] H' b:=λ{H'} hn b hb =>⟨hn b hb,(okc.exf b hb).1,okc.exfs b hb,.inl hb,(okc.exf b hb).2,λp hp=>by rw[Xo]at hp;exact(f2 b hb).2.2.2.2.2 p hp⟩
 have R0:Rep X.K ρ (mask cs σ) H2:=R2.weaken (Uu _ _) λj hj=>j05 λz=>hj (hcs j z);have e0:del (upd H2 Dd (.lst [])) [Dd]=H2:=by
  rw[Yp (xg.mpr rfl)]
  funext b
  by_cases z:b∈[Dd]
  .rw[qj z,xg.mp z,hD0]
  .exact j6 z
 have m3:upd H2 Dd (.lst []) Dd=a3 (.lst []):=j9;have fr3:∀b∈fp,upd H2 Dd (.lst []) b=a5:=λb hb=>by rw[jb (X8 (fplt b hb))];exact(f2 b hb).1
 have st3:tn 0 h₁:=T.keep _ _ _ st2 (λb _ o e=>old b o e);have F3:j4 (del H2 (owns ρ)) (del (upd H2 Dd (.lst [])) (Dd::owns ρ)):=by
  have:del (upd H2 Dd (.lst [])) (Dd::owns ρ)=del (del (upd H2 Dd (.lst [])) [Dd]) (owns ρ):=by rw[Qv];rfl
  rw[this,e0];exact j4.refl _
 obtain⟨go,stop,yld⟩:=ok 0 (upd H2 Dd (.lst [])) (Dd::owns ρ) F3 λa ha=>by
  rcases xm.mp ha with e|ha
  .rw[e,m3];simp
  .obtain⟨xs,e⟩:=R0.owned a ha;have hne:a≠Dd:=λz=>hDo (z▸ha);rw[jb hne,e];simp
 refine my ?_;show ar _ X.A ((compTurn (.ListComp elt [⟨tg,iter,[],0⟩] scope pos) 0 (.ref it) (.ref Dd) (cCx X scope C s2 H2 fp (X.pn++pins)).env).onRaise (λx=>do cZ x (cCx X scope C s2 H2 fp (X.pn++pins)).env;mw x)) _ _ _;refine wpAny_noted ?_;rw[mY];refine a6 (d7 (a6 (aI (T.item (cCx X scope C s2 H2 fp (X.pn++pins)) rfl rfl rfl hc 0 [] _ _ _ (λ_ _=>False) I0 (fpok fr3) st3 (go (by simp))) (λr s4 h4=>?_) λ_ _ z=>z.elim)));obtain⟨u,hr,h4⟩:=h4;subst hr;refine a6 (aI h4 (λ_ s5 h5=>?_) λ_ _ z=>z.elim);obtain⟨x5,H5,I5,r5,y5,st5,fr5⟩:=h5;obtain⟨g5,en5⟩:=yld x5 H5 y5;have m5:H5 Dd=a3 (.lst []):=g5 _ _ m3;have hA:∀a∈[Dd],Hd (H5 a):=λa ha=>.inl ⟨[],by rw[xg.mp ha];exact m5⟩;have I5p:=I5.pinned (fpok fr5) (T.obj _ _ st5);have I5h:=I5p.hide hA;obtain⟨oD,hoD⟩:=(I5.hok Dd _ m5).get;have g25:j4 H2 (del H5 [Dd]):=by
  have:=jf (A:=[Dd]) g5
  rwa [e0]at this
 have R5:Rep X.K ρ (mask cs σ) (del H5 [Dd]):=R0.grow g25;have en5':Enc X.K (del (del H5 [Dd]) (owns ρ)) d0 x5:=by rw[Qv];exact en5 _ rfl
 have po:d5 (aw X.prog X.w) X.A (cCx X scope C s2 H2 fp (X.pn++pins)).env (jS (aw X.prog X.w) X.A (cCx X scope C s2 H2 fp (X.pn++pins)).env λe s'=>compX (aw X.prog X.w) X.A X.xe X.env.frame C (.error e) s'):=ik;obtain⟨ρ2,⟨sub,hG⟩,eo,hX⟩:=hb C s2 H2 fp ((X.pn++pins)++(([]++qx fp s5.heap)++qx [Dd] s5.heap)) _ po;have J5:Inv (cCx X scope C s2 H2 fp ((X.pn++pins)++(([]++qx fp s5.heap)++qx [Dd] s5.heap))) [] (mask cs σ) (del H5 [Dd]) s5:=I5h.toPn;refine a6 (aI (hG (mask cs σ) (del H5 [Dd]) x5 (λσ6 F6=>F6=del H5 [Dd]/\Rep X.K ρ2 σ6 F6) R5 en5' (λσ6 R6=>⟨rfl,R6⟩) [] s5 u J5 r5) (λ_ s6 h6=>?_) λ_ _ z=>z.elim);obtain⟨σ6,F6,I6,e6,R6⟩:=h6;subst e6;refine a6 (aj ?_);rw[if_pos rfl];refine a6 (a6 (aI (hX σ6 (del H5 [Dd]) (λ_ _=>False) R6 ?_ [] s6 (I6.wish _)) (λy s7 h7=>?_) λ_ _ z=>z))
 .intro pins' H' s' e C' I' g' hm Fe;refine j26 (X:={ cCx X scope C s2 H2 fp ((X.pn++pins)++(([]++qx fp s5.heap)++qx [Dd] s5.heap))with xe:=(jS (aw X.prog X.w) X.A (cCx X scope C s2 H2 fp (X.pn++pins)).env λe s'=>compX (aw X.prog X.w) X.A X.xe X.env.frame C (.error e) s') }) (env0:=env0) (out0:=out0) (L:=L) I' hst hf0 hfm Fe λh' I'' F''=>?_;have J1:Inv (cCx X scope C s2 H2 fp ((X.pn++pins)++(([]++qx fp s5.heap)++qx [Dd] s5.heap))) pins' σ6 H' { s' with heap:=h' }:=I''.unwish;have J2:Inv (cCx X scope C s2 H2 fp (X.pn++pins)) (([]++qx fp s5.heap)++qx [Dd] s5.heap) σ6 H' { s' with heap:=h' }:=Inv.ofPn J1;obtain⟨hF,J3⟩:=I5p.unhide hA J2;have J4:=J3.unpinned;have JX:Inv X pins σ (mrg [Dd] H5 H') { s' with heap:=h' }:=I2.call' (ch:=fp) J4.os J4.base J4.hok J4.bare λb hb=>⟨(f2 b hb).2.2.2.1,(f2 b hb).2.1,(f2 b hb).2.2.2.2.1,(f2 b hb).2.2.2.2.2⟩
  have oldY:∀b,Old X pins b->Old { cCx X scope C s2 H2 fp ((X.pn++pins)++(([]++qx fp s5.heap)++qx [Dd] s5.heap))with xe:=(jS (aw X.prog X.w) X.A (cCx X scope C s2 H2 fp (X.pn++pins)).env λe s'=>compX (aw X.prog X.w) X.A X.xe X.env.frame C (.error e) s') } pins' b:=λb hb=>by obtain⟨o,q⟩:=I2.old hb;exact .inl ⟨o,q,jgu f2 hb⟩
  have oldD:Old { cCx X scope C s2 H2 fp ((X.pn++pins)++(([]++qx fp s5.heap)++qx [Dd] s5.heap))with xe:=(jS (aw X.prog X.w) X.A (cCx X scope C s2 H2 fp (X.pn++pins)).env λe s'=>compX (aw X.prog X.w) X.A X.xe X.env.frame C (.error e) s') } pins' Dd:=.inr (.inl ⟨(Dd,oD),Xr _ (Xd _ (Xd _ (Qg (xg.mpr rfl) hoD))),rfl⟩);have oldC:Old { cCx X scope C s2 H2 fp ((X.pn++pins)++(([]++qx fp s5.heap)++qx [Dd] s5.heap))with xe:=(jS (aw X.prog X.w) X.A (cCx X scope C s2 H2 fp (X.pn++pins)).env λe s'=>compX (aw X.prog X.w) X.A X.xe X.env.frame C (.error e) s') } pins' C:=.inr (.inr (.inl rfl));have g:j4 H (mrg [Dd] H5 H'):=by
   have z:j4 H2 (del (mrg [Dd] H5 H') [Dd]):=by rw[Z9 hF];exact g25.trans g'
   exact g2.trans (z.trans jo)
  obtain⟨m,hmC,_⟩:=J4.loc;refine⟨m,hmC,λh2 sb cenv hcf=>?_⟩;have Lo:Loose X pins (mrg [Dd] H5 H') C:=⟨J4.free,Pz (Xw loclt hDlt),by have:=I2.sz;omega,λx c h=>X8 (Xw (celllt x c h) hDlt),λp hp=>X8 (Xw (pinlt p hp) hDlt)⟩
  have I9:=JX.loose Lo sb;obtain⟨oe,vs,a0,T',oT,ts,he,hc',hd,h0,h1',hTe,hT,hdT,h3,hTf,hTn⟩:=F''.obj;refine jcc (fl:=cw L) k g hm hfm (hcf.trans hfm) I9 ⟨λb hb=>F''.new b (oldY b hb),?_,oe,vs,a0,T',oT,ts,sb.extBut e oe (c8 (F''.new C oldC)) he,hc',hd,h0,h1',hTe,sb.extBut T' oT (c8 (hTn C oldC)) hT,hdT,h3,?_,λb hb=>hTn b (oldY b hb)⟩
  .rw[jg (λz=>F''.new Dd oldD (xg.mp z).symm)];exact F''.free
  .rw[jg (λz=>hTn Dd oldD (xg.mp z).symm)];exact hTf
 .obtain⟨_,_,_,_,z⟩:=h7;exact z.elim
end
section
variable{X:Cx}{ρ:Rho}{e:ai}{pos:aJ}
noncomputable def tupS(is:List Int):af:=(PyData.tuple (is.map dU)).shown
theorem Nf{K:k8y}{H:Hp}{h:aD}:∀{is:List Int}{xs:List V}{us:List a8},j5 K H (is.map D.int) xs->Vals xs us->ReadsAll h us (is.map dU) []
 |[],xs,us,en,rv=>by have:xs=[]:=en;subst this;cases rv;exact .nil
 |i::is,xs,us,⟨x,r,e,ex,en⟩,rv=>by
  subst e;have ex:x=.int i:=ex;subst ex;cases rv with
  |cons ru rr =>obtain⟨t,rfl⟩:=ru;exact .cons (as:=[]) (.int i t) (Nf en rr)
theorem Rm:∀{is:List Int},(∀i∈is,i.natAbs.log2<1920)->eW (is.map dU)=a7
 |[],_=>by simp[eW]
 |i::is,h=>by simp[eW,jM,h i (xr ..),Rm λj hj=>h j (kj _ hj)]
theorem M6:∀{is:List Int},g6 (is.map dU)=0/\fi (is.map dU)=a4
 |[]=>by simp[g6,fi]
 |i::is=>by have:=M6 (is:=is);simp[g6,fi,kL,k7,this.1,this.2]
theorem DE.fmtT{is:List Int}(hg:X.A.guards=a3 [])(hu:X.A.units+100<aM)(ha:DT X ρ e (.tup (is.map D.int)))(hi:∀i∈is,i.natAbs.log2<1920)(hz:(tupS is).length<=aq):DE X ρ (.FormattedValue e (-1) a5 pos) (.str (tupS is)):=λσ H Q R q pins s I=>by
 refine fK (thn (ha σ H (λv H1=>Enc X.K H1 (.tup (is.map D.int)) v/\j4 H H1) R (λv H1 g e=>⟨e,g⟩) pins s I) λu s1 ⟨v,H1,I1,r,ev,g⟩=>?_);obtain⟨a,xs,rfl,sq,en⟩:=ev;cases(show u=aC a from r);obtain⟨its,rv,⟨o,ho,hoc,m,hod⟩,_⟩:=I1.tuple sq;have rd:Reads s1.heap (.ref a) (.tuple (is.map dU)) []:=.tuple ho hoc hod (by simpa using Nf (h:=s1.heap) en rv);exact formatField_of_reads rd (by rw[jM];exact Rm hi) (λz=>by rw[k7,M6.2]at z;cases z) hg (by rw[kL,M6.1];omega) (λ_ _ z=>z)
  (λh' w tk hk=>⟨.str (tupS is),H1,I1.kept hk,⟨_,rfl⟩,q _ H1 g rfl⟩) hz
end
end L2
end
section
namespace L2
noncomputable def Vl(t:Int):List Int:=if t=2 then[0,1] else[t]
noncomputable def step(acc:List (List Int))(f:List Int):List (List Int):=acc.flatMap λa=>f.map λx=>a++[x]
noncomputable def qt(fs:List (List Int)):List (List Int):=fs.foldl step [[]]
noncomputable def Qe:List (List Int)->List (List Int)
 |[]=>[[]]
 |f::fs=>f.flatMap λx=>(Qe fs).map (x :: ·)
theorem Ny:∀(fs:List (List Int)) (acc:List (List Int)),fs.foldl step acc=acc.flatMap λa=>(Qe fs).map (a ++ ·)
 |[],acc=>by simp[Qe]
 |f::fs,acc=>by
  rw[cq,Ny fs,step,List.flatMap_assoc];congr 1
  funext a
  rw[Qe,List.map_flatMap,List.flatMap_map];congr 1
  funext x
  rw[Xc];congr 1
  funext r
  simp
theorem Yl(fs:List (List Int)):qt fs=Qe fs:=by rw[qt,Ny];simp
noncomputable def Vr:Nat->List (List Int)
 |0=>[[]]
 |m+1=>(Vr m).map (0 :: ·)++(Vr m).map (1 :: ·)
theorem Ek:∀m,(Vr m).length=2^m
 |0=>rfl
 |m+1=>by rw[Vr,X6,xj,xj,Ek m,bZ];omega
theorem Wv{b:Int}(hb:0<b)(n c:Int):∀{i m:Nat},i<=m->jk b i (n+b^m*c)=jk b i n
 |0,m,_=>rfl
 |i+1,m,h=>by
  rw[jk,jk,Wv hb n c nofun];congr 1;obtain⟨k,rfl⟩:∃k,m=i+(k+1):=⟨m-i-1,by omega⟩
  have hp:b^i≠0:=fY (cB hb);rw[Int.pow_add,lE,cP _ _ hp,iJ,fZ (b^k) b,lE,Int.add_mul_emod_self_left]
theorem El:∀m:Nat,(aE (2^m)).map (λn=>jk 2 m ((n:Nat):Int))=Vr m
 |0=>rfl
 |m+1=>by
  have e:2^(m+1)=2^m+2^m:=by rw[bZ];omega
  rw[e,gO,Xp,Vr,<-El m,Xc,Xc,Xc];have pc:((2^m:Nat):Int)=(2:Int)^m:=by simp
  congr 1
  .apply T7;intro n hn;have hn':n<2^m:=Xf.mp hn;show jk 2 (m+1) (n:Int)=0::jk 2 m (n:Int);rw[jk];congr 1;have h0:(n:Int)/2^m=0:=Tn nofun (by rw[<-pc];omega)
   rw[h0];rfl
  .apply T7;intro n hn;have hn':n<2^m:=Xf.mp hn;show jk 2 (m+1) ((2^m+n:Nat):Int)=1::jk 2 m (n:Int);have e1:((2^m+n:Nat):Int)=(n:Int)+2^m*1:=by rw[d6,pc,mE,iK]
   rw[e1,jk,Wv (by decide) _ _ (X3 m)];congr 1;have hp:(2:Int)^m≠0:=fY (cB (by decide));have h0:(n:Int)/2^m=0:=Tn nofun (by rw[<-pc];omega)
   rw[cP _ _ hp,h0];rfl
noncomputable def fits:List Int->List Int->Bool
 |t::ts,x::xs=>(t==2 || t==x)&&fits ts xs
 |_,_=>a7
theorem M7:∀{p:List Int},(∀t∈p,0<=t/\t<3)->(Vr p.length).filter (fits p)=Qe (p.map Vl)
 |[],_=>rfl
 |t::ts,h=>by
  have ih:=M7 (p:=ts) λu hu=>h u (kj _ hu);rw[xx,Vr,fm,xu,Qe,<-ih];have key:∀x:Int,((Vr ts.length).map (x :: ·)).filter (fits (t::ts))=if (t==2 || t==x)=a7 then((Vr ts.length).filter (fits ts)).map (x :: ·) else[]:=λx=>by
   rw[kI];by_cases c:(t==2 || t==x)=a7
   .rw[if_pos c];congr 1;apply List.filter_congr;intro r _;show((t==2 || t==x)&&fits ts r)=fits ts r;rw[c,Bool.true_and]
   .rw[if_neg c];have:(fits (t::ts) ∘ λr=>x::r)=λ_=>a4:=by
     funext r
     show((t==2 || t==x)&&fits ts r)=a4;rw[Bool.eq_false_iff.mpr c,kR]
    rw[this];simp
  rw[key 0,key 1];have ht:=h t (xr ..);have:t=0\/t=1\/t=2:=by omega
  rcases this with e|e|e<;>subst e<;>simp[Vl]
theorem Yv:∀p:List Int,(Qe (p.map Vl)).length=2^(p.countP λt=>t==2)
 |[]=>rfl
 |t::ts=>by
  have ih:=Yv ts;rw[xu,Qe,tu];by_cases c:t=2
  .subst c;simp[Vl,ih,bZ];omega
  .have e1:Vl t=[t]:=if_neg c;have e2:(t==2)=a4:=by simpa using c
   rw[e1,e2];simp[ih]
end L2
end
section
namespace L2
open PySem
inductive Sv where
 |un
 |val (d:D)
 |own (l:List D)
 |exc (x:af)
noncomputable abbrev En:=List Sv
set_option genInjectivity true in
inductive Rk where
 |e (d:D)
 |o (l:List D)
 |w (l:List D)
 |t (d:D)
noncomputable def Rk.d:Rk->D
 |.e d=>d
 |.o l=>.lst l
 |.w l=>.lst l
 |.t d=>d
noncomputable def Rk.st:Rk->Option D
 |.e d=>a3 d
 |.o l=>a3 (.lst l)
 |.w l=>a5
 |.t d=>if Z6 d=a7 then a3 d else a5
noncomputable def Rk.sq:Rk->Option (Bool×List D)
 |.e (.lst l)=>a3 (a7,l)
 |.e (.tup l)=>a3 (a4,l)
 |.o l=>a3 (a7,l)
 |.w l=>a3 (a7,l)
 |_=>a5
noncomputable def Rk.lw:Rk->Option (List D)
 |.o l=>a3 l
 |.w l=>a3 l
 |_=>a5
inductive Rc where
 |val (d:D)
 |fresh (l:List D)
 |err (x:af)
 |lval (d:D)
 |mval (d:D) (k:Nat)
 |merr (x:af)
 |no
noncomputable def Rc.rk:Rc->Option Rk
 |.val d=>a3 (.e d)
 |.fresh l=>a3 (.o l)
 |_=>a5
inductive Bop where
 |add|sub|mul|fdiv|mod|pow|shl|shr|band|bxor
inductive Cop where
 |lt|le|gt|ge|eq|ne|isin|notin
inductive Bf where
 |len|min|max|all|tuple|list|sum|int|any|sorted
inductive Mf where
 |count
inductive Ex where
 |lit (d:D)
 |var (i:Nat)
 |glob (x:af)
 |bin (op:Bop) (a b:Ex)
 |neg (a:Ex)
 |cmp (op:Cop) (a b:Ex)
 |isN (a:Ex)
 |and (a b:Ex)
 |or (a b:Ex)
 |not (a:Ex)
 |ite (c a b:Ex)
 |nil
 |cons (a b:Ex)
 |tup (es:Ex)
 |lst (es:Ex)
 |ix (a b:Ex)
 |sl (a lo hi:Ex)
 |call (f:af) (es:Ex)
 |blt (f:Bf) (es:Ex)
 |meth (m:Mf) (a es:Ex)
 |isi (a:Ex) (ts:List String)
 |comp (is:List Nat) (elt it cond:Ex)
 |seq (a:Ex)
 |range (es:Ex)
 |fst (es:Ex)
 |isx (i:Nat) (cs:List af)
 |join (sep:af) (a:Ex)
 |enum (a:Ex)
 |lrng (a:Ex)
 |tix (a b:Ex)
 |dzip (a b:Ex)
 |callD (f:af) (es:Ex)
 |chn (a b c:Ex)
 |che (a b c:Ex)
 |maxD (a:Ex)
 |callK (f:af) (es a:Ex)
 |dix (a b:Ex)
 |dnil
 |rpr (a:Ex)
 |upr (a:Ex)
 |spl (a:Ex)
 |exc (a:Ex)
 |sti (a:Ex)
 |din (a b:Ex)
 |items (a:Ex)
 |callV (i:Nat) (es:Ex)
 |dget (a b:Ex)
 |dvals (a:Ex)
 |minT (a:Ex)
set_option genInjectivity true in
inductive W where
 |v (r:Rk)
 |a (rs:List Rk)
 |i (ds:List D)
noncomputable def jm(n:Nat):Bool:=decide (n<=aq)
noncomputable def binI:Bop->Int->Int->Option Int
 |.add,i,j=>a3 (i+j)
 |.sub,i,j=>a3 (i-j)
 |.mul,i,j=>if (-(2^64)<i/\i<2^64)\/(-(2^64)<j/\j<2^64)then a3 (i*j)else a5
 |.fdiv,i,j=>if 0<j/\j<18446744073709551616 then a3 (i/j)else a5
 |.mod,i,j=>if 0<j then a3 (i%j)else a5
 |.pow,i,j=>if 0<=j/\j<=1000000/\i.natAbs<2^64 then a3 (i^j.toNat)else a5
 |.shl,i,j=>if 0<=j/\j<=1000000/\i.natAbs<2^64 then a3 (i*2^j.toNat)else a5
 |.shr,i,j=>if 0<=j then a3 (i/2^j.toNat)else a5
 |.band,i,j=>a3 (Builtin.bitAnd i j)
 |.bxor,i,j=>a3 (Builtin.bitXor i j)
noncomputable def U5(op:Bop)(a b:Rk):Option Rk :=
 match a.d,b.d with
 |.int i,.int j=>(binI op i j).map λk=>.e (.int k)
 |.str y,.str z=>match op with
  |.add=>if jm (y.length+z.length)=a7 then a3 (.e (.str (y++z)))else a5
  |_=>a5
 |.str y,.int k=>match op with
  |.mul=>if (1<=k/\k<=1000)/\y.length<=1000 then a3 (.e (.str (jL y k)))else a5
  |_=>a5
 |_,_=>match op,a.sq,b.sq,b.d with
  |.add,a3 (a7,l),a3 (a7,m),_=>if jm (l.length+m.length)=a7 then a3 (.o (l++m))else a5
  |.add,a3 (a4,l),a3 (a4,m),_=>if jm (l.length+m.length)=a7 then a3 (.e (.tup (l++m)))else a5
  |.mul,a3 (a4,l),_,.int k=>if 1<=k/\k<2^63/\l.isEmpty=a4/\jm (l.length*k.toNat)=a7 then a3 (.e (.tup (ah k.toNat l).flatten))else a5
  |.mul,_,_,.int k=>match a.lw with
   |some l=>if -(2^63)<=k/\k<2^63/\jm (l.length*k.toNat)=a7 then a3 (.o (ah k.toNat l).flatten)else a5
   |none=>a5
  |_,_,_,_=>a5
noncomputable def cmpI:Cop->Int->Int->Option Bool
 |.lt,i,j=>a3 (decide (i<j))
 |.le,i,j=>a3 (decide (i<=j))
 |.gt,i,j=>a3 (decide (j<i))
 |.ge,i,j=>a3 (decide (j<=i))
 |.eq,i,j=>a3 (decide (i=j))
 |.ne,i,j=>a3 (!decide (i=j))
 |_,_,_=>a5
noncomputable def D.sqv:D->Option (Bool×List D)
 |.lst l=>a3 (a7,l)
 |.tup l=>a3 (a4,l)
 |_=>a5
noncomputable def Zf(op:Cop)(a b:D):Option Bool :=
 match op,a,b with
 |op,.int i,.int j=>cmpI op i j
 |.eq,a,b=>if a.dep<=90/\b.dep<=90 then a3 (deq a b)else a5
 |.ne,.bl a,.bl b=>a3 (a != b)
 |.ne,.str a,.str b=>a3 (!decide (a=b))
 |.ne,.non,.non=>a3 a4
 |.ne,.lst l,.lst m=>if D.depL l<=90/\D.depL m<=90 then a3 (!v5 l m)else a5
 |.ne,.tup l,.tup m=>if D.depL l<=90/\D.depL m<=90 then a3 (!v5 l m)else a5
 |.isin,.str a,.str b=>a3 (inS a b)
 |.lt,.str a,.str b=>a3 (decide (a.cps.toList<b.cps.toList))
 |.gt,.str a,.str b=>a3 (decide (b.cps.toList<a.cps.toList))
 |.isin,a,b=>match b.sqv with
  |some (_,l)=>if D.depL l<=90/\a.dep<=90 then a3 (l.any λe=>deq e a)else a5
  |none=>a5
 |.notin,a,b=>match b.sqv with
  |some (_,l)=>if D.depL l<=90/\a.dep<=90 then a3 (!l.any λe=>deq e a)else a5
  |none=>a5
 |_,_,_=>a5
noncomputable def boolsOf:List D->Option (List Bool)
 |[]=>a3 []
 |.bl b::r=>(boolsOf r).map (b :: ·)
 |_::_=>a5
noncomputable def intsOf:List D->Option (List Int)
 |[]=>a3 []
 |.int b::r=>(intsOf r).map (b :: ·)
 |_::_=>a5
noncomputable def strsOf:List D->Option (List af)
 |[]=>a3 []
 |.str b::r=>(strsOf r).map (b :: ·)
 |_::_=>a5
noncomputable def Vb:Bf->List Rk->Option Rk
 |.len,[a]=>match a.d with
  |.lst l=>a3 (.e (.int l.length))
  |.tup l=>a3 (.e (.int l.length))
  |.str y=>if jm y.length=a7 then a3 (.e (.int y.length))else a5
  |_=>a5
 |.min,[a,b]=>match a.d,b.d with
  |.int i,.int j=>a3 (.e (.int (if j<i then j else i)))
  |_,_=>a5
 |.max,[a,b]=>match a.d,b.d with
  |.int i,.int j=>a3 (.e (.int (if j>i then j else i)))
  |_,_=>a5
 |.max,[a]=>match a.d with
  |.lst l=>match intsOf l with
   |some ns=>if ns.isEmpty=a4 then a3 (.e (.int (Jj ns)))else a5
   |none=>a5
  |_=>a5
 |.min,[a]=>match a.d with
  |.lst l=>match intsOf l with
   |some ns=>if ns.isEmpty=a4 then a3 (.e (.int (V4 ns)))else a5
   |none=>a5
  |_=>a5
 |.all,[a]=>match a.d with
  |.lst l=>(boolsOf l).map λbs=>.e (.bl (bs.all id))
  |_=>a5
 |.any,[a]=>match a.d with
  |.lst l=>(boolsOf l).map λbs=>.e (.bl (bs.any id))
  |_=>a5
 |.tuple,[a]=>match a.sq with
  |some (_,l)=>a3 (.e (.tup l))
  |none=>a5
 |.list,[a]=>match a.sq with
  |some (_,l)=>a3 (.o l)
  |none=>a5
 |.sum,[a]=>match a.d with
  |.lst l=>(intsOf l).map λns=>.e (.int ns.sum)
  |.tup l=>(intsOf l).map λns=>.e (.int ns.sum)
  |_=>a5
 |.int,[a]=>match a.d with
  |.bl k=>a3 (.e (.int (if k then 1 else 0)))
  |.str y=>if y.length<=640 then(gG y).map λn=>.e (.int n)else a5
  |_=>a5
 |_,_=>a5
noncomputable def j3p:Mf->Rk->List Rk->Option Rk
 |.count,a,[b]=>match a.d with
  |.tup l=>if D.depL l<=90/\b.d.dep<=90 then a3 (.e (.int (l.countP λe=>deq e b.d)))else a5
  |.lst l=>if D.depL l<=90/\b.d.dep<=90 then a3 (.e (.int (l.countP λe=>deq e b.d)))else a5
  |_=>a5
 |_,_,_=>a5
noncomputable def jgm(t c:String):Option Bool :=
 if t = "function" then a5 else
 if c = "int" then a3 (t == "int" || t == "bool") else
 if c = "bool" then a3 (t == "bool") else
 if c = "str" then a3 (t == "str") else
 if c = "list" then a3 (t == "list") else
 if c = "tuple" then a3 (t == "tuple")else a5
noncomputable def jgn(d:D):List String->Option Bool
 |[]=>a3 a4
 |c::cs=>match jgm d.ty c,jgn d cs with
  |some a,a3 b=>a3 (a || b)
  |_,_=>a5
noncomputable def za:List Nat->D->En->Option En
 |[i],d,ρ=>a3 (ρ.set i (.val d))
 |[i,j],d,ρ=>match d with
  |.tup [a,b]=>a3 ((ρ.set i (.val a)).set j (.val b))
  |_=>a5
 |[i,j,k],d,ρ=>match d with
  |.tup [a,.tup [b,c]]=>a3 (((ρ.set i (.val a)).set j (.val b)).set k (.val c))
  |_=>a5
 |[i,j,k,_],d,ρ=>match d with
  |.tup [a,b,c]=>a3 (((ρ.set i (.val a)).set j (.val b)).set k (.val c))
  |_=>a5
 |_,_,_=>a5
noncomputable def Wr(is:List Nat)(ρ:En):Bool:=is.all λi=>match ρ[i]? with
 |some .un=>a7
 |_=>a4
noncomputable def Jr(f:D->Option (Option D)):List D->Option (List D)
 |[]=>a3 []
 |d::ds=>match f d,Jr f ds with
  |some (a3 x),a3 xs=>a3 (x::xs)
  |some a5,a3 xs=>a3 xs
  |_,_=>a5
noncomputable def v6:List Rk->Option (List D)
 |[]=>a3 []
 |r::rs=>match r.st,v6 rs with
  |some d,a3 ds=>a3 (d::ds)
  |_,_=>a5
noncomputable def W.one:W->Option Rk
 |.v r=>a3 r
 |_=>a5
noncomputable def W.args:W->Option (List Rk)
 |.a rs=>a3 rs
 |_=>a5
noncomputable def W.it:W->Option (List D)
 |.i ds=>a3 ds
 |_=>a5
noncomputable def Z3:Option W->Option (Option Int)
 |some (.a [])=>a3 a5
 |some (.a [r])=>match r.d with
  |.int i=>a3 (a3 i)
  |_=>a5
 |_=>a5
noncomputable def truth:Option W->Option Bool
 |some (.v r)=>match r.d with
  |.bl k=>a3 k
  |_=>a5
 |_=>a5
noncomputable def j96:Ex->Option Nat
 |.seq (.var i)=>a3 i
 |.enum (.var i)=>a3 i
 |_=>a5
noncomputable def frz(t:Ex)(ρ:En):En:=match j96 t with
 |some i=>match ρ[i]? with
  |some (.own l)=>ρ.set i (.val (.lst l))
  |_=>ρ
 |none=>ρ
noncomputable def Jp(t:Ex)(ρ:En):Bool:=match j96 t with
 |some i=>match ρ[i]? with
  |some (.own _)=>a7
  |_=>a4
 |none=>a4
noncomputable def q8:D->Option af
 |.int i=>if -18446744073709551616<i/\i<18446744073709551616 then a3 (aR (toString i))else a5
 |.str y=>if y.length<=10000 then a3 y else a5
 |.tup l=>match intsOf l with
  |some is=>if (∀i∈is,-18446744073709551616<i/\i<18446744073709551616)/\(tupS is).length<=10000 then a3 (tupS is)else a5
  |none=>a5
 |_=>a5
noncomputable def zj:List Rk->Option (List af)
 |[]=>a3 []
 |r::rs=>match q8 r.d,zj rs with
  |some y,a3 ys=>a3 (y::ys)
  |_,_=>a5
noncomputable def bang(x:af):af:=("!":af)++x
noncomputable def qm(f:af):af:=("??":af)++f
noncomputable def mq(f:af):af:=("@":af)++f
noncomputable def tupI:D->Option (List Int)
 |.tup l=>intsOf l
 |_=>a5
noncomputable def j3o(kf:D->Option Int):D->Int->List D->Option D
 |b,_,[]=>a3 b
 |b,kb,d::ds=>match kf d with
  |some k=>if k<kb then j3o kf d k ds else j3o kf b kb ds
  |none=>a5
noncomputable def Mr:List D->Option (List (List Int))
 |[]=>a3 []
 |d::ds=>match tupI d,Mr ds with
  |some k,a3 ks=>a3 (k::ks)
  |_,_=>a5
noncomputable def prI:D->Option (Int×List Int)
 |.tup [.int a,d]=>(tupI d).map λk=>(a,k)
 |_=>a5
noncomputable def j3g:List D->Option (List (Int×List Int))
 |[]=>a3 []
 |d::ds=>match prI d,j3g ds with
  |some k,a3 ks=>a3 (k::ks)
  |_,_=>a5
noncomputable def Rc.lv:Rc->Option W
 |.lval d=>a3 (.v (.e d))
 |_=>a5
noncomputable def Uv(w:Option W):Option W:=match w with
 |some (.a rs)=>if rs.length<=1000 then(zj rs).map λys=>.v (.e (.str (Np dj ys)))else a5
 |_=>a5
noncomputable def jlh(w:Option W):Option W:=match w with
 |some (.v x)=>match x.d with
  |.str y=>if y.length<=100000/\jm (cL y " ").length=a7 then a3 (.v (.o ((cL y " ").map D.str)))else a5
  |_=>a5
 |_=>a5
noncomputable def jlg(w:Option W):Option W:=match w with
 |some (.v x)=>match x.d with
  |.int i=>if -18446744073709551616<i/\i<18446744073709551616 then a3 (.v (.e (.str (aR (toString i)))))else a5
  |_=>a5
 |_=>a5
noncomputable def Ih(w:Option W):Option W:=match w with
 |some (.v x)=>match x.d with
  |.str y=>if y.length<=1000 then a3 (.v (.e (.str (cU y))))else a5
  |_=>a5
 |_=>a5
noncomputable def Fv(s:Option Sv):Option W:=match s with
 |some (.val d)=>a3 (.v (.e d))
 |some (.own l)=>a3 (.v (.w l))
 |_=>a5
noncomputable def blW(i:Option Bool):Option W:=i.map λk=>.v (.e (.bl k))
noncomputable def rkW(r:Option Rk):Option W:=r.map .v
noncomputable def Q7(op:Bop)(a b:Option W):Option W:=match a,b with
 |some (.v x),a3 (.v y)=>rkW (U5 op x y)
 |_,_=>a5
noncomputable def j02(a:Option W):Option W:=match a with
 |some (.v x)=>match x.d with
  |.int i=>a3 (.v (.e (.int (-i))))
  |_=>a5
 |_=>a5
noncomputable def Cg(op:Cop)(a b:Option W):Option W:=match a,b with
 |some (.v x),a3 (.v y)=>blW (Zf op x.d y.d)
 |_,_=>a5
noncomputable def consW(a b:Option W):Option W:=match a,b with
 |some (.v x),a3 (.a xs)=>a3 (.a (x::xs))
 |_,_=>a5
noncomputable def Yt(a:Option W):Option W:=match a with
 |some (.a rs)=>match v6 rs with
  |some ds=>if jm ds.length=a7 then a3 (.v (.e (.tup ds)))else a5
  |none=>a5
 |_=>a5
noncomputable def Zd(a:Option W):Option W:=match a with
 |some (.a rs)=>match v6 rs with
  |some ds=>if jm ds.length=a7 then a3 (.v (.o ds))else a5
  |none=>a5
 |_=>a5
noncomputable def ixW(a b:Option W):Option W:=match a,b with
 |some (.v x),a3 (.v y)=>match x.sq,y.d with
  |some (_,l),.int i=>(atI l i).map λd=>.v (.e d)
  |none,.int i=>match x.d with
   |.str z=>if jm z.length=a7 then(atI z.cps.toList i).map λc=>.v (.e (.str ⟨#[c]⟩))else a5
   |_=>a5
  |_,_=>a5
 |_,_=>a5
noncomputable def O3(sep:af)(a:Option W):Option W:=match a with
 |some (.v x)=>match x.d with
  |.lst l=>match strsOf l with
   |some ts=>if fF sep ts=a7 then a3 (.v (.e (.str (eS sep ts))))else a5
   |none=>a5
  |_=>a5
 |_=>a5
noncomputable def Dj(a b:Option W):Option W:=match a,b with
 |some (.v x),a3 (.v y)=>match x.d with
  |.tup l=>if D.depL l<=90/\y.d.dep<=90 then(ixD y.d l).map λk=>.v (.e (.int (k:Nat)))else a5
  |.lst l=>if D.depL l<=90/\y.d.dep<=90 then(ixD y.d l).map λk=>.v (.e (.int (k:Nat)))else a5
  |_=>a5
 |_,_=>a5
noncomputable def jjh(a:Option W):Option W:=match a with
 |some (.v y)=>match y.d with
  |.int n=>if 0<=n/\n<=1000000 then a3 (.v (.o ((aE n.toNat).map λ(i:Nat)=>D.int (i:Int))))else a5
  |_=>a5
 |_=>a5
noncomputable def O4(a:Option W):Option W:=match a with
 |some (.v x)=>match x.st with
  |some (.lst l)=>a3 (.i (Qj l))
  |some (.tup l)=>a3 (.i (Qj l))
  |_=>a5
 |_=>a5
noncomputable def Jx(Γ:af->List D->Rc)(f:af)(a:Option W):Option W:=match a with
 |some (.a rs)=>match v6 rs with
  |some ds=>rkW (Γ f ds).rk
  |none=>match Γ f (rs.map Rk.d) with
   |.val d=>a3 (.v (.t d))
   |.fresh l=>if jz l=a7 then a3 (.v (.o l))else a5
   |_=>a5
 |_=>a5
noncomputable def vo(f:Bf)(a:Option W):Option W:=match a with
 |some (.a rs)=>rkW (Vb f rs)
 |_=>a5
noncomputable def O2(m:Mf)(a b:Option W):Option W:=match a,b with
 |some (.v x),a3 (.a rs)=>rkW (j3p m x rs)
 |_,_=>a5
noncomputable def jm0(a:Option W)(ts:List String):Option W:=match a with
 |some (.v x)=>blW (jgn x.d ts)
 |_=>a5
noncomputable def Ox(a:Option W):Option W:=match a with
 |some (.v (.e (.lst l)))=>a3 (.i l)
 |some (.v (.e (.tup l)))=>a3 (.i l)
 |some (.v (.o l))=>a3 (.i l)
 |some (.v (.e (.str y)))=>if ascii y=a7 then a3 (.i (chs y))else a5
 |_=>a5
noncomputable def Rw(a:Option W):Option W:=match a with
 |some (.a [x])=>match x.d with
  |.int n=>if -(2^62)<=n/\n<2^62 then a3 (.i (upto 0 n.toNat))else a5
  |_=>a5
 |some (.a [x,y])=>match x.d,y.d with
  |.int m,.int n=>if -(2^62)<=m/\m<2^62/\-(2^62)<=n/\n<2^62 then a3 (.i (upto m (n-m).toNat))else a5
  |_,_=>a5
 |_=>a5
noncomputable def jm8(a b:Option W):Option W:=match a,b with
 |some (.v x),a3 (.v y)=>match x.d,y.d with
  |.tup l,.dct ks _=>(intsOf l).map λk=>.v (.e (.bl (ks.contains k)))
  |_,_=>a5
 |_,_=>a5
noncomputable def jgi(a:Option W):Option W:=match a with
 |some (.v (.e (.dct ks ds)))=>a3 (.i (jgj ks ds))
 |_=>a5
noncomputable def jkb(a b:Option W):Option W:=match a,b with
 |some (.v x),a3 (.v y)=>match x.st.bind D.sqv,y.st.bind D.sqv with
  |some (_,l),a3 (_,m)=>match strsOf l,intsOf m with
   |some ks,a3 ns=>if ks.Nodup/\ks.length=ns.length/\jm ks.length=a7 then a3 (.v (.e (.sct (ks.zip ns))))else a5
   |_,_=>a5
  |_,_=>a5
 |_,_=>a5
noncomputable def jmc(a b c:Option W):Option W:=match a,b,c with
 |some (.v x),a3 (.v y),a3 (.v z)=>match x.d,y.d,z.d with
  |.int i,.int j,.int k=>a3 (.v (.e (.bl (decide (i<=j)&&decide (j<=k)))))
  |_,_,_=>a5
 |_,_,_=>a5
noncomputable def jjg(a:Option W):Option W:=match a with
 |some (.v x)=>match x.d with
  |.lst l=>match intsOf l with
   |some ns=>a3 (.v (.e (.int (Jj ns))))
   |none=>a5
  |_=>a5
 |_=>a5
noncomputable def jmb(a b c:Option W):Option W:=match a,b,c with
 |some (.v x),a3 (.v y),a3 (.v z)=>match x.d,y.d,z.d with
  |.int i,.int j,.int k=>a3 (.v (.e (.bl (decide (i<j)&&decide (j<k)))))
  |_,_,_=>a5
 |_,_,_=>a5
noncomputable def Wa(Γ:af->List D->Rc)(s:Option Sv)(a:Option W):Option W:=match s,a with
 |some (.val (.fn x cs)),a3 (.a rs)=>match v6 rs with
  |some ds=>if Jm ds=a7 then(Γ (ju x) (cs++ds)).lv else a5
  |none=>a5
 |_,_=>a5
noncomputable def O5(a b:Option W):Option W:=match a,b with
 |some (.v (.e (.dct ks ds))),a3 (.v y)=>match tupI y.d with
  |some k=>(vq ks ds k).map λd=>.v (.e d)
  |none=>a5
 |_,_=>a5
noncomputable def Ma(a:Option W):Option W:=match a with
 |some (.v (.e (.dct _ ds)))=>a3 (.v (.e (.tup ds)))
 |_=>a5
noncomputable def O1(a:Option W):Option W:=match a with
 |some (.v x)=>match x.d with
  |.lst l=>match Mr l with
   |some ks=>(ks[aV (Jv ks) (ks.length-1)]?).map λk=>.v (.t (.tup (k.map D.int)))
   |none=>match j3g l with
    |some ps=>(ps[aV (Dr ps) (ps.length-1)]?).map λk=>.v (.t (pairD k))
    |none=>a5
  |_=>a5
 |_=>a5
noncomputable def jm7(a b:Option W):Option W:=match a,b with
 |some (.v x),a3 (.v y)=>match x.d,y.d with
  |.sct kvs,.str k=>(jm6 kvs k).map λn=>.v (.e (.int n))
  |_,_=>a5
 |_,_=>a5
noncomputable def ev(Γ:af->List D->Rc)(G:af->Option D):Ex->En->Option W
 |.lit d,_=>a3 (.v (.e d))
 |.var i,ρ=>Fv ρ[i]?
 |.glob x,_=>(G x).map λd=>.v (.e d)
 |.bin op a b,ρ=>Q7 op (ev Γ G a ρ) (ev Γ G b ρ)
 |.neg a,ρ=>j02 (ev Γ G a ρ)
 |.cmp op a b,ρ=>Cg op (ev Γ G a ρ) (ev Γ G b ρ)
 |.isN a,ρ=>match ev Γ G a ρ with
  |some (.v x)=>a3 (.v (.e (.bl x.d.isNon)))
  |_=>a5
 |.and a b,ρ=>match truth (ev Γ G a ρ) with
  |some a4=>a3 (.v (.e (.bl a4)))
  |some a7=>(truth (ev Γ G b ρ)).map λk=>.v (.e (.bl k))
  |none=>a5
 |.or a b,ρ=>match truth (ev Γ G a ρ) with
  |some a7=>a3 (.v (.e (.bl a7)))
  |some a4=>(truth (ev Γ G b ρ)).map λk=>.v (.e (.bl k))
  |none=>a5
 |.not a,ρ=>(truth (ev Γ G a ρ)).map λk=>.v (.e (.bl (!k)))
 |.ite c a b,ρ=>match truth (ev Γ G c ρ) with
  |some a7=>match ev Γ G a ρ with
   |some (.v x)=>x.st.map λd=>.v (.e d)
   |_=>a5
  |some a4=>match ev Γ G b ρ with
   |some (.v x)=>x.st.map λd=>.v (.e d)
   |_=>a5
  |none=>a5
 |.nil,_=>a3 (.a [])
 |.cons a b,ρ=>consW (ev Γ G a ρ) (ev Γ G b ρ)
 |.tup es,ρ=>Yt (ev Γ G es ρ)
 |.lst es,ρ=>Zd (ev Γ G es ρ)
 |.ix a b,ρ=>ixW (ev Γ G a ρ) (ev Γ G b ρ)
 |.sl a lo hi,ρ=>match ev Γ G a ρ,Z3 (ev Γ G lo ρ),Z3 (ev Γ G hi ρ) with
  |some (.v x),a3 l,a3 h=>match x.sq with
   |some (a7,ds)=>a3 (.v (.o (cutD ds l h)))
   |some (a4,ds)=>if HT.sIx ds.length 0 l=0/\HT.sIx ds.length ds.length h=ds.length then a5 else a3 (.v (.e (.tup (cutD ds l h))))
   |none=>match x.d with
    |.str z=>if jm z.length=a7 then a3 (.v (.e (.str (bg z l h))))else a5
    |_=>a5
  |_,_,_=>a5
 |.call f es,ρ=>Jx Γ f (ev Γ G es ρ)
 |.blt f es,ρ=>vo f (ev Γ G es ρ)
 |.meth m a es,ρ=>O2 m (ev Γ G a ρ) (ev Γ G es ρ)
 |.isi a ts,ρ=>jm0 (ev Γ G a ρ) ts
 |.comp is elt it cond,ρ=>match ev Γ G it (frz it ρ) with
  |some (.i ds)=>if Wr is (frz it ρ)=a7/\jm ds.length=a7 then
    (Jr (λd=>match za is d (frz it ρ) with
     |none=>a5
     |some ρ2=>match ev Γ G cond ρ2 with
      |some (.a [])=>match ev Γ G elt ρ2 with
       |some (.v x)=>x.st.map a3
       |_=>a5
      |some (.a [y])=>match y.d with
       |.bl a7=>match ev Γ G elt ρ2 with
        |some (.v x)=>x.st.map a3
        |_=>a5
       |.bl a4=>a3 a5
       |_=>a5
      |_=>a5) ds).bind λl=>if (Jp it ρ && !jz l)=a7 then a5 else a3 (.v (.o l))
   else a5
  |_=>a5
 |.seq a,ρ=>Ox (ev Γ G a ρ)
 |.chn a b c,ρ=>jmb (ev Γ G a ρ) (ev Γ G b ρ) (ev Γ G c ρ)
 |.che a b c,ρ=>jmc (ev Γ G a ρ) (ev Γ G b ρ) (ev Γ G c ρ)
 |.maxD a,ρ=>jjg (ev Γ G a ρ)
 |.range es,ρ=>Rw (ev Γ G es ρ)
 |.fst es,ρ=>Uv (ev Γ G es ρ)
 |.isx i cs,ρ=>match ρ[i]?,G "?" with
  |some (.exc x),a3 (.bl a7)=>if jq.contains x=a7 then a3 (.v (.e (.bl (cs.any λc=>c == "ValueError" || x==c))))else a5
  |_,_=>a5
 |.join sep a,ρ=>O3 sep (ev Γ G a ρ)
 |.enum a,ρ=>O4 (ev Γ G a ρ)
 |.tix a b,ρ=>Dj (ev Γ G a ρ) (ev Γ G b ρ)
 |.dzip a b,ρ=>jkb (ev Γ G a ρ) (ev Γ G b ρ)
 |.callD f es,ρ=>match ev Γ G es ρ with
  |some (.a rs)=>match v6 rs with
   |some ds=>match Γ f (ds++[.non]) with
    |.val d=>a3 (.v (.e d))
    |_=>a5
   |none=>a5
  |_=>a5
 |.callK f es a,ρ=>match ev Γ G es ρ,ev Γ G a ρ with
  |some (.a rs),a3 (.v x)=>match v6 rs,x.st with
   |some ds,a3 d'=>match Γ f (ds++[d']) with
    |.val d=>a3 (.v (.e d))
    |_=>a5
   |_,_=>a5
  |_,_=>a5
 |.dix a b,ρ=>jm7 (ev Γ G a ρ) (ev Γ G b ρ)
 |.dnil,_=>a3 (.v (.e (.sct [])))
 |.rpr a,ρ=>match ev Γ G a ρ with
  |some (.v x)=>match x.d with
   |.str y=>if (aH y).length<=2000 then a3 (.v (.e (.str (aH y))))else a5
   |_=>a5
  |_=>a5
 |.upr a,ρ=>Ih (ev Γ G a ρ)
 |.spl a,ρ=>jlh (ev Γ G a ρ)
 |.exc a,ρ=>ev Γ G a ρ
 |.sti a,ρ=>jlg (ev Γ G a ρ)
 |.lrng a,ρ=>jjh (ev Γ G a ρ)
 |.din a b,ρ=>jm8 (ev Γ G a ρ) (ev Γ G b ρ)
 |.items a,ρ=>jgi (ev Γ G a ρ)
 |.callV i es,ρ=>Wa Γ ρ[i]? (ev Γ G es ρ)
 |.dget a b,ρ=>O5 (ev Γ G a ρ) (ev Γ G b ρ)
 |.dvals a,ρ=>Ma (ev Γ G a ρ)
 |.minT a,ρ=>O1 (ev Γ G a ρ)
section
variable{Γ:af->List D->Rc}{G:af->Option D}{ρ:En}
theorem Fq{d}:ev Γ G (.lit d) ρ=(a3 (.v (.e d))):=(rfl)
theorem jkh{i}:ev Γ G (.var i) ρ=(Fv ρ[i]?):=(rfl)
theorem ji7{x}:ev Γ G (.glob x) ρ=((G x).map λd=>.v (.e d)):=(rfl)
theorem jkr{op a b}:ev Γ G (.bin op a b) ρ=(Q7 op (ev Γ G a ρ) (ev Γ G b ρ)):=(rfl)
theorem jkn{a}:ev Γ G (.neg a) ρ=(j02 (ev Γ G a ρ)):=(rfl)
theorem jb1{op a b}:ev Γ G (.cmp op a b) ρ=(Cg op (ev Γ G a ρ) (ev Γ G b ρ)):=(rfl)
theorem j4k{a}:ev Γ G (.isN a) ρ=(match ev Γ G a ρ with
  |some (.v x)=>a3 (.v (.e (.bl x.d.isNon)))
  |_=>a5):=(rfl)
theorem jks{a b}:ev Γ G (.and a b) ρ=(match truth (ev Γ G a ρ) with
  |some a4=>a3 (.v (.e (.bl a4)))
  |some a7=>(truth (ev Γ G b ρ)).map λk=>.v (.e (.bl k))
  |none=>a5):=(rfl)
theorem jmg{a b}:ev Γ G (.or a b) ρ=(match truth (ev Γ G a ρ) with
  |some a7=>a3 (.v (.e (.bl a7)))
  |some a4=>(truth (ev Γ G b ρ)).map λk=>.v (.e (.bl k))
  |none=>a5):=(rfl)
theorem j4i{a}:ev Γ G (.not a) ρ=((truth (ev Γ G a ρ)).map λk=>.v (.e (.bl (!k)))):=(rfl)
theorem jkp{c a b}:ev Γ G (.ite c a b) ρ=(match truth (ev Γ G c ρ) with
  |some a7=>match ev Γ G a ρ with
   |some (.v x)=>x.st.map λd=>.v (.e d)
   |_=>a5
  |some a4=>match ev Γ G b ρ with
   |some (.v x)=>x.st.map λd=>.v (.e d)
   |_=>a5
  |none=>a5):=(rfl)
theorem Us:ev Γ G (.nil) ρ=(a3 (.a [])):=(rfl)
theorem Ua{a b}:ev Γ G (.cons a b) ρ=(consW (ev Γ G a ρ) (ev Γ G b ρ)):=(rfl)
theorem jkj{es}:ev Γ G (.tup es) ρ=(Yt (ev Γ G es ρ)):=(rfl)
theorem jko{es}:ev Γ G (.lst es) ρ=(Zd (ev Γ G es ρ)):=(rfl)
theorem jmh{a b}:ev Γ G (.ix a b) ρ=(ixW (ev Γ G a ρ) (ev Γ G b ρ)):=(rfl)
theorem jmf{a lo hi}:ev Γ G (.sl a lo hi) ρ=(match ev Γ G a ρ,Z3 (ev Γ G lo ρ),Z3 (ev Γ G hi ρ) with
  |some (.v x),a3 l,a3 h=>match x.sq with
   |some (a7,ds)=>a3 (.v (.o (cutD ds l h)))
   |some (a4,ds)=>if HT.sIx ds.length 0 l=0/\HT.sIx ds.length ds.length h=ds.length then a5 else a3 (.v (.e (.tup (cutD ds l h))))
   |none=>match x.d with
    |.str z=>if jm z.length=a7 then a3 (.v (.e (.str (bg z l h))))else a5
    |_=>a5
  |_,_,_=>a5):=(rfl)
theorem jia{f es}:ev Γ G (.call f es) ρ=(Jx Γ f (ev Γ G es ρ)):=(rfl)
theorem Ri{f es}:ev Γ G (.blt f es) ρ=(vo f (ev Γ G es ρ)):=(rfl)
theorem ji5{m a es}:ev Γ G (.meth m a es) ρ=(O2 m (ev Γ G a ρ) (ev Γ G es ρ)):=(rfl)
theorem j7j{is elt it cond}:ev Γ G (.comp is elt it cond) ρ=(match ev Γ G it (frz it ρ) with
  |some (.i ds)=>if Wr is (frz it ρ)=a7/\jm ds.length=a7 then
    (Jr (λd=>match za is d (frz it ρ) with
     |none=>a5
     |some ρ2=>match ev Γ G cond ρ2 with
      |some (.a [])=>match ev Γ G elt ρ2 with
       |some (.v x)=>x.st.map a3
       |_=>a5
      |some (.a [y])=>match y.d with
       |.bl a7=>match ev Γ G elt ρ2 with
        |some (.v x)=>x.st.map a3
        |_=>a5
       |.bl a4=>a3 a5
       |_=>a5
      |_=>a5) ds).bind λl=>if (Jp it ρ && !jz l)=a7 then a5 else a3 (.v (.o l))
   else a5
  |_=>a5):=(rfl)
theorem jkl{a}:ev Γ G (.seq a) ρ=(Ox (ev Γ G a ρ)):=(rfl)
theorem jdz{es}:ev Γ G (.range es) ρ=(Rw (ev Γ G es ρ)):=(rfl)
theorem jkq{es}:ev Γ G (.fst es) ρ=(Uv (ev Γ G es ρ)):=(rfl)
theorem j4j {i cs}:ev Γ G (.isx i cs) ρ=(match ρ[i]?,G "?" with
  |some (.exc x),a3 (.bl a7)=>if jq.contains x=a7 then a3 (.v (.e (.bl (cs.any λc=>c == "ValueError" || x==c))))else a5
  |_,_=>a5):=(rfl)
theorem ji6{sep a}:ev Γ G (.join sep a) ρ=(O3 sep (ev Γ G a ρ)):=(rfl)
theorem ji8{a}:ev Γ G (.enum a) ρ=(O4 (ev Γ G a ρ)):=(rfl)
theorem jkk{a b}:ev Γ G (.tix a b) ρ=(Dj (ev Γ G a ρ) (ev Γ G b ρ)):=(rfl)
theorem jkm{a}:ev Γ G (.rpr a) ρ=(match ev Γ G a ρ with
  |some (.v x)=>match x.d with
   |.str y=>if (aH y).length<=2000 then a3 (.v (.e (.str (aH y))))else a5
   |_=>a5
  |_=>a5):=(rfl)
theorem jki{a}:ev Γ G (.upr a) ρ=(Ih (ev Γ G a ρ)):=(rfl)
theorem jb0{a}:ev Γ G (.exc a) ρ=(ev Γ G a ρ):=(rfl)
theorem je1{i es}:ev Γ G (.callV i es) ρ=(Wa Γ ρ[i]? (ev Γ G es ρ)):=(rfl)
theorem ji9{a b}:ev Γ G (.dget a b) ρ=(O5 (ev Γ G a ρ) (ev Γ G b ρ)):=(rfl)
theorem je0{a}:ev Γ G (.dvals a) ρ=(Ma (ev Γ G a ρ)):=(rfl)
theorem ji4{a}:ev Γ G (.minT a) ρ=(O1 (ev Γ G a ρ)):=(rfl)
end
noncomputable def er(Γ:af->List D->Rc)(G:af->Option D):Ex->En->Option af
 |.call f es,ρ=>match er Γ G es ρ with
  |some x=>if (G (qm f)).isSome=a7 then a3 x else a5
  |none=>match ev Γ G es ρ with
   |some (.a rs)=>match Γ f (rs.map Rk.d) with
    |.err x=>if (G (bang x)).isSome=a7 then a3 x else a5
    |_=>a5
   |_=>a5
 |.cons a b,ρ=>match er Γ G a ρ with
  |some x=>a3 x
  |none=>match ev Γ G a ρ with
   |some (.v _)=>er Γ G b ρ
   |_=>a5
 |.ix a _,ρ=>er Γ G a ρ
 |.dget a b,ρ=>match er Γ G a ρ with
  |some x=>a3 x
  |none=>match ev Γ G a ρ with
   |some (.v _)=>er Γ G b ρ
   |_=>a5
 |.exc (.comp [i] elt it .nil),ρ=>match ev Γ G it ρ with
  |some (.i (d::_))=>if Wr [i] ρ=a7 then er Γ G elt (ρ.set i (.val d))else a5
  |_=>a5
 |.dzip a b,ρ=>match er Γ G a ρ with
  |some x=>a3 x
  |none=>match ev Γ G a ρ with
   |some (.v _)=>er Γ G b ρ
   |_=>a5
 |_,_=>a5
end L2
end
section
namespace L2
open PySem PySem.Spec PyProof.Rows
def DM(X:Cx)(ρ:Rho)(e:ai)(s:Bool)(ds:List D):Prop:=∀σ H Q,Rep X.K ρ σ H->(∀a xs H',j4 H H'->SqB X.K s H' a xs->j5 X.K (del H' (owns ρ)) ds xs->Q (.ref a) H')->Qd X e σ H Q
section
variable{X:Cx}{ρ:Rho}{e a b c:ai}{es:List ai}{d:D}{ds ds':List D}{i j:Int}{pos p p2:aJ}{k:Nat}{x:af}{s:Bool}
theorem jiw{K:k8y}{H:Hp}{a:aa}{xs:List V}(h:SqL K H a xs):SqB K a7 H a xs:=by unfold SqB;rw[if_pos rfl];exact h
theorem W6{K:k8y}{H:Hp}{a:aa}{xs:List V}(h:SqB K a7 H a xs):SqL K H a xs:=by unfold SqB at h;rw[if_pos rfl]at h;exact h
theorem Qz{K:k8y}{H:Hp}{a:aa}{xs:List V}(h:SqB K a4 H a xs):SqT K H a xs:=by unfold SqB at h;rw[if_neg xf]at h;exact h
theorem DE.toM(h:DE X ρ e (D.seq s ds)):DM X ρ e s ds:=λσ H Q R q=>h σ H Q R λv H1 g1 e1=>by obtain⟨t,xs,ev,sq,en⟩:=Vp e1;subst ev;exact q t xs H1 g1 (jo.seqB sq) en
theorem DL.toM(h:DL X ρ e ds):DM X ρ e a7 ds:=λσ H Q R q=>h σ H Q R λt xs H1 g1 m en=>q t xs H1 g1 (jiw (.inl (.inl m))) en
theorem DO.toM(h:DO X ρ e ds):DM X ρ e a7 ds:=h.toL.toM
def Has(X:Cx)(ρ:Rho)(e:ai):Rk->Prop
 |.e d=>DE X ρ e d
 |.o l=>DO X ρ e l
 |.w l=>DL X ρ e l
 |.t d=>DT X ρ e d
theorem Has.toT:∀{r:Rk},Has X ρ e r->DT X ρ e r.d
 |.e _,h=>DE.toT h
 |.o _,h=>DL.toT (DO.toL h)
 |.w _,h=>DL.toT h
 |.t _,h=>h
theorem Has.toE:∀{r:Rk}{d:D},Has X ρ e r->r.st=a3 d->DE X ρ e d
 |.e _,_,h,q=>by cases q;exact h
 |.o _,_,h,q=>by cases q;exact DO.toE h
 |.w _,_,h,q=>by cases q
 |.t d',d,h,q=>by
  have q:(if Z6 d'=a7 then a3 d' else a5)=a3 d:=q;by_cases z:Z6 d'=a7
  .rw[if_pos z]at q;cases q;exact DT.toE h z
  .rw[if_neg z]at q;cases q
theorem Has.toM:∀{r:Rk}{s:Bool}{l:List D},Has X ρ e r->r.sq=a3 (s,l)->DM X ρ e s l
 |.e (.lst l),_,_,h,q=>by cases q;exact DE.toM (s:=a7) h
 |.e (.tup l),_,_,h,q=>by cases q;exact DE.toM (s:=a4) h
 |.e .non,_,_,_,q=>by cases q
 |.e (.bl _),_,_,_,q=>by cases q
 |.e (.int _),_,_,_,q=>by cases q
 |.e (.str _),_,_,_,q=>by cases q
 |.o l,_,_,h,q=>by cases q;exact DO.toM h
 |.w l,_,_,h,q=>by cases q;exact DL.toM h
 |.t _,_,_,_,q=>by cases q
theorem jch:OpR X (bc .Add) (λx y H Q=>∃l b xs zs,x=.ref l/\y=.ref b/\SqL X.K H l xs/\SqL X.K H b zs/\xs.length+zs.length<=aq/\∀p,H p=a5->Q (.ref p) (upd H p (.lst (xs++zs)))):=by
 intro pins s σ H x y v u Q I rx ry h;obtain⟨l,b,xs,zs,e1,e2,hH,hB,hz,q⟩:=h;subst e1 e2;cases rx;cases ry;obtain⟨us,ru,⟨⟨c1,d1,f1,g1⟩,n1,h1,k1,w1,m1⟩,_⟩:=I.list hH;obtain⟨vs,rv,⟨⟨c2,d2,f2,g2⟩,n2,h2,k2,w2,m2⟩,_⟩:=I.list hB;have k1:c1=.type "list":=k1;have m1:f1=.seq us.toArray n1:=m1;have k2:c2=.type "list":=k2;have m2:f2=.seq vs.toArray n2:=m2;subst k1 m1 k2 m2;have l1:=ru.length;have l2:=rv.length;have ea:us.toArray++vs.toArray=(us++vs).toArray:=by simp
 refine gH ⟨_,h1,rfl⟩ ⟨_,h2,rfl⟩ noFill_list_add seq_list_add PySem.F.slot_list_add PySem.F.entry_list_add (PySem.F.args_list_add_2 _ _)
  (list_addW l b us.toArray vs.toArray n1 n2 d1 d2 g1 g2 (by rw[X5,X5,<-l1,<-l2];exact hz)) ⟨h1,h2,?_⟩
 rw[ea];exact⟨.ref _,_,I.lnew (t':=s.toks) (ru.append rv) (by rw[X6];exact hz),rfl,q _ I.fresh⟩
theorem DO.catM(ha:DM X ρ a a7 ds)(hb:DM X ρ b a7 ds')(hl:ds.length+ds'.length<=aq):DO X ρ (.BinOp a .Add b pos) (ds++ds'):=λσ H Q R q =>
 (Ui jch peS peS).to (ha σ H _ R λl xs H1 g1 s1 e1=>hb σ H1 _ (R.grow g1) λl' ys H2 g2 s2 e2 =>
  ⟨l,l',xs,ys,rfl,rfl,g2.seq (W6 s1),W6 s2,by rw[e1.length,e2.length];exact hl,λp hp=>q p _ _ ((g1.trans g2).trans (j7 hp)) ((g1.trans g2).free hp) j9 (Wu hp ((e1.mono (jf g2)).append e2))⟩)
theorem DE.catTM(ha:DM X ρ a a4 ds)(hb:DM X ρ b a4 ds')(hl:ds.length+ds'.length<=aq):DE X ρ (.BinOp a .Add b pos) (.tup (ds++ds')):=λσ H Q R q =>
 (Ui j8l peS peS).to (ha σ H _ R λt xs H1 g1 sq l=>hb σ H1 _ (R.grow g1) λt' ys H2 g2 sq' l'=>by
  have l2:=l.mono (jf g2)
  have enT:∀{t:aa}{xs:List V}{ds:List D},SqT X.K H2 t xs->j5 X.K (del H2 (owns ρ)) ds xs->Enc X.K (del H2 (owns ρ)) (.tup ds) (.ref t):=λ{t xs ds} sq l=>by
   refine⟨t,xs,rfl,?_,l⟩
   have ow:=(R.grow (g1.trans g2)).owned
   have out:∀{o:HO},H2 t=a3 o->(∀zs,o≠.lst zs)->del H2 (owns ρ) t=a3 o:=λ{o} h z=>by
    rw[j6];exact h
    intro y;obtain⟨zs,e'⟩:=ow t y;rw[h]at e';cases e';exact z zs rfl
   rcases sq with (h|⟨o,h⟩)|h
   .exact .inl (.inl (out h λ_ z=>by cases z))
   .exact .inl (.inr ⟨o,out h λ_ z=>by cases z⟩)
   .exact .inr h
  refine⟨t,t',xs,ys,rfl,rfl,g2.seqT (Qz sq),Qz sq',by rw[l.length,l'.length];exact hl,λh=>?_,λh h'=>?_,λh h' p hp=>?_⟩
  .subst h
   cases ds with
   |nil=>exact q _ H2 (g1.trans g2) (enT (Qz sq') l')
   |cons _ _=>have:=l.length;cases this
  .subst h'
   cases ds' with
   |nil=>exact q _ H2 (g1.trans g2) (by rw[Xo];exact enT (g2.seqT (Qz sq)) l2)
   |cons _ _=>have:=l'.length;cases this
  .have np:p∉owns ρ:=(R.grow (g1.trans g2)).fresh hp
   exact q _ _ ((g1.trans g2).trans (j7 hp)) ⟨p,xs++ys,rfl,.inl (.inl (by rw[j6 np];exact j9)),(l2.append l').mono (jf (j7 hp))⟩)
theorem DE.ixM(ha:DM X ρ a s ds)(hb:DT X ρ b (.int i))(h:L2.atI ds i=a3 d)(hs:Ys b):DE X ρ (.Subscript a b pos) d:=by
 cases s with
 |true=>exact λσ H Q R q=>(Wl jct peS peS hs).to (ha σ H _ R λl xs H1 g1 sq en=>hb σ H1 _ (R.grow g1) λu H2 g2 e2=>by
   obtain⟨y,hy,ey⟩:=en.atI h
   exact⟨l,xs,i,y,rfl,e2,g2.seq (W6 sq),hy,q y H2 (g1.trans g2) (ey.mono (jf g2))⟩)
 |false=>exact λσ H Q R q=>(Wl Nq peS peS hs).to (ha σ H _ R λl xs H1 g1 sq en=>hb σ H1 _ (R.grow g1) λu H2 g2 e2=>by
   obtain⟨y,hy,ey⟩:=en.atI h
   exact⟨l,xs,i,y,rfl,e2,g2.seqT (Qz sq),hy,q y H2 (g1.trans g2) (ey.mono (jf g2))⟩)
variable{lo hi:Option ai}{l u:Option Int}
theorem DO.sliceM(ha:DM X ρ a a7 ds)(hl:DP X ρ lo l)(hu:DP X ρ hi u):DO X ρ (.Subscript a (.Slice lo hi a5 p2) pos) (cutD ds l u):=λσ H Q R q =>
 (Bd jbk peS poS poS).to (ha σ H _ R λt xs H1 g1 sq en=>hl σ H1 _ (R.grow g1) λH2 g2=>hu σ H2 _ (R.grow (g1.trans g2)) λH3 g3=>⟨t,xs,rfl,(g2.trans g3).seq (W6 sq),λp hp =>
  q p _ _ ((g1.trans (g2.trans g3)).trans (j7 hp)) ((g1.trans (g2.trans g3)).free hp) j9 (Wu hp ((en.mono (jf (g2.trans g3))).cut l u))⟩)
theorem DE.sliceM(ha:DM X ρ a a4 ds)(hl:DP X ρ lo l)(hu:DP X ρ hi u)(hw:¬(HT.sIx ds.length 0 l=0/\HT.sIx ds.length ds.length u=ds.length)):DE X ρ (.Subscript a (.Slice lo hi a5 p2) pos) (.tup (cutD ds l u)):=λσ H Q R q =>
 (Bd jeg peS poS poS).to (ha σ H _ R λt xs H1 g1 sq en=>hl σ H1 _ (R.grow g1) λH2 g2=>hu σ H2 _ (R.grow (g1.trans g2)) λH3 g3=>⟨t,xs,rfl,(g2.trans g3).seqT (Qz sq),by rw[en.length];exact hw,λp hp =>
  q _ _ ((g1.trans (g2.trans g3)).trans (j7 hp)) ⟨p,_,rfl,.inl (.inl (by rw[j6 ((R.grow (g1.trans (g2.trans g3))).fresh hp)];exact j9)),((en.mono (jf (g2.trans g3))).cut l u).mono (jf (j7 hp))⟩⟩)
theorem DE.tupM (ha:DM X ρ a s ds) (hm:X.mg "tuple" = a5) (hg:Gl X "tuple") (hs:a9 [a] X.env=[(a4,ay a X.env)]):DE X ρ (.Call (.Name "tuple" p) [a] [] pos) (.tup ds):=λσ H Q R q =>
 (Uj Kq hg hm boot_tuple (jc peS jr hs) (by decide) (by decide) hs).to (ha σ H _ R λl xs H1 g1 sq en=>by
  cases s with
  |true =>
   refine⟨l,xs,rfl,.inl ⟨W6 sq,λt ht=>?_⟩⟩
   have nt:t∉owns ρ:=(R.grow g1).fresh ht
   exact q _ _ (g1.trans (j7 ht)) ⟨t,xs,rfl,.inl (.inl (by rw[j6 nt];exact j9)),en.mono (jf (j7 ht))⟩
  |false =>
   refine⟨l,xs,rfl,.inr ⟨Qz sq,?_⟩⟩
   refine q _ _ g1 ⟨l,xs,rfl,?_,en⟩
   have ow:=(R.grow g1).owned
   have out:∀{o:HO},H1 l=a3 o->(∀zs,o≠.lst zs)->del H1 (owns ρ) l=a3 o:=λ{o} h z=>by
    rw[j6];exact h
    intro y;obtain⟨zs,e'⟩:=ow l y;rw[h]at e';cases e';exact z zs rfl
   rcases Qz sq with (h|⟨o,h⟩)|h
   .exact .inl (.inl (out h λ_ z=>by cases z))
   .exact .inl (.inr ⟨o,out h λ_ z=>by cases z⟩)
   .exact .inr h)
theorem DO.listM (ha:DM X ρ a s ds) (hm:X.mg "list" = a5) (hg:Gl X "list") (hs:a9 [a] X.env=[(a4,ay a X.env)]):DO X ρ (.Call (.Name "list" p) [a] [] pos) ds:=λσ H Q R q =>
 (Uj j0v hg hm boot_list (jc peS jr hs) (by decide) (by decide) hs).to (ha σ H _ R λl xs H1 g1 sq en =>
  ⟨l,xs,rfl,(by cases s with|true=>exact .inl (W6 sq)|false=>exact .inr (Qz sq)),λp hp=>q p _ _ (g1.trans (j7 hp)) (g1.free hp) j9 (Wu hp en)⟩)
end
theorem Dp:fillsNumberSlot (.type "tuple") "mul" = pure a4 :=
 PySem.fillsNumberSlot_seq (id:="tuple.__mul__") (r:=a3 (.builtin "tuple.__rmul__")) PySem.F.slot_tuple_mul.lookup (by decide +kernel) PySem.F.slot_tuple_rmul.lookup (by decide +kernel)
theorem jc0:seqRepeat? (.type "tuple")=pure (a3 (.builtin "tuple.__mul__")):=by
 unfold seqRepeat?;rw[jQ (T:="tuple") (name:="__mul__") (id:="tuple.__mul__") PySem.F.slot_tuple_mul.lookup (by decide +kernel),
  jQ (T:="tuple") (name:="__rmul__") (id:="tuple.__rmul__") PySem.F.slot_tuple_rmul.lookup (by decide +kernel)]
 rfl
section
variable(a:Int)(t:iq)(l:aa)(its:Array a8)(n:Nat)(d1:Option aa)(sl:Array (Option a8))
theorem j0c:kC (d9.«int.__rmul__» ⟨[.int a t,.ref l],[]⟩) (λ_ R s=>s.heap.get? l=a3 ⟨.type "tuple",d1,.seq its n,sl⟩/\R (.ok (.ret iw)) s) :=
 .of_wp λ_ _ _ _ s h=>by
  obtain⟨_,_,_,_,_⟩:=s;obtain⟨hl,h⟩:=h
  wp_walk
  exact⟨_,rfl,h⟩
theorem j7r:kC (d9.«tuple.__mul__» ⟨[.ref l,.int 1 t],[]⟩) (λ_ R s=>s.heap.get? l=a3 ⟨.type "tuple",d1,.seq its n,sl⟩/\R (.ok (.ret (.ref l))) s) :=
 .of_wp λ_ _ _ _ s h=>by
  obtain⟨_,_,_,_,_⟩:=s;obtain⟨hl,h⟩:=h
  wp_walk
  exact⟨_,rfl,h⟩
theorem j7q(h0:its.isEmpty=a4)(h1:1<a)(h2:a<2^63)(hz:its.size*a.toNat<=aq) :
  kC (d9.«tuple.__mul__» ⟨[.ref l,.int a t],[]⟩) (λ_ R s=>s.heap.get? l=a3 ⟨.type "tuple",d1,.seq its n,sl⟩ /\
   R (.ok (.ret (.ref s.heap.objs.size))) { s with heap:=s.heap.push { cls:=.type "tuple",data:=.seq (dm (λx y=>x++y) #[] (ah a.toNat its)) } }) :=
 .of_wp λ_ _ _ _ s h=>by
  obtain⟨_,_,_,_,_⟩:=s;obtain⟨hl,h⟩:=h;have c1:(decide (a < -2^63) || decide (a>=2^63))=a4:=by rw[decide_eq_false nofun,decide_eq_false nofun];rfl
  have c2:(its.isEmpty || a==1)=a4:=by rw[h0,beq_eq_false_iff_ne.mpr nofun];rfl
  have c3:(decide (a<=0) || its.isEmpty)=a4:=by rw[h0,decide_eq_false nofun];rfl
  have ea:((its.size*a.toNat:Nat):Int)=(its.size:Int)*a:=by rw[eJ,jI nofun]
  have hz':(its.size:Int)*a<=(aq:Int):=by rw[<-ea];exact Int.ofNat_le.mpr hz
  have c4:¬(its.size:Int)*a>(2^63-1)/8:=by
   have:(aq:Int)<=(2^63-1)/8:=by decide
   omega
  have c5:fc ((its.size:Int)*a)=a4:=by unfold fc;exact decide_eq_false nofun
  have c6:(dm (λx y=>x++y) #[] (ah a.toNat its)).size<=aq:=by rw[AutoListH.size_joined,Array.size_empty,bY,fX];exact hz
  wp_walk
  rw[c1]
  wp_walk
  rw[c2]
  wp_walk
  rw[c3]
  wp_walk
  rw[if_neg c4]
  wp_walk
  exact⟨_,rfl,h⟩
end
theorem jcf{X:Cx}:OpR X (bc .Mult) (λx y H Q=>∃a k xs,x=.ref a/\y=.int k/\SqT X.K H a xs/\xs≠[]/\1<=k/\k<2^63/\xs.length*k.toNat<=aq /\
  (k=1->Q (.ref a) H)/\(1<k->∀p,H p=a5->Q (.ref p) (upd H p (.tup (ah k.toNat xs).flatten)))):=by
 intro pins s σ H x y v u Q I rx ry h;obtain⟨a,k,xs,e1,e2,sq,hne,h1,h2,hz,q1,q2⟩:=h;subst e1 e2;cases rx;obtain⟨t,e⟩:=ry;subst e;obtain⟨us,ru,⟨⟨c1,d1,f1,g1⟩,p1,k1,n1,m1⟩,_⟩:=I.tuple sq;have k1:c1=.type "tuple":=k1;have m1:f1=.seq us.toArray n1:=m1;subst k1 m1;have lu:=ru.length;have hne':us.toArray.isEmpty=a4:=by
  cases us with
  |nil=>cases ru;exact absurd rfl hne
  |cons _ _=>simp
 refine iO (T:="tuple") (U:="int") (by decide) ⟨_,p1,rfl⟩ (λs'=>gn s' k t) Dp lh eO jc0 F.slot_int_index.lookup
  (bD eO (gn s k t) kT (kP _ _) (j0c k t a us.toArray n1 d1 g1) ⟨p1,rfl,⟨_,p1,rfl⟩,?_⟩)
 by_cases hk:k=1
 .subst hk;exact bD kS ⟨_,p1,rfl⟩ kO (kv _ _) (j7r t a us.toArray n1 d1 g1) ⟨p1,⟨.ref a,H,I,rfl,q1 rfl⟩⟩
 .have hz':us.toArray.size*k.toNat<=aq:=by rw[X5,<-lu];exact hz
  refine bD kS ⟨_,p1,rfl⟩ kO (kv _ _) (j7q k t a us.toArray n1 d1 g1 hne' nofun h2 hz') ⟨p1,?_⟩;have hnew:dm (λx1 x2=>x1++x2) #[] (ah k.toNat us.toArray)=(ah k.toNat us).flatten.toArray:=by have:=foldl_rep us k.toNat [];rw[cW]at this;exact this
  rw[hnew];refine⟨.ref _,_,I.laid (t':=s.toks) (λb o e=>xn _ e) (X3 _) ?_,rfl,q2 nofun _ I.fresh⟩;exact⟨by rw[len_rep,fX];exact hz,_,ru.rep k.toNat,IsTup.new _ _,Vf.new _ _⟩
theorem DE.repT{X:Cx}{ρ:Rho}{a b:ai}{ds:List D}{k:Int}{pos:aJ}(ha:DM X ρ a a4 ds)(hb:DT X ρ b (.int k))(hne:ds≠[])(h1:1<=k)(h2:k<2^63)(hl:ds.length*k.toNat<=aq) :
  DE X ρ (.BinOp a .Mult b pos) (.tup (ah k.toNat ds).flatten):=λσ H Q R q =>
 (Ui jcf peS peS).to (ha σ H _ R λt xs H1 g1 sq l=>hb σ H1 _ (R.grow g1) λu H2 g2 e2=>by
  have l2:=l.mono (jf g2)
  refine⟨t,k,xs,rfl,e2,g2.seqT (Qz sq),?_,h1,h2,by rw[l.length];exact hl,λh=>?_,λh p hp=>?_⟩
  .intro z;subst z
   cases ds with
   |nil=>exact hne rfl
   |cons _ _=>have:=l.length;cases this
  .subst h
   have e:(ah (1:Int).toNat ds).flatten=ds:=by simp
   rw[e]at q
   refine q _ H2 (g1.trans g2) ⟨t,xs,rfl,?_,l2⟩
   have ow:=(R.grow (g1.trans g2)).owned
   have out:∀{o:HO},H2 t=a3 o->(∀zs,o≠.lst zs)->del H2 (owns ρ) t=a3 o:=λ{o} h z=>by
    rw[j6];exact h
    intro y;obtain⟨zs,e'⟩:=ow t y;rw[h]at e';cases e';exact z zs rfl
   rcases g2.seqT (Qz sq)with (h|⟨o,h⟩)|h
   .exact .inl (.inl (out h λ_ z=>by cases z))
   .exact .inl (.inr ⟨o,out h λ_ z=>by cases z⟩)
   .exact .inr h
  .have np:p∉owns ρ:=(R.grow (g1.trans g2)).fresh hp
   exact q _ _ ((g1.trans g2).trans (j7 hp)) ⟨p,_,rfl,.inl (.inl (by rw[j6 np];exact j9)),(l2.rep k.toNat).mono (jf (j7 hp))⟩)
section
variable{X:Cx}{ρ:Rho}{a:ai}{m k:Bool}{d:D}{n:Nat}{pos p2:aJ}
theorem DE.isNotN(ha:DT X ρ a d):DE X ρ (.Compare a [.IsNot] [.Constant .none n p2] pos) (.bl (!d.isNon)):=λσ H Q R q =>(Q3 j25 peS Es (zb _)).to (ha σ H _ R λx H1 g1 e1=>⟨rfl,q _ H1 g1 (by rw[M5 e1];rfl)⟩)
theorem DB.isNotN(ha:DT X ρ a d):DB X ρ (.Compare a [.IsNot] [.Constant .none n p2] pos) (!d.isNon):=λσ H Q R q =>(Q0 j25 peS Es (zb _)).to (ha σ H _ R λx H1 g1 e1=>⟨rfl,_,rfl,by rw[M5 e1];exact q H1 g1⟩)
end
end L2
end
section
namespace PySem
open Sem (wp)
namespace F
end F
section
variable{prog:au}{w:aA}{A:aB}{E:k8z}{s:ae}{I:aa}{fp wr:List aa}{G:Array fH->Array fH->Prop}{n:Nat}{P:Nat->a8->Prop}{St:Nat->ae->Prop}
end
end PySem
namespace L2
open PySem PySem.Spec PyProof.Rows
section
variable{X:Cx}{ρ:Rho}{a:ai}{ds:List D}{p p1 p2 p3 pos:aJ}
end
noncomputable def Sl.abs:Sl->Sv
 |.un=>.un
 |.val d=>.val d
 |.own _ l=>.own l
 |.raw _ _ x=>.exc x
noncomputable def j8(ρ:Rho):En:=ρ.map Sl.abs
theorem Rh{ρ:Rho}{i:Nat}:(j8 ρ)[i]?=(ρ[i]?).map Sl.abs:=X7 ..
theorem U8{ρ:Rho}{i:Nat}{d:D}(h:(j8 ρ)[i]?=a3 (.val d)):ρ[i]?=a3 (.val d):=by
 rw[Rh]at h;cases e:ρ[i]? with
 |none=>rw[e]at h;cases h
 |some s=>rw[e]at h;cases s<;>cases h;rfl
theorem j2w{ρ:Rho}{i:Nat}(h:(j8 ρ)[i]?=a3 .un):ρ[i]?=a3 .un:=by
 rw[Rh]at h;cases e:ρ[i]? with
 |none=>rw[e]at h;cases h
 |some s=>rw[e]at h;cases s<;>cases h;rfl
theorem Z5{ρ:Rho}{i:Nat}{l:List D}(h:(j8 ρ)[i]?=a3 (.own l)):∃a,ρ[i]?=a3 (.own a l):=by
 rw[Rh]at h;cases e:ρ[i]? with
 |none=>rw[e]at h;cases h
 |some s=>rw[e]at h;cases s<;>cases h;exact⟨_,rfl⟩
theorem Bs{ρ:Rho}{i:Nat}{x:af}(h:(j8 ρ)[i]?=a3 (.exc x)):∃a o,ρ[i]?=a3 (.raw a o x):=by
 rw[Rh]at h;cases e:ρ[i]? with
 |none=>rw[e]at h;cases h
 |some s=>rw[e]at h;cases s<;>cases h;exact⟨_,_,rfl⟩
theorem jj{ρ:Rho}{i:Nat}{s:Sl}:j8 (ρ.set i s)=(j8 ρ).set i s.abs:=List.map_set ..
noncomputable def Bop.op:Bop->kB
 |.add=>.Add
 |.sub=>.Sub
 |.mul=>.Mult
 |.fdiv=>.FloorDiv
 |.mod=>.Mod
 |.pow=>.Pow
 |.shl=>.LShift
 |.shr=>.RShift
 |.band=>.BitAnd
 |.bxor=>.BitXor
noncomputable def Cop.op:Cop->iG
 |.lt=>.Lt
 |.le=>.LtE
 |.gt=>.Gt
 |.ge=>.GtE
 |.eq=>.Eq
 |.ne=>.NotEq
 |.isin=>.In
 |.notin=>.NotIn
noncomputable def Bf.name:Bf->af
 |.len=>"len"
 |.min=>"min"
 |.max=>"max"
 |.all=>"all"
 |.tuple=>"tuple"
 |.list=>"list"
 |.sum=>"sum"
 |.int=>"int"
 |.any=>"any"
 |.sorted=>"sorted"
noncomputable def Wb:List af:=["len","min","max","all","tuple","list","sum","int","any","sorted","isinstance","bool","str","range","zip","enumerate","reversed","ValueError","set","dict"]
noncomputable def Y6(x:af):Bool:=x.cps.toList.head?==a3 33 || x.cps.toList.head?==a3 63
inductive Nd where
 |e (x:ai)
 |b (x:ai)
 |w (x:ai)
 |a (xs:List ai)
 |i (tg it:ai)
 |o (x:Option ai)
 |c (xs:List ai)
 |p (xs:List ai)
structure Cok(X:Cx)(G:af->Option D):Prop where
 un':X.A.units+100<aM
 un:X.calm=a7->X.A.units+150<aM
 dp:X.calm=a7->X.A.depth+4<bH
 bt:∀x∈Wb,X.mg x=a5
 gl:∀x d,Y6 x=a4->G x=a3 d->∃u v,X.mg x=a3 u/\RelV v u/\∀H,Enc X.K H d v
 nd:X.N.Nodup
 po:d5 (aw X.prog X.w) X.A X.env X.xe
 ea:Z8 X.K=a7
 ec:∀x d,G (bang x)=a3 d->x∈jq/\∃o,W.nsIn X.K ak x=a3 (a3 o)
 el:G "?" = a3 (.bl a7)->∀c∈jq,∃v,W.nsIn X.K ak c=a3 (a3 v)
 kin:X.K.In X.base
 ns:X.base.Ns ak X.mg
 kd:∀x l,G (bang x)=a3 (.lst l)->Kinds X "_law_kinds" x l
 fn:∀f d,G (qm f)=a3 d->∃fa,X.mg f=a3 (.ref fa)/\W.keepIn X.K (.ref fa)=a7
 pl:∀d,G (qm "_law_plan")=a3 d->Cal X "_law_plan" (jef X.K jah)
 pc:∀d,G (qm "Pieces")=a3 d->∃C,X.mg "Pieces" = a3 (.ref C)/\PcX X C
 gd:X.calm=a7->X.A.guards=a3 []
 fr:∃(env0:cH)(out0:List cH)(L:aa),X.stack=env0::out0/\env0.frame=a3 L/\X.env.frame=a3 L
 lm:∀x∈Zt,X.env.qual=x ++ ".<locals>."->∃c P,X.env.code=.ref c/\W.codeHdIn X.K c P=a7/\W.tabIn X.K x=a3 (c,P)
def Gok(X:Cx)(Γ:af->List D->Rc):Prop:=∀f ds,match Γ f ds with
 |.val d=>Cal X f (spP X.K λds' d'=>ds'=ds/\d'=d)
 |.fresh l=>Cal X f (spF X.K λds' l'=>ds'=ds/\l'=l)
 |.err x=>CalX X f (spX X.K X.mg λds' y=>ds'=ds/\y=x)
 |.lval d=>∀x,f=ju x->∃k,Room k X.A/\Ib X.prog X.w X.K X.mg X.base k x λds' d'=>ds'=ds/\d'=d
 |.mval d k'=>∀g ls (k:Nat) ds',f=mq g->ds=.lst (ls.map D.str)::.int (k:Int)::ds'->∀C,X.mg "Pieces" = a3 (.ref C)->CalM X g C λls2 k2 ds2 d2 k2'=>ls2=ls/\k2=k/\ds2=ds'/\d2=d/\k2'=k'
 |.merr x=>∀g ls (k:Nat) ds',f=mq g->ds=.lst (ls.map D.str)::.int (k:Int)::ds'->∀C,X.mg "Pieces" = a3 (.ref C)->CalMX X g C λls2 k2 ds2 x2=>ls2=ls/\k2=k/\ds2=ds'/\x2=x
 |.no=>True
theorem Cok.comp{X:Cx}{G:af->Option D}{scope:b9}{C:aa}{s:ae}{H:Hp}{fp:List aa}{pn:k90}(h:Cok X G):Cok (cCx X scope C s H fp pn) G:=⟨h.un',h.un,h.dp,h.bt,h.gl,h.nd,Tf,h.ea,h.ec,h.el,h.kin,h.ns,h.kd,h.fn,λd e=>Cal.comp (h.pl d e),λd e=>let ⟨C,h1,h2⟩:=h.pc d e;⟨C,h1,⟨h2.ex⟩⟩,h.gd,h.fr,h.lm⟩
theorem Cok.compX{X:Cx}{G:af->Option D}{scope:b9}{C:aa}{s:ae}{H:Hp}{fp:List aa}{pn:k90}{xe:k8z}(h:Cok X G)(po:d5 (aw X.prog X.w) X.A (cCx X scope C s H fp pn).env xe):Cok { cCx X scope C s H fp pn with xe:=xe } G:=⟨h.un',h.un,h.dp,h.bt,h.gl,h.nd,po,h.ea,h.ec,h.el,h.kin,h.ns,h.kd,h.fn,λd e=>⟨(h.pl d e).ex⟩,λd e=>let ⟨C,h1,h2⟩:=h.pc d e;⟨C,h1,⟨h2.ex⟩⟩,h.gd,h.fr,h.lm⟩
theorem Gok.comp{X:Cx}{Γ:af->List D->Rc}{scope:b9}{C:aa}{s:ae}{H:Hp}{fp:List aa}{pn:k90}(h:Gok X Γ):Gok (cCx X scope C s H fp pn) Γ:=λf ds=>by
 have q:=h f ds;cases e:Γ f ds with
 |val d=>rw[e]at q;exact Cal.comp q
 |fresh l=>rw[e]at q;exact Cal.comp q
 |err x=>rw[e]at q;exact⟨q.ex⟩
 |lval d=>rw[e]at q;exact q
 |mval d k=>rw[e]at q;exact λg ls k ds' h1 h2 C h3=>⟨(q g ls k ds' h1 h2 C h3).ex⟩
 |merr x=>rw[e]at q;exact λg ls k ds' h1 h2 C h3=>⟨(q g ls k ds' h1 h2 C h3).ex⟩
 |no=>trivial
theorem Gok.compX{X:Cx}{Γ:af->List D->Rc}{scope:b9}{C:aa}{s:ae}{H:Hp}{fp:List aa}{pn:k90}{xe:k8z}(h:Gok X Γ):Gok { cCx X scope C s H fp pn with xe:=xe } Γ:=λf ds=>by
 have q:=h f ds;cases e:Γ f ds with
 |val d=>rw[e]at q;exact⟨q.ex⟩
 |fresh l=>rw[e]at q;exact⟨q.ex⟩
 |err x=>rw[e]at q;exact⟨q.ex⟩
 |lval d=>rw[e]at q;exact q
 |mval d k=>rw[e]at q;exact λg ls k ds' h1 h2 C h3=>⟨(q g ls k ds' h1 h2 C h3).ex⟩
 |merr x=>rw[e]at q;exact λg ls k ds' h1 h2 C h3=>⟨(q g ls k ds' h1 h2 C h3).ex⟩
 |no=>trivial
inductive HasA(X:Cx)(ρ:Rho):List ai->List Rk->Prop where
 |nil:HasA X ρ [] []
 |cons {a:ai} {es:List ai} {r:Rk} {rs:List Rk} (hs:a9 (a::es) X.env=(a4,ay a X.env)::a9 es X.env):Has X ρ a r->HasA X ρ es rs->HasA X ρ (a::es) (r::rs)
section
variable{X:Cx}{ρ:Rho}{es:List ai}{rs:List Rk}
theorem HasA.toA:∀{es:List ai}{rs:List Rk}{ds:List D},HasA X ρ es rs->v6 rs=a3 ds->DA X ρ es ds
 |_,_,_,.nil,q=>by cases q;exact DA.nil
 |_,_,ds,.cons (r:=r) (rs:=rs) hs h t,q=>by
  unfold v6 at q;cases e1:r.st with
  |none=>rw[e1]at q;cases q
  |some d =>
   cases e2:v6 rs with
   |none=>rw[e1,e2]at q;cases q
   |some ds'=>rw[e1,e2]at q;cases q;exact DA.cons (h.toE e1) (t.toA e2) hs
theorem HasA.toT:∀{es:List ai}{rs:List Rk},HasA X ρ es rs->DTA X ρ es (rs.map Rk.d)
 |_,_,.nil=>DTA.nil
 |_,_,.cons hs h t=>DTA.cons h.toT t.toT hs
theorem HasA.one{e:ai}(h:HasA X ρ [e] rs):∃r,rs=[r]/\Has X ρ e r/\a9 [e] X.env=[(a4,ay e X.env)]:=by cases h with|cons hs h t=>cases t;exact⟨_,rfl,h,hs⟩
theorem DO.unfrz{e:ai}{i:Nat}{a:aa}{l ds:List D}(hk:ρ[i]?=a3 (.own a l))(h:DO X (ρ.set i (.val (.lst l))) e ds)(hn:jz ds=a7):DO X ρ e ds:=λσ H Q R q =>
 h σ H Q (R.freeze hk) λb xs H' g n m en=>q b xs H' g n m ((en.mono jo).hide (λc hc=>by
  rcases xm.mp hc with z|z
  .rw[z];exact .inl ⟨xs,m⟩
  .exact .inl ((R.grow g).owned c z)) hn)
end
theorem Fg{f:D->Option (Option D)}:∀{ds l:List D},Jr f ds=a3 l ->
  l=(ds.filter (λd=>(f d).join.isSome)).map (λd=>(f d).join.getD .non)/\∀d∈ds,∃o,f d=a3 o
 |[],l,h=>by cases h;exact⟨rfl,λd hd=>nomatch hd⟩
 |d::ds,l,h=>by
  unfold Jr at h;cases e1:f d with
  |none=>rw[e1]at h;cases h
  |some o =>
   cases e2:Jr f ds with
   |none=>rw[e1,e2]at h;cases o<;>cases h
   |some xs =>
    rw[e1,e2]at h;obtain⟨q1,q2⟩:=Fg e2;have mem:∀d'∈d::ds,∃o,f d'=a3 o:=λd' hd=>by
     rcases xm.mp hd with z|z
     .subst z;exact⟨o,e1⟩
     .exact q2 d' z
    cases o with
    |none=>cases h;exact⟨by rw[ij (by rw[e1];simp)];exact q1,mem⟩
    |some x=>cases h;exact⟨by rw[ig (by rw[e1];rfl),xu,<-q1,e1];rfl,mem⟩
section
variable{X:Cx}{ρ:Rho}{a b:ai}{d da db:D}{ds ds':List D}{pos:aJ}{k:Bool}
theorem DE.neD(s:Bool)(hu:X.A.units+100<aM)(ha:DT X ρ a (D.seq s ds))(hb:DT X ρ b (D.seq s ds'))(hd:D.depL ds<=98)(nd:D.depL ds'<10000):DE X ρ (.Compare a [.NotEq] [b] pos) (.bl (!v5 ds ds')):=λσ H Q R q =>(Q3 (j5v hu) peS peS (zb _)).to (ha σ H _ R λv H1 g1 e1=>hb σ H1 _ (R.grow g1) λu H2 g2 e2=>⟨ds,ds',s,e1.mono g2,e2,hd,nd,q _ H2 (g1.trans g2) rfl⟩)
theorem DE.notIn(s:Bool)(hu:X.A.units+100<aM)(ha:DT X ρ a d)(hb:DT X ρ b (D.seq s ds))(hd:D.depL ds<=98)(nd:d.dep<10000)(hm:aK .NotIn b=a4):DE X ρ (.Compare a [.NotIn] [b] pos) (.bl (!ds.any λe=>deq e d)):=λσ H Q R q =>(Q3 (Lb hu) peS peS hm).to (ha σ H _ R λv H1 g1 e1=>hb σ H1 _ (R.grow g1) λu H2 g2 e2=>⟨d,ds,s,e1.mono g2,e2,hd,nd,q _ H2 (g1.trans g2) rfl⟩)
theorem DE.in(s:Bool)(hu:X.A.units+100<aM)(ha:DT X ρ a d)(hb:DT X ρ b (D.seq s ds))(hd:D.depL ds<=98)(nd:d.dep<10000)(hm:aK .In b=a4):DE X ρ (.Compare a [.In] [b] pos) (.bl (ds.any λe=>deq e d)):=λσ H Q R q =>(Q3 (j5w hu) peS peS hm).to (ha σ H _ R λv H1 g1 e1=>hb σ H1 _ (R.grow g1) λu H2 g2 e2=>⟨d,ds,s,e1.mono g2,e2,hd,nd,q _ H2 (g1.trans g2) rfl⟩)
theorem jbj:∀{b:D}{s:Bool}{l:List D},b.sqv=a3 (s,l)->b=D.seq s l
 |.lst _,_,_,h=>by cases h;rfl
 |.dct _ _,_,_,h=>by cases h
 |.sct _,_,_,h=>by cases h
 |.fn _ _,_,_,h=>by cases h
 |.tup _,_,_,h=>by cases h;rfl
 |.non,_,_,h=>by cases h
 |.bl _,_,_,h=>by cases h
 |.int _,_,_,h=>by cases h
 |.str _,_,_,h=>by cases h
theorem j47{op:Cop}{i j:Int}(h:cmpI op i j=a3 k)(ha:DT X ρ a (.int i))(hb:DT X ρ b (.int j)):DE X ρ (.Compare a [op.op] [b] pos) (.bl k)/\DB X ρ (.Compare a [op.op] [b] pos) k:=by
 cases op<;>(first|(cases h;done)|skip)
 .cases h;exact⟨DE.lt ha hb,DB.lt ha hb⟩
 .cases h;exact⟨DE.le ha hb,DB.le ha hb⟩
 .cases h;exact⟨DE.gt ha hb,DB.gt ha hb⟩
 .cases h;exact⟨DE.ge ha hb,DB.ge ha hb⟩
 .cases h;exact⟨DE.eqI ha hb,DB.eqI ha hb⟩
 .cases h;exact⟨DE.neI ha hb,DB.neI ha hb⟩
theorem K3{op:Cop}(hu:X.A.units+100<aM)(h:Zf op da db=a3 k)(ha:DT X ρ a da)(hb:DT X ρ b db)(hm:aK op.op b=a4) :
  DE X ρ (.Compare a [op.op] [b] pos) (.bl k)/\DB X ρ (.Compare a [op.op] [b] pos) k:=by
 have inn:∀{r:Bool->Bool},(match db.sqv with|some (_,l)=>if D.depL l<=90/\da.dep<=90 then a3 (r (l.any λe=>deq e da))else a5|none=>a5)=a3 k->∃s l,DT X ρ b (D.seq s l)/\D.depL l<=98/\da.dep<10000/\k=r (l.any λe=>deq e da):=λ{r} h=>by
  cases e:db.sqv with
  |none=>rw[e]at h;cases h
  |some p =>
   obtain⟨s,l⟩:=p;rw[e]at h;have h:(if D.depL l<=90/\da.dep<=90 then a3 (r (l.any λe=>deq e da))else a5)=a3 k:=h;by_cases z:D.depL l<=90/\da.dep<=90
   .rw[if_pos z]at h;cases h;exact⟨s,l,jbj e▸hb,by omega,by omega,rfl⟩
   .rw[if_neg z]at h;cases h
 unfold Zf at h;split at h
 .exact j47 h ha hb
 .by_cases z:da.dep<=90/\db.dep<=90
  .rw[if_pos z]at h;cases h;exact⟨DE.eqD hu ha hb nofun nofun,DB.eqD hu ha hb nofun nofun⟩
  .rw[if_neg z]at h;cases h
 .cases h;exact⟨DE.neB ha hb,DB.neB ha hb⟩
 .cases h;exact⟨(DE.neS ha hb).eq (by rw[j0n]),(DB.neS ha hb).eq (by rw[j0n])⟩
 .cases h;exact⟨(DE.neS ha hb).eq (by simp),(DB.neS ha hb).eq (by simp)⟩
 .rename_i l m;by_cases z:D.depL l<=90/\D.depL m<=90
  .rw[if_pos z]at h;cases h;exact⟨DE.neD a7 hu ha hb nofun nofun,DB.neD a7 hu ha hb nofun nofun⟩
  .rw[if_neg z]at h;cases h
 .rename_i l m;by_cases z:D.depL l<=90/\D.depL m<=90
  .rw[if_pos z]at h;cases h;exact⟨DE.neD a4 hu ha hb nofun nofun,DB.neD a4 hu ha hb nofun nofun⟩
  .rw[if_neg z]at h;cases h
 .cases h;exact⟨DE.inS ha hb hm,DB.inS ha hb hm⟩
 .cases h;exact⟨DE.ltS ha hb,DB.ltS ha hb⟩
 .cases h;exact⟨DE.gtS ha hb,DB.gtS ha hb⟩
 .obtain⟨s,l,hb,hd,nd,e⟩:=inn (r:=id) h;subst e;exact⟨DE.in s hu ha hb hd nd hm,DB.in s hu ha hb hd nd hm⟩
 .obtain⟨s,l,hb,hd,nd,e⟩:=inn (r:=(!·)) h;subst e;exact⟨DE.notIn s hu ha hb hd nd hm,DB.notIn s hu ha hb hd nd hm⟩
 .cases h
theorem DE.shr{i j:Int}(ha:DT X ρ a (.int i))(hb:DT X ρ b (.int j))(h:0<=j):DE X ρ (.BinOp a .RShift b pos) (.int (i/2^j.toNat)):=DE.arI (g:=λi j=>i/2^j.toNat) jfn ha hb h
theorem jw{α:Type}{c:Prop}[Decidable c]{x y:α}(h:(if c then a3 x else a5)=a3 y):c/\x=y:=by
 by_cases z:c
 .rw[if_pos z]at h;exact⟨z,ax h⟩
 .rw[if_neg z]at h;cases h
theorem j4d{op:Bop}{i j n:Int}(h:binI op i j=a3 n)(ha:DT X ρ a (.int i))(hb:DT X ρ b (.int j)):DE X ρ (.BinOp a op.op b pos) (.int n):=by
 cases op
 .cases h;exact DE.add ha hb
 .cases h;exact DE.sub ha hb
 .obtain⟨z,e⟩:=jw h;subst e;exact DE.mul ha hb z
 .obtain⟨z,e⟩:=jw h;subst e;exact DE.fdivB ha hb z
 .obtain⟨z,e⟩:=jw h;subst e;exact DE.mod ha hb z
 .obtain⟨z,e⟩:=jw h;subst e;exact DE.pow ha hb z
 .obtain⟨z,e⟩:=jw h;subst e;exact DE.shl ha hb z
 .obtain⟨z,e⟩:=jw h;subst e;exact DE.shr ha hb z
 .cases h;exact DE.arI0 jft ha hb
 .cases h;exact DE.arI0 jfl ha hb
theorem zc{n:Nat}(h:jm n=a7):n<=aq:=of_decide_eq_true h
end
section
variable{X:Cx}{ρ:Rho}{a b e:ai}{es:List ai}{d:D}{pos p:aJ}
theorem Has.lw:∀{r:Rk}{l:List D},Has X ρ a r->r.lw=a3 l->DL X ρ a l
 |.o l,_,h,q=>by cases q;exact DO.toL h
 |.w l,_,h,q=>by cases q;exact h
 |.e _,_,_,q=>by cases q
 |.t _,_,_,q=>by cases q
theorem j7e{op:Bop}{x y r:Rk}(h:U5 op x y=a3 r)(ha:Has X ρ a x)(hb:Has X ρ b y):Has X ρ (.BinOp a op.op b pos) r:=by
 unfold U5 at h;split at h
 .rename_i i j e1 e2;cases z:binI op i j with
  |none=>rw[z]at h;cases h
  |some n=>rw[z]at h;cases h;exact j4d z (e1▸ha.toT) (e2▸hb.toT)
 .rename_i y z e1 e2;split at h
  .obtain⟨q,e⟩:=jw h;subst e;exact DE.catS (e1▸ha.toT) (e2▸hb.toT) (zc q)
  .cases h
 .rename_i y k e1 e2;split at h
  .obtain⟨q,e⟩:=jw h;subst e;exact DE.mulS (e1▸ha.toT) (e2▸hb.toT) q.1 q.2
  .cases h
 .split at h
  .rename_i l m _ e1 e2;obtain⟨z,q⟩:=jw h;subst q;exact DO.catM (ha.toM e1) (hb.toM e2) (zc z)
  .rename_i l m _ e1 e2;obtain⟨z,q⟩:=jw h;subst q;exact DE.catTM (ha.toM e1) (hb.toM e2) (zc z)
  .rename_i l k _ _ e1 e3;obtain⟨z,q⟩:=jw h;subst q;exact DE.repT (ha.toM e1) (e3▸hb.toT) (λe=>by subst e;exact absurd z.2.2.1 (by simp)) z.1 z.2.1 (zc z.2.2.2)
  .rename_i k _ _ _ e3 _;cases e:x.lw with
   |none=>rw[e]at h;cases h
   |some l =>rw[e]at h;obtain⟨z,q⟩:=jw h;subst q;exact DO.rep (ha.lw e) (e3▸hb.toT) z.1 z.2.1 (zc z.2.2)
  .cases h
theorem Ra:∀{l:List D}{bs:List Bool},boolsOf l=a3 bs->l=bs.map D.bl
 |[],_,h=>by cases h;rfl
 |.bl b::r,bs,h=>by
  unfold boolsOf at h;cases e:boolsOf r with
  |none=>rw[e]at h;cases h
  |some q=>rw[e]at h;cases h;rw[Ra e];rfl
 |.non::_,_,h=>by cases h
 |.int _::_,_,h=>by cases h
 |.str _::_,_,h=>by cases h
 |.tup _::_,_,h=>by cases h
 |.lst _::_,_,h=>by cases h
 |.dct _ _::_,_,h=>by cases h
 |.sct _::_,_,h=>by cases h
 |.fn _ _::_,_,h=>by cases h
theorem Qa:∀{l:List D}{bs:List Int},intsOf l=a3 bs->l=bs.map D.int
 |[],_,h=>by cases h;rfl
 |.int b::r,bs,h=>by
  unfold intsOf at h;cases e:intsOf r with
  |none=>rw[e]at h;cases h
  |some q=>rw[e]at h;cases h;rw[Qa e];rfl
 |.non::_,_,h=>by cases h
 |.bl _::_,_,h=>by cases h
 |.str _::_,_,h=>by cases h
 |.tup _::_,_,h=>by cases h
 |.lst _::_,_,h=>by cases h
 |.dct _ _::_,_,h=>by cases h
 |.sct _::_,_,h=>by cases h
 |.fn _ _::_,_,h=>by cases h
theorem La:∀{l:List D}{bs:List af},strsOf l=a3 bs->l=bs.map D.str
 |[],_,h=>by cases h;rfl
 |.str b::r,bs,h=>by
  unfold strsOf at h;cases e:strsOf r with
  |none=>rw[e]at h;cases h
  |some q=>rw[e]at h;cases h;rw[La e];rfl
 |.non::_,_,h=>by cases h
 |.bl _::_,_,h=>by cases h
 |.int _::_,_,h=>by cases h
 |.tup _::_,_,h=>by cases h
 |.lst _::_,_,h=>by cases h
 |.dct _ _::_,_,h=>by cases h
 |.sct _::_,_,h=>by cases h
 |.fn _ _::_,_,h=>by cases h
theorem Jf{w:Option W}{k:Bool}(h:truth w=a3 k):∃r,w=a3 (.v r)/\r.d=.bl k:=by
 unfold truth at h;split at h
 .rename_i r;split at h
  .rename_i q e;cases h;exact⟨r,rfl,e⟩
  .cases h
 .cases h
def j10(X:Cx)(ρ:Rho):List ai->List Rk->Prop
 |[],[]=>True
 |e::es,r::rs=>(∀y,q8 r.d=a3 y->DE X ρ e (.str y))/\j10 X ρ es rs
 |_,_=>False
theorem j10.all{X:Cx}{ρ:Rho}:∀{es:List ai}{rs:List Rk}{ys:List af},j10 X ρ es rs->zj rs=a3 ys->DPs X ρ es ys/\ys.length=rs.length
 |[],[],ys,_,q=>by cases q;exact⟨trivial,rfl⟩
 |e::es,r::rs,ys,h,q=>by
  unfold zj at q;cases e1:q8 r.d with
  |none=>rw[e1]at q;cases q
  |some y =>
   cases e2:zj rs with
   |none=>rw[e1,e2]at q;cases q
   |some ys' =>rw[e1,e2]at q;cases q;obtain⟨z1,z2⟩:=j10.all h.2 e2;exact⟨⟨h.1 y e1,z1⟩,by rw[xx,xx,z2]⟩
 |[],_::_,_,h,_=>h.elim
 |_::_,[],_,h,_=>h.elim
theorem log2_small{i:Int}(h:-18446744073709551616<i/\i<18446744073709551616):i.natAbs.log2<1920:=by
 by_cases z:i.natAbs=0
 .rw[z];decide
 .have e:(2:Nat)^64=18446744073709551616:=by decide
  have:i.natAbs.log2<64:=(mC z).mpr (by rw[e];omega);omega
theorem jd2{is:List Nat}{ρ:Rho}(h:Wr is (j8 ρ)=a7):∀j∈is,ρ[j]?=a3 Sl.un:=λj hj=>by
 have:=Xq.mp h j hj;split at this
 .rename_i e;exact j2w e
 .cases this
theorem j58{d:D}{y:af}(h:q8 d=a3 y):y.length<=10000:=by
 cases d with
 |int i =>
  simp only[q8]at h;split at h
  .rename_i q;cases h;have:=int_text_length_le (k:=1920) (by decide) (log2_small q);rw[PySem.ofString_length];omega
  .cases h
 |str z =>
  simp only[q8]at h;split at h
  .rename_i q;cases h;exact q
  .cases h
 |tup l =>
  simp only[q8]at h;split at h
  .split at h
   .rename_i q;cases h;exact q.2
   .cases h
  .cases h
 |_=>cases h
theorem Od:∀{rs:List Rk}{ys:List af},zj rs=a3 ys->∀y∈ys,y.length<=10000
 |[],_,q=>by cases q;exact λy hy=>nomatch hy
 |r::rs,ys,q=>by
  unfold zj at q;cases e1:q8 r.d with
  |none=>rw[e1]at q;cases q
  |some y =>
   cases e2:zj rs with
   |none=>rw[e1,e2]at q;cases q
   |some ys' =>
    rw[e1,e2]at q;cases q;intro z hz;rcases xm.mp hz with rfl|hz
    .exact j58 e1
    .exact Od e2 z hz
theorem DE.fmt{X:Cx}{ρ:Rho}{a:ai}{d:D}{y:af}{pos:aJ}(hg:X.A.guards=a3 [])(hu:X.A.units+100<aM)(ha:DT X ρ a d)(h:q8 d=a3 y):DE X ρ (.FormattedValue a (-1) a5 pos) (.str y):=by
 cases d with
 |int i =>
  simp only[q8]at h;split at h
  .rename_i q;cases h;exact DE.fmtI ha (log2_small q)
  .cases h
 |str z =>
  simp only[q8]at h;split at h
  .rename_i q;cases h;exact DE.fmtS ha (by rw[dh];omega)
  .cases h
 |tup l =>
  simp only[q8]at h;split at h
  .rename_i is ei;split at h
   .rename_i q;cases h;have e:=Qa ei;subst e;exact DE.fmtT hg hu ha (λi hi=>log2_small (q.1 i hi)) (by rw[dh];omega)
   .cases h
  .cases h
 |_=>cases h
def jii(Γ:af->List D->Rc)(G:af->Option D)(X:Cx)(t:Ex):Nd->Prop
 |.e e=>∀ρ r,ev Γ G t (j8 ρ)=a3 (.v r)->Has X ρ e r
 |.b e=>∀ρ k,truth (ev Γ G t (j8 ρ))=a3 k->DB X ρ e k
 |.w e=>∀ρ k,truth (ev Γ G t (j8 ρ))=a3 k->DW X ρ e k
 |.a es=>∀ρ rs,ev Γ G t (j8 ρ)=a3 (.a rs)->HasA X ρ es rs
 |.i tg it=>∀ρ ds,ev Γ G t (j8 ρ)=a3 (.i ds)->DI X ρ tg it ds
 |.o e=>∀ρ o,Z3 (ev Γ G t (j8 ρ))=a3 o->DP X ρ e o
 |.p es=>∀ρ rs,ev Γ G t (j8 ρ)=a3 (.a rs)->j10 X ρ es rs
 |.c ifs=>∀ρ,(ev Γ G t (j8 ρ)=a3 (.a [])->DTs X ρ ifs a7)/\∀y k,ev Γ G t (j8 ρ)=a3 (.a [y])->y.d=.bl k->DTs X ρ ifs k
end
section
variable{Γ:af->List D->Rc}{G:af->Option D}{X:Cx}
theorem Oj{is:List Nat}{elt' it' c':Ex}{elt it tg:ai}{ifs:List ai}{scope:b9}{ρ:Rho}{r:Rk}
  (hit:∀ρ ds,ev Γ G it' (j8 ρ)=a3 (.i ds)->DI X ρ tg it ds)
  (hb:∀ρ d ρ2,za is d (j8 ρ)=a3 ρ2->(∀j∈is,ρ[j]?=a3 .un)->∃ρ',j8 ρ'=ρ2/\Wk ρ' ρ/\owns ρ'=owns ρ/\∀C s H fp pn,DG (cCx X scope C s H fp pn) ρ tg d ρ')
  (he:∀C s H fp pn ρ r,ev Γ G elt' (j8 ρ)=a3 (.v r)->Has (cCx X scope C s H fp pn) ρ elt r)
  (hc:∀C s H fp pn ρ,(ev Γ G c' (j8 ρ)=a3 (.a [])->DTs (cCx X scope C s H fp pn) ρ ifs a7)/\∀y k,ev Γ G c' (j8 ρ)=a3 (.a [y])->y.d=.bl k->DTs (cCx X scope C s H fp pn) ρ ifs k)
  (h:ev Γ G (.comp is elt' it' c') (j8 ρ)=a3 (.v r)):∃(l:List D)(ρf:Rho)(ds:List D)(pr:D->Bool)(g:D->D),r=.o l/\l=(ds.filter pr).map g /\
   (ρf=ρ\/(jz l=a7/\∃(i:Nat)(a:aa)(l':List D),ρ[i]?=a3 (.own a l')/\ρf=ρ.set i (.val (.lst l'))))/\DI X ρf tg it ds/\(∀j∈is,ρf[j]?=a3 .un)/\ds.length<=aq /\
   (∀C s H fp pn,∀d∈ds,∃ρ2,DG (cCx X scope C s H fp pn) ρf tg d ρ2/\Wk ρ2 ρf/\owns ρ2=owns ρf/\DTs (cCx X scope C s H fp pn) ρ2 ifs (pr d)/\(pr d=a7->DE (cCx X scope C s H fp pn) ρ2 elt (g d))):=by
 have fr:∃ρf,j8 ρf=frz it' (j8 ρ)/\((Jp it' (j8 ρ)=a4/\ρf=ρ)\/(Jp it' (j8 ρ)=a7/\∃i a l,ρ[i]?=a3 (.own a l)/\ρf=ρ.set i (.val (.lst l)))):=by
  by_cases z:Jp it' (j8 ρ)=a7
  .unfold Jp at z;split at z
   .rename_i i ei;split at z
    .rename_i l e;obtain⟨a,q⟩:=Z5 e;refine⟨ρ.set i (.val (.lst l)),?_,.inr ⟨?_,i,a,l,q,rfl⟩⟩
     .rw[jj];simp only[frz,ei,e,Sl.abs]
     .simp only[Jp,ei,e]
    .cases z
   .cases z
  .have z':Jp it' (j8 ρ)=a4:=by simpa using z
   refine⟨ρ,?_,.inl ⟨z',rfl⟩⟩;unfold frz;split
   .rename_i i ei;split
    .rename_i l e;simp only[Jp,ei,e]at z';cases z'
    .rfl
   .rfl
 obtain⟨ρf,ef,fr⟩:=fr;rw[j7j]at h;rw[<-ef]at h;split at h
 .rename_i ds hds;split at h
  .rename_i hz;obtain⟨hfree,hlen⟩:=hz;generalize hf:(λd=>_:D->Option (Option D))=f at h;cases hl:Jr f ds with
   |none=>rw[hl]at h;cases h
   |some l =>
    rw[hl]at h;have h:(if (Jp it' (j8 ρ) && !jz l)=a7 then a5 else a3 (W.v (.o l)))=a3 (.v r):=h;by_cases zz:(Jp it' (j8 ρ) && !jz l)=a7
    .rw[if_pos zz]at h;cases h
    .rw[if_neg zz]at h;cases h;obtain⟨el,hmem⟩:=Fg hl;have hun:∀j∈is,ρf[j]?=a3 .un:=λj hj=>by
      have:=Xq.mp hfree j hj;split at this
      .rename_i e;exact j2w e
      .cases this
     refine⟨l,ρf,ds,_,_,rfl,el,?_,hit ρf ds hds,hun,zc hlen,λC s H fp pn d hd=>?_⟩
     .rcases fr with ⟨_,e⟩|⟨e1,i,a,l',hk,e⟩
      .exact .inl e
      .exact .inr ⟨by rw[e1]at zz;simpa using zz,i,a,l',hk,e⟩
     ·
      obtain⟨o,ho⟩:=hmem d hd;rw[<-hf]at ho ⊢;dsimp only at ho ⊢;cases hb2:za is d (j8 ρf) with
      |none=>rw[hb2]at ho;cases ho
      |some ρ2 =>
       obtain⟨ρ',e',wk,ow,dg⟩:=hb ρf d ρ2 hb2 hun;subst e';refine⟨ρ',dg C s H fp pn,wk,ow,?_⟩;rw[hb2]at ho;dsimp only at ho ⊢;cases hcv:ev Γ G c' (j8 ρ') with
       |none=>rw[hcv]at ho;cases ho
       |some w =>
        rw[hcv]at ho;split at ho
        .rename_i hw;cases hw;cases hev:ev Γ G elt' (j8 ρ') with
         |none=>rw[hev]at ho;cases ho
         |some w =>
          rw[hev]at ho;cases w with
          |i _=>cases ho
          |a _=>cases ho
          |v x =>
           dsimp only at ho ⊢;cases hst:x.st with
           |none=>rw[hst]at ho;cases ho
           |some y =>simp only[hst,jV,jD,eY,dH];exact⟨((hc C s H fp pn ρ').1 hcv),λ_=>(he C s H fp pn ρ' x hev).toE hst⟩
        .rename_i y hw;cases hw;split at ho
         .rename_i e1;cases hev:ev Γ G elt' (j8 ρ') with
          |none=>rw[hev]at ho;cases ho
          |some w =>
           rw[hev]at ho;cases w with
           |i _=>cases ho
           |a _=>cases ho
           |v x =>
            dsimp only at ho ⊢;cases hst:x.st with
            |none=>rw[hst]at ho;cases ho
            |some z =>simp only[e1,hst,jV,jD,eY,dH];exact⟨(hc C s H fp pn ρ').2 y a7 hcv e1,λ_=>(he C s H fp pn ρ' x hev).toE hst⟩
         .rename_i e1;simp only[e1,Option.join,l5];exact⟨(hc C s H fp pn ρ').2 y a4 hcv e1,λz=>by cases z⟩
         .cases ho
        .cases ho
  .cases h
 .cases h
theorem Wz{is:List Nat}{elt' it' c':Ex}{elt it tg:ai}{ifs:List ai}{scope:b9}{p:aJ}{ρ:Rho}{r:Rk}(hq:X.calm=a7)(hX:Cok X G)
  (hit:∀ρ ds,ev Γ G it' (j8 ρ)=a3 (.i ds)->DI X ρ tg it ds) (hkind:scope.kind=.function) (hok:J7 scope X.env X.N is=a7) (hs:∀x,aF it X.env x=pure x)
  (hb:∀ρ d ρ2,za is d (j8 ρ)=a3 ρ2->(∀j∈is,ρ[j]?=a3 .un)->∃ρ',j8 ρ'=ρ2/\Wk ρ' ρ/\owns ρ'=owns ρ/\∀C s H fp pn,DG (cCx X scope C s H fp pn) ρ tg d ρ')
  (he:∀C s H fp pn ρ r,ev Γ G elt' (j8 ρ)=a3 (.v r)->Has (cCx X scope C s H fp pn) ρ elt r)
  (hc:∀C s H fp pn ρ,(ev Γ G c' (j8 ρ)=a3 (.a [])->DTs (cCx X scope C s H fp pn) ρ ifs a7)/\∀y k,ev Γ G c' (j8 ρ)=a3 (.a [y])->y.d=.bl k->DTs (cCx X scope C s H fp pn) ρ ifs k)
  (h:ev Γ G (.comp is elt' it' c') (j8 ρ)=a3 (.v r)):∃l,r=.o l/\DO X ρ (.ListComp elt [⟨tg,it,ifs,0⟩] scope p) l:=by
 obtain⟨l,ρf,ds,pr,g,er,el,hf,hi,hun,hz,hb'⟩:=Oj hit hb he hc h;refine⟨l,er,?_⟩;have main:DO X ρf (.ListComp elt [⟨tg,it,ifs,0⟩] scope p) ((ds.filter pr).map g):=DO.comp is _ _ hi hb' hun hz hq hkind hok hs;rw[<-el]at main;rcases hf with e|⟨hn,i,a,l',hk,e⟩
 .subst e;exact main
 .subst e;exact DO.unfrz hk main hn
end
section
variable{X:Cx}{ρ:Rho}{a b e:ai}{es:List ai}{d:D}{pos p:aJ}
theorem Has.map(h:∀σ H Q,Qd X a σ H Q->Qd X e σ H Q):∀{r:Rk},Has X ρ a r->Has X ρ e r
 |.e _,q=>λσ H Q R z=>h σ H Q (q σ H Q R z)
 |.o _,q=>λσ H Q R z=>h σ H Q (q σ H Q R z)
 |.w _,q=>λσ H Q R z=>h σ H Q (q σ H Q R z)
 |.t _,q=>λσ H Q R z=>h σ H Q (q σ H Q R z)
theorem Has.bl{r:Rk}{k:Bool}(h:Has X ρ a r)(e:r.d=.bl k):DE X ρ a (.bl k):=DT.toE (e▸h.toT)
theorem Z4{f:Bf}{rs:List Rk}{r:Rk}{p2:aJ}{G:af->Option D}(c:Cok X G)(hq:f=.min\/f=.all\/f=.sum\/f=.any\/f=.max->X.calm=a7)(hg:Gl X f.name)(h:Vb f rs=a3 r)(ha:HasA X ρ es rs):Has X ρ (.Call (.Name f.name p) es [] p2) r:=by
 have one:∀{x:Rk},HasA X ρ es [x]->∃e,es=[e]/\Has X ρ e x/\a9 [e] X.env=[(a4,ay e X.env)]:=λ{x} h=>by cases h with|cons hs h t=>cases t;exact⟨_,rfl,h,hs⟩
 have two:∀{x y:Rk},HasA X ρ es [x,y]->∃e f,es=[e,f]/\Has X ρ e x/\Has X ρ f y/\a9 [e,f] X.env=(a4,ay e X.env)::a9 [f] X.env/\a9 [f] X.env=[(a4,ay f X.env)]:=λ{x y} h=>by cases h with|cons hs h t=>cases t with|cons hs2 h2 t2=>cases t2;exact⟨_,_,rfl,h,h2,hs,hs2⟩
 unfold Vb at h;split at h
 .rename_i x;obtain⟨e,ee,hx,hs⟩:=one ha;subst ee;split at h
  .rename_i l el;cases h;exact DE.lenL (el▸hx.toT) (c.bt _ (by decide)) hg hs
  .rename_i l el;cases h;exact DE.lenT (el▸hx.toT) (c.bt _ (by decide)) hg hs
  .rename_i y el;obtain⟨z,q⟩:=jw h;subst q;exact DE.lenS (el▸hx.toT) (zc z) (c.bt _ (by decide)) hg hs
  .cases h
 .rename_i x y;obtain⟨e,f,ee,hx,hy,hs,hs2⟩:=two ha;subst ee;split at h
  .rename_i i j ei ej;cases h;exact DE.min (ei▸hx.toT) (ej▸hy.toT) (c.bt _ (by decide)) (hq (.inl rfl)) hg hs hs2 (by rw[hs2];rfl)
  .cases h
 .rename_i x y;obtain⟨e,f,ee,hx,hy,hs,hs2⟩:=two ha;subst ee;split at h
  .rename_i i j ei ej;cases h;exact DE.max2 (ei▸hx.toT) (ej▸hy.toT) (c.bt _ (by decide)) (hq (.inr (.inr (.inr (.inr rfl))))) hg hs hs2 (by rw[hs2];rfl)
  .cases h
 .rename_i x;obtain⟨e,ee,hx,hs⟩:=one ha;subst ee;split at h
  .rename_i l el;split at h
   .rename_i ns en;obtain⟨z,q⟩:=jw h;cases q;have:=Qa en;subst this;exact DE.maxL (el▸hx.toT) (λz'=>by subst z';simp at z) (c.bt _ (by decide)) (hq (.inr (.inr (.inr (.inr rfl))))) hg hs
   .cases h
  .cases h
 .rename_i x;obtain⟨e,ee,hx,hs⟩:=one ha;subst ee;split at h
  .rename_i l el;split at h
   .rename_i ns en;obtain⟨z,q⟩:=jw h;cases q;have:=Qa en;subst this;exact DE.minL (el▸hx.toT) (λz'=>by subst z';simp at z) (c.bt _ (by decide)) (hq (.inl rfl)) hg hs
   .cases h
  .cases h
 .rename_i x;obtain⟨e,ee,hx,hs⟩:=one ha;subst ee;split at h
  .rename_i l el;cases q:boolsOf l with
   |none=>rw[q]at h;cases h
   |some bs =>rw[q]at h;cases h;have:=Ra q;subst this;exact DE.all (el▸hx.toT) (c.bt _ (by decide)) (hq (.inr (.inl rfl))) hg hs
  .cases h
 .rename_i x;obtain⟨e,ee,hx,hs⟩:=one ha;subst ee;split at h
  .rename_i l el;cases q:boolsOf l with
   |none=>rw[q]at h;cases h
   |some bs =>rw[q]at h;cases h;have:=Ra q;subst this;exact DE.any (el▸hx.toT) (c.bt _ (by decide)) (hq (.inr (.inr (.inr (.inl rfl))))) hg hs
  .cases h
 .rename_i x;obtain⟨e,ee,hx,hs⟩:=one ha;subst ee;split at h
  .rename_i s l el;cases h;exact DE.tupM (hx.toM el) (c.bt _ (by decide)) hg hs
  .cases h
 .rename_i x;obtain⟨e,ee,hx,hs⟩:=one ha;subst ee;split at h
  .rename_i s l el;cases h;exact DO.listM (hx.toM el) (c.bt _ (by decide)) hg hs
  .cases h
 .rename_i x;obtain⟨e,ee,hx,hs⟩:=one ha;subst ee;split at h
  .rename_i l el;cases q:intsOf l with
   |none=>rw[q]at h;cases h
   |some ns =>rw[q]at h;cases h;have:=Qa q;subst this;exact DE.sum a7 (show DT X ρ e (.lst (ns.map D.int))from el▸hx.toT) (c.bt _ (by decide)) (hq (.inr (.inr (.inl rfl)))) hg hs
  .rename_i l el;cases q:intsOf l with
   |none=>rw[q]at h;cases h
   |some ns =>rw[q]at h;cases h;have:=Qa q;subst this;exact DE.sum a4 (show DT X ρ e (.tup (ns.map D.int))from el▸hx.toT) (c.bt _ (by decide)) (hq (.inr (.inr (.inl rfl)))) hg hs
  .cases h
 .rename_i x;obtain⟨e,ee,hx,hs⟩:=one ha;subst ee;split at h
  .rename_i k el;cases h;exact DE.int1 (el▸hx.toT) (c.bt _ (by decide)) hg hs
  .rename_i y el;split at h
   .rename_i hl;obtain⟨n,hn,rfl⟩:=Xu.mp h;exact DE.intS (el▸hx.toT) hn hl (c.bt _ (by decide)) hg hs
   .cases h
  .cases h
 .cases h
end
section
variable{Γ:af->List D->Rc}{G:af->Option D}{X:Cx}
theorem Fx{d:D}{ns:List Int}(h:tupI d=a3 ns):d=.tup (ns.map D.int):=by
 unfold tupI at h;split at h
 .rw[Qa h]
 .cases h
theorem Ik:∀{l:List D}{ks:List (List Int)},Mr l=a3 ks->l=ks.map λk=>D.tup (k.map D.int)
 |[],ks,h=>by cases h;rfl
 |d::l,ks,h=>by
  unfold Mr at h;split at h
  .rename_i k ks' e1 e2;cases h;rw[Fx e1,Ik e2];rfl
  .cases h
theorem jfc:∀{d:D}{k:Int×List Int},prI d=a3 k->d=pairD k:=λ{d k} h=>by
 unfold prI at h;split at h
 .obtain⟨x,e,z⟩:=Xu.mp h;subst z;rw[Fx e];rfl
 .cases h
theorem j22:∀{l:List D}{ks:List (Int×List Int)},j3g l=a3 ks->l=ks.map pairD
 |[],ks,h=>by cases h;rfl
 |d::l,ks,h=>by
  unfold j3g at h;split at h
  .rename_i k ks' e1 e2;cases h;rw[jfc e1,j22 e2];rfl
  .cases h
theorem j49 {ρ:Rho} {f:af} {e:ai} {es:List ai} {rs:List Rk} {r:Rk} {p p2:aJ} (g:Gok X Γ) (hg:Gl X f) (hdb:(f==k92)=a4) (he:a9 (e::es) X.env=(a4,ay e X.env)::a9 es X.env)
  (hpl:(aO p2 (a9 es X.env)).any (·.1)=a4) (ha:HasA X ρ (e::es) rs)
  (h:(match v6 rs with|some ds=>(Γ f ds).rk.map W.v|none=>match Γ f (rs.map Rk.d)with|.val d=>a3 (.v (.t d))|.fresh l=>if jz l=a7 then a3 (.v (.o l))else a5|_=>a5)=a3 (.v r)):Has X ρ (.Call (.Name f p) (e::es) [] p2) r:=by
 split at h
 .rename_i ds hds;have q:=g f ds;cases z:Γ f ds with
  |val d=>rw[z]at h q;cases h;exact DE.call q (ha.toA hds) ⟨rfl,rfl⟩ hg hdb he hpl
  |fresh l=>rw[z]at h q;cases h;exact DO.call q (ha.toA hds) ⟨rfl,rfl⟩ hg hdb he hpl
  |err x=>rw[z]at h;cases h
  |lval d=>rw[z]at h;cases h
  |mval d k=>rw[z]at h;cases h
  |merr x=>rw[z]at h;cases h
  |no=>rw[z]at h;cases h
 .have q:=g f (rs.map Rk.d);split at h
  .rename_i d z;rw[z]at q;cases h;exact DT.call q ha.toT ⟨rfl,rfl⟩ hg hdb he hpl
  .rename_i l z;rw[z]at q;obtain⟨hn,e1⟩:=jw h;cases e1;exact DO.callT q ha.toT ⟨rfl,rfl⟩ hn hg hdb he hpl
  .cases h
theorem jes{a:Ex}{ρ:En}{r:Rk}(h:ev Γ G (.rpr a) ρ=a3 (.v r)):∃x y,ev Γ G a ρ=a3 (.v x)/\x.d=.str y/\(aH y).length<=2000/\r=.e (.str (aH y)):=by
 rw[jkm]at h;split at h
 .rename_i x ex;split at h
  .rename_i y ey;split at h
   .rename_i hl;cases h;exact⟨x,y,ex,ey,hl,rfl⟩
   .cases h
  .cases h
 .cases h
end
def XM(X:Cx)(ρ:Rho)(y:af):Nd->Prop
 |.e e=>DX X ρ e y
 |.a es=>DXA X ρ es y
 |_=>True
structure Tr(X:Cx)(t:Ex)(nd:Nd):Prop where
 m:∀(Γ:af->List D->Rc)(G:af->Option D),Cok X G->Gok X Γ->jii Γ G X t nd
 x:∀(Γ:af->List D->Rc)(G:af->Option D),Cok X G->Gok X Γ->∀ρ y,er Γ G t (j8 ρ)=a3 y->XM X ρ y nd
theorem Tr.int:∀{X:Cx}{i:Int}{n:Nat}{p:aJ},Tr X (.lit (.int i)) (.e (.Constant (.int i) n p)):=by intro _ _ _ _;refine⟨λΓ G=>?_,λ_ _ _ _ _ _ h=>nomatch h⟩;intro _ _ ρ r h;simp only[Fq]at h;cases h;exact DE.int
theorem Tr.bl:∀{X:Cx}{b:Bool}{n:Nat}{p:aJ},Tr X (.lit (.bl b)) (.e (.Constant (.bool b) n p)):=by intro _ _ _ _;refine⟨λΓ G=>?_,λ_ _ _ _ _ _ h=>nomatch h⟩;intro _ _ ρ r h;simp only[Fq]at h;cases h;exact DE.bl
theorem Tr.non:∀{X:Cx}{n:Nat}{p:aJ},Tr X (.lit .non) (.e (.Constant .none n p)):=by intro _ _ _;refine⟨λΓ G=>?_,λ_ _ _ _ _ _ h=>nomatch h⟩;intro _ _ ρ r h;simp only[Fq]at h;cases h;exact DE.non
theorem Tr.str:∀{X:Cx}{y:af}{n:Nat}{p:aJ},Tr X (.lit (.str y)) (.e (.Constant (.str y) n p)):=by intro _ _ _ _;refine⟨λΓ G=>?_,λ_ _ _ _ _ _ h=>nomatch h⟩;intro _ _ ρ r h;simp only[Fq]at h;cases h;exact DE.str
theorem Tr.var:∀{X:Cx}{k:Nat}{x:af}{p:aJ}(hN:X.N[k]?=a3 x) (hv:Vis X.env.scope x) (hd:(x==k92)=a4) (hcd:(x==k93)=a4),Tr X (.var k) (.e (.Name x p)):=by
 intro _ _ _ _ hN hv hd hcd;refine⟨λΓ G=>?_,λ_ _ _ _ _ _ h=>nomatch h⟩;intro _ _ ρ r h;simp only[jkh,Fv]at h;split at h
 .rename_i e;cases h;exact DE.var _ (U8 e) hN hv hd hcd
 .rename_i e;cases h;obtain⟨a,q⟩:=Z5 e;exact DL.var _ q hN hv hd hcd
 .cases h
theorem Tr.glob:∀{X:Cx}{x:af}{p:aJ}(hg:Gl X x)(hd:(x==k92)=a4) (hb:Y6 x=a4),Tr X (.glob x) (.e (.Name x p)):=by
 intro _ _ _ hg hd hb;refine⟨λΓ G=>?_,λ_ _ _ _ _ _ h=>nomatch h⟩;rename_i X x p;intro c _ ρ r h;simp only[ji7]at h;cases e:G x with
 |none=>rw[e]at h;cases h
 |some d=>rw[e]at h;cases h;obtain⟨u,v,hm,r,q⟩:=c.gl x d hb e;exact DE.glob hg hm r q hd
theorem Tr.bin:∀{X:Cx}{op:Bop}{a' b':Ex}{a b:ai}{p:aJ},Tr X a' (.e a)->Tr X b' (.e b)->Tr X (.bin op a' b') (.e (.BinOp a op.op b p)):=by
 intro _ _ _ _ _ _ _ q0 q1;refine⟨λΓ G=>?_,λ_ _ _ _ _ _ h=>nomatch h⟩;have iha:=q0.m Γ G;have ihb:=q1.m Γ G;intro c g ρ r h;simp only[jkr,Q7]at h;split at h
 .rename_i x y ex ey;cases e:U5 _ x y with
  |none=>rw[e]at h;cases h
  |some z=>rw[e]at h;cases h;exact j7e e (iha c g ρ x ex) (ihb c g ρ y ey)
 .cases h
theorem Tr.neg:∀{X:Cx}{a':Ex}{a:ai}{p:aJ},Tr X a' (.e a)->Tr X (.neg a') (.e (.UnaryOp .USub a p)):=by
 intro _ _ _ _ q0;refine⟨λΓ G=>?_,λ_ _ _ _ _ _ h=>nomatch h⟩;have iha:=q0.m Γ G;intro c g ρ r h;simp only[jkn,j02]at h;split at h
 .rename_i x ex;split at h
  .rename_i i e;cases h;exact DE.neg (e▸(iha c g ρ x ex).toT)
  .cases h
 .cases h
theorem Tr.cmp:∀{X:Cx}{op:Cop}{a' b':Ex}{a b:ai}{p:aJ}(hm:aK op.op b=a4),Tr X a' (.e a)->Tr X b' (.e b)->Tr X (.cmp op a' b') (.e (.Compare a [op.op] [b] p)):=by
 intro _ _ _ _ _ _ _ hm q0 q1;refine⟨λΓ G=>?_,λ_ _ _ _ _ _ h=>nomatch h⟩;have iha:=q0.m Γ G;have ihb:=q1.m Γ G;intro c g ρ r h;simp only[jb1,Cg]at h;split at h
 .rename_i x y ex ey;cases e:Zf _ x.d y.d with
  |none=>rw[e]at h;cases h
  |some z=>rw[e]at h;cases h;exact(K3 c.un' e (iha c g ρ x ex).toT (ihb c g ρ y ey).toT hm).1
 .cases h
theorem Tr.bcmp:∀{X:Cx}{op:Cop}{a' b':Ex}{a b:ai}{p:aJ}(hm:aK op.op b=a4),Tr X a' (.e a)->Tr X b' (.e b)->Tr X (.cmp op a' b') (.b (.Compare a [op.op] [b] p)):=by
 intro _ _ _ _ _ _ _ hm q0 q1;refine⟨λΓ G=>?_,λ_ _ _ _ _ _ _=>trivial⟩;have iha:=q0.m Γ G;have ihb:=q1.m Γ G;intro c g ρ k h;obtain⟨r,h,hk⟩:=Jf h;simp only[jb1,Cg]at h;split at h
 .rename_i x y ex ey;cases e:Zf _ x.d y.d with
  |none=>rw[e]at h;cases h
  |some z=>rw[e]at h;cases h;cases hk;exact(K3 c.un' e (iha c g ρ x ex).toT (ihb c g ρ y ey).toT hm).2
 .cases h
theorem Tr.bisN:∀{X:Cx}{a':Ex}{a:ai}{n:Nat}{p p2:aJ},Tr X a' (.e a)->Tr X (.isN a') (.b (.Compare a [.Is] [.Constant .none n p2] p)):=by
 intro _ _ _ _ _ _ q0;refine⟨λΓ G=>?_,λ_ _ _ _ _ _ _=>trivial⟩;have iha:=q0.m Γ G;intro c g ρ k h;obtain⟨r,h,hk⟩:=Jf h;simp only[j4k]at h;split at h
 .rename_i x ex;cases h;cases hk;exact DB.isN (iha c g ρ x ex).toT
 .cases h
theorem Tr.isNN:∀{X:Cx}{a':Ex}{a:ai}{n:Nat}{p p2:aJ},Tr X a' (.e a)->Tr X (.not (.isN a')) (.e (.Compare a [.IsNot] [.Constant .none n p2] p)):=by
 intro _ _ _ _ _ _ q0;refine⟨λΓ G=>?_,λ_ _ _ _ _ _ h=>nomatch h⟩;have iha:=q0.m Γ G;intro c g ρ r h;simp only[j4i,j4k]at h;cases e:truth _ with
 |none=>rw[e]at h;cases h
 |some k =>
  rw[e]at h;cases h;obtain⟨x,ex,ed⟩:=Jf e;split at ex
  .rename_i y ey;cases ex;cases ed;exact DE.isNotN (iha c g ρ y ey).toT
  .cases ex
theorem Tr.bisNN:∀{X:Cx}{a':Ex}{a:ai}{n:Nat}{p p2:aJ},Tr X a' (.e a)->Tr X (.not (.isN a')) (.b (.Compare a [.IsNot] [.Constant .none n p2] p)):=by
 intro _ _ _ _ _ _ q0;refine⟨λΓ G=>?_,λ_ _ _ _ _ _ _=>trivial⟩;have iha:=q0.m Γ G;intro c g ρ k h;obtain⟨r,h,hk⟩:=Jf h;simp only[j4i,j4k]at h;cases e:truth _ with
 |none=>rw[e]at h;cases h
 |some k =>
  rw[e]at h;cases h;cases hk;obtain⟨x,ex,ed⟩:=Jf e;split at ex
  .rename_i y ey;cases ex;cases ed;exact DB.isNotN (iha c g ρ y ey).toT
  .cases ex
theorem Tr.one:∀{X:Cx}{a':Ex}{a:ai}{op:BoolOp}{p:aJ},Tr X a' (.e a)->Tr X a' (.e (.BoolOp op [a] p)):=by intro _ _ _ _ _ q0;refine⟨λΓ G=>?_,λΓ G c g ρ y h σ H Q R k=>(j5t peS).to (q0.x Γ G c g ρ y h σ H Q R k)⟩;have iha:=q0.m Γ G;intro c g ρ r h;exact Has.map (λσ H Q q=>(j5t peS).to q) (iha c g ρ r h)
theorem Tr.and:∀{X:Cx}{a' t':Ex}{a b:ai}{rest:List ai}{p:aJ},Tr X a' (.e a)->Tr X t' (.e (.BoolOp .And (b::rest) p))->Tr X (.and a' t') (.e (.BoolOp .And (a::b::rest) p)):=by
 intro _ _ _ _ _ _ _ q0 q1;refine⟨λΓ G=>?_,λ_ _ _ _ _ _ h=>nomatch h⟩;have iha:=q0.m Γ G;have ihb:=q1.m Γ G;intro c g ρ r h;simp only[jks]at h;split at h
 .rename_i e;cases h;obtain⟨x,ex,ed⟩:=Jf e;exact(DE.and (m:=a4) ((iha c g ρ x ex).bl ed).toT λz=>by cases z)
 .rename_i e;obtain⟨x,ex,ed⟩:=Jf e;cases e2:truth (ev Γ G _ (j8 ρ)) with
  |none=>rw[e2]at h;cases h
  |some k =>rw[e2]at h;cases h;obtain⟨y,ey,fd⟩:=Jf e2;exact(DE.and ((iha c g ρ x ex).bl ed).toT λ_=>(ihb c g ρ y ey).bl fd).eq (by simp)
 .cases h
theorem Tr.wor1:∀{X:Cx}{a':Ex}{a:ai}{p:aJ},Tr X a' (.b a)->Tr X a' (.w (.BoolOp .Or [a] p)):=by intro _ _ _ _ q0;refine⟨λΓ G=>?_,λ_ _ _ _ _ _ _=>trivial⟩;have iha:=q0.m Γ G;intro c g ρ k h;exact DW.or1 (iha c g ρ k h)
theorem Tr.wor:∀{X:Cx}{a' t':Ex}{a b:ai}{rest:List ai}{p:aJ},Tr X a' (.b a)->Tr X t' (.w (.BoolOp .Or (b::rest) p))->Tr X (.or a' t') (.w (.BoolOp .Or (a::b::rest) p)):=by
 intro _ _ _ _ _ _ _ q0 q1;refine⟨λΓ G=>?_,λ_ _ _ _ _ _ _=>trivial⟩;have iha:=q0.m Γ G;have ihb:=q1.m Γ G;intro c g ρ k h;obtain⟨r,h,hk⟩:=Jf h;simp only[jmg]at h;split at h
 .rename_i e;cases h;cases hk;exact DW.or (m:=a4) (iha c g ρ a7 e) λz=>by cases z
 .rename_i e;cases e2:truth (ev Γ G _ (j8 ρ)) with
  |none=>rw[e2]at h;cases h
  |some m =>rw[e2]at h;cases h;cases hk;have q:=DW.or (iha c g ρ a4 e) λ_=>ihb c g ρ _ e2;rw[fh]at q;exact q
 .cases h
theorem Tr.bw:∀{X:Cx}{a':Ex}{op:BoolOp}{es:List ai}{p:aJ},Tr X a' (.w (.BoolOp op es p))->Tr X a' (.b (.BoolOp op es p)):=by intro _ _ _ _ _ q0;refine⟨λΓ G=>?_,λ_ _ _ _ _ _ _=>trivial⟩;have iha:=q0.m Γ G;intro c g ρ k h;exact DW.toB (iha c g ρ k h)
theorem Tr.bnot:∀{X:Cx}{a':Ex}{a:ai}{p:aJ},Tr X a' (.b a)->Tr X (.not a') (.b (.UnaryOp .Not a p)):=by
 intro _ _ _ _ q0;refine⟨λΓ G=>?_,λ_ _ _ _ _ _ _=>trivial⟩;have iha:=q0.m Γ G;intro c g ρ k h;obtain⟨r,h,hk⟩:=Jf h;simp only[j4i]at h;cases e:truth (ev Γ G _ (j8 ρ)) with
 |none=>rw[e]at h;cases h
 |some m=>rw[e]at h;cases h;cases hk;exact DB.not (iha c g ρ m e)
theorem Tr.bval:∀{X:Cx}{a':Ex}{a:ai}(he:∀whole,gp a X.env whole=(do let v <-whole;jP a.pos;ip [v] (truthy v))),Tr X a' (.e a)->Tr X a' (.b a):=by intro _ _ _ he q0;refine⟨λΓ G=>?_,λ_ _ _ _ _ _ _=>trivial⟩;have iha:=q0.m Γ G;intro c g ρ k h;obtain⟨r,h,hk⟩:=Jf h;exact DB.val ((iha c g ρ r h).bl hk).toT he
theorem Tr.ite:∀{X:Cx}{c' a' b':Ex}{c a b:ai}{p:aJ},Tr X c' (.b c)->Tr X a' (.e a)->Tr X b' (.e b)->Tr X (.ite c' a' b') (.e (.IfExp c a b p)):=by
 intro _ _ _ _ _ _ _ _ q0 q1 q2;refine⟨λΓ G=>?_,λ_ _ _ _ _ _ h=>nomatch h⟩;have ihc:=q0.m Γ G;have iha:=q1.m Γ G;have ihb:=q2.m Γ G;intro c g ρ r h;simp only[jkp]at h;split at h
 .rename_i e;split at h
  .rename_i x ex;cases es:x.st with
   |none=>rw[es]at h;cases h
   |some d=>rw[es]at h;cases h;exact(DE.ite (d':=d) (ihc c g ρ a7 e) (λ_=>(iha c g ρ x ex).toE es) λz=>by cases z).eq (by simp)
  .cases h
 .rename_i e;split at h
  .rename_i x ex;cases es:x.st with
   |none=>rw[es]at h;cases h
   |some d=>rw[es]at h;cases h;exact(DE.ite (d:=d) (ihc c g ρ a4 e) (λz=>by cases z) λ_=>(ihb c g ρ x ex).toE es).eq (by simp)
  .cases h
 .cases h
theorem Tr.nil:∀{X:Cx},Tr X .nil (.a []):=by intro _;refine⟨λΓ G=>?_,λ_ _ _ _ _ _ h=>nomatch h⟩;intro c g ρ rs h;simp only[Us]at h;cases h;exact .nil
theorem Tr.cons:∀{X:Cx}{a' b':Ex}{a:ai}{es:List ai}(hs:a9 (a::es) X.env=(a4,ay a X.env)::a9 es X.env),Tr X a' (.e a)->Tr X b' (.a es)->Tr X (.cons a' b') (.a (a::es)):=by
 intro _ _ _ _ _ hs q0 q1;refine⟨λΓ G=>?_,λΓ G=>?_⟩
 .have iha:=q0.m Γ G;have ihb:=q1.m Γ G;intro c g ρ rs h;simp only[Ua,consW]at h;split at h
  .rename_i x xs ex exs;cases h;exact .cons hs (iha c g ρ x ex) (ihb c g ρ xs exs)
  .cases h
 .skip
  intro c g ρ y h;rw[er]at h;split at h
  .rename_i x ex;cases h;exact DXA.head (q0.x Γ G c g ρ _ ex) hs
  split at h
  .rename_i r ez;exact DXA.tail (q0.m Γ G c g ρ r ez).toT (q1.x Γ G c g ρ y h) hs
  .cases h
theorem Tr.tup:∀{X:Cx}{es':Ex}{es:List ai}{n:Nat}{p:aJ},Tr X es' (.a es)->Tr X (.tup es') (.e (.Tuple es n p)):=by
 intro _ _ _ _ _ q0;refine⟨λΓ G=>?_,λ_ _ _ _ _ _ h=>nomatch h⟩;have iha:=q0.m Γ G;intro c g ρ r h;simp only[jkj,Yt]at h;split at h
 .rename_i rs ers;split at h
  .rename_i ds hds;obtain⟨z,q⟩:=jw h;cases q;exact DE.tup (n:=0) ((iha c g ρ rs ers).toA hds) (zc z)
  .cases h
 .cases h
theorem Tr.lst:∀{X:Cx}{es':Ex}{es:List ai}{p:aJ},Tr X es' (.a es)->Tr X (.lst es') (.e (.List es p)):=by
 intro _ _ _ _ q0;refine⟨λΓ G=>?_,λ_ _ _ _ _ _ h=>nomatch h⟩;have iha:=q0.m Γ G;intro c g ρ r h;simp only[jko,Zd]at h;split at h
 .rename_i rs ers;split at h
  .rename_i ds hds;obtain⟨z,q⟩:=jw h;cases q;exact DO.lst ((iha c g ρ rs ers).toA hds) (zc z)
  .cases h
 .cases h
theorem Tr.ix:∀{X:Cx}{a' b':Ex}{a b:ai}{p:aJ}(hs:Ys b),Tr X a' (.e a)->Tr X b' (.e b)->Tr X (.ix a' b') (.e (.Subscript a b p)):=by
 intro _ _ _ _ _ _ hs q0 q1;refine⟨λΓ G=>?_,λΓ G c g ρ y h σ H Q R k=>(Wl Nq peS peS hs).to (q0.x Γ G c g ρ y (by rw[er]at h;exact h) σ H _ R k)⟩;have iha:=q0.m Γ G;have ihb:=q1.m Γ G;intro c g ρ r h;simp only[jmh,ixW]at h;split at h
 .rename_i x y ex ey;split at h
  .rename_i s l i hx hy;cases z:atI l i with
   |none=>rw[z]at h;cases h
   |some d=>rw[z]at h;cases h;exact DE.ixM ((iha c g ρ x ex).toM hx) (hy▸(ihb c g ρ y ey).toT) z hs
  .rename_i i hx hy;split at h
   .rename_i y' ed;split at h
    .rename_i hl;cases z:atI y'.cps.toList i with
     |none=>rw[z]at h;cases h
     |some d=>rw[z]at h;cases h;exact DE.ixC (ed▸(iha c g ρ x ex).toT) (hy▸(ihb c g ρ y ey).toT) (zc hl) z hs
    .cases h
   .cases h
  .cases h
 .cases h
theorem Tr.oN:∀{X:Cx},Tr X .nil (.o a5):=by intro _;refine⟨λΓ G=>?_,λ_ _ _ _ _ _ _=>trivial⟩;intro c g ρ o h;simp only[Us,Z3]at h;cases h;exact DP.none
theorem Tr.oS:∀{X:Cx}{a':Ex}{a:ai},Tr X a' (.e a)->Tr X (.cons a' .nil) (.o (a3 a)):=by
 intro _ _ _ q0;refine⟨λΓ G=>?_,λ_ _ _ _ _ _ _=>trivial⟩;have iha:=q0.m Γ G;intro c g ρ o h;simp only[Ua,Us,consW]at h;split at h
 .rename_i x xs ex exs;cases exs;simp only[Z3]at h;split at h
  .rename_i i ei;cases h;exact DP.some (ei▸(iha c g ρ x ex).toT)
  .cases h
 .cases h
theorem Tr.sl:∀{X:Cx}{a' l' h':Ex}{a:ai}{lo hi:Option ai}{p p2:aJ},Tr X a' (.e a)->Tr X l' (.o lo)->Tr X h' (.o hi)->Tr X (.sl a' l' h') (.e (.Subscript a (.Slice lo hi a5 p2) p)):=by
 intro _ _ _ _ _ _ _ _ _ q0 q1 q2;refine⟨λΓ G=>?_,λ_ _ _ _ _ _ h=>nomatch h⟩;have iha:=q0.m Γ G;have ihl:=q1.m Γ G;have ihh:=q2.m Γ G;intro c g ρ r h;simp only[jmf]at h;split at h
 .rename_i x l hh ex el eh;split at h
  .rename_i ds e;cases h;exact DO.sliceM ((iha c g ρ x ex).toM e) (ihl c g ρ l el) (ihh c g ρ hh eh)
  .rename_i ds e;split at h
   .cases h
   .rename_i z;cases h;exact DE.sliceM ((iha c g ρ x ex).toM e) (ihl c g ρ l el) (ihh c g ρ hh eh) z
  .split at h
   .rename_i y' ed;obtain⟨z,q⟩:=jw h;cases q;exact DE.sliceS (ed▸(iha c g ρ x ex).toT) (ihl c g ρ l el) (ihh c g ρ hh eh) (zc z)
   .cases h
 .cases h
theorem Tr.call:∀{X:Cx}{f:af}{es':Ex}{e:ai}{es:List ai}{p p2:aJ}(hg:Gl X f) (hdb:(f==k92)=a4) (he:a9 (e::es) X.env=(a4,ay e X.env)::a9 es X.env) (hpl:(aO p2 (a9 es X.env)).any (·.1)=a4),Tr X es' (.a (e::es))->Tr X (.call f es') (.e (.Call (.Name f p) (e::es) [] p2)):=by
 intro _ f _ _ _ _ _ hg hdb he hpl q0;refine⟨λΓ G=>?_,λΓ G=>?_⟩
 .have iha:=q0.m Γ G;intro c g ρ r h;simp only[jia,Jx]at h;split at h
  .rename_i rs ers;exact j49 g hg hdb he hpl (iha c g ρ rs ers) h
  .cases h
 .skip
  intro c g ρ y h;rw[er]at h;split at h
  .rename_i x ex;split at h
   .rename_i hz;cases h;obtain⟨d,hd⟩:=Xn.mp hz;obtain⟨fa,hfa,hk⟩:=c.fn _ d hd;exact DX.args (q0.x Γ G c g ρ _ ex) hg hdb hfa hk he hpl
   .cases h
  split at h
  .rename_i rs ers;split at h
   .rename_i z ez;split at h
    .rename_i hz;cases h;have q:=g f (rs.map Rk.d);rw[ez]at q;obtain⟨d,hd⟩:=Xn.mp hz;obtain⟨_,o,ho⟩:=c.ec _ d hd;exact DX.call q (q0.m Γ G c g ρ rs ers).toT ⟨rfl,rfl⟩ (W.mg_of c.kin c.ns ho) hg hdb he hpl
    .cases h
   .cases h
  .cases h
theorem Tr.max1:∀{X:Cx}{es':Ex}{e:ai}{p p2:aJ}(hq:X.calm=a7)(hg:Gl X "max"),Tr X es' (.a [e])->Tr X (.blt .max es') (.e (.Call (.Name "max" p) [e] [] p2)):=by
 intro _ _ _ _ _ hq hg q0;refine⟨λΓ G=>?_,λ_ _ _ _ _ _ h=>nomatch h⟩;have iha:=q0.m Γ G;intro c g ρ r h;simp only[Ri,vo]at h;split at h
 .rename_i rs ers;cases e:Vb _ rs with
  |none=>rw[e]at h;cases h
  |some x=>rw[e]at h;cases h;exact Z4 (f:=.max) c (λ_=>hq) hg e (iha c g ρ rs ers)
 .cases h
theorem Tr.len:∀{X:Cx}{es':Ex}{e:ai}{p p2:aJ}(hg:Gl X "len"),Tr X es' (.a [e])->Tr X (.blt .len es') (.e (.Call (.Name "len" p) [e] [] p2)):=by
 intro _ _ _ _ _ hg q0;refine⟨λΓ G=>?_,λ_ _ _ _ _ _ h=>nomatch h⟩;have iha:=q0.m Γ G;intro c g ρ r h;simp only[Ri,vo]at h;split at h
 .rename_i rs ers;cases e:Vb _ rs with
  |none=>rw[e]at h;cases h
  |some x=>rw[e]at h;cases h;exact Z4 (f:=.len) c (λz=>by rcases z with z|z|z|z|z<;>cases z) hg e (iha c g ρ rs ers)
 .cases h
theorem Tr.all:∀{X:Cx}{es':Ex}{e:ai}{p p2:aJ}(hq:X.calm=a7)(hg:Gl X "all"),Tr X es' (.a [e])->Tr X (.blt .all es') (.e (.Call (.Name "all" p) [e] [] p2)):=by
 intro _ _ _ _ _ hq hg q0;refine⟨λΓ G=>?_,λ_ _ _ _ _ _ h=>nomatch h⟩;have iha:=q0.m Γ G;intro c g ρ r h;simp only[Ri,vo]at h;split at h
 .rename_i rs ers;cases e:Vb _ rs with
  |none=>rw[e]at h;cases h
  |some x=>rw[e]at h;cases h;exact Z4 (f:=.all) c (λ_=>hq) hg e (iha c g ρ rs ers)
 .cases h
theorem Tr.tuple:∀{X:Cx}{es':Ex}{e:ai}{p p2:aJ}(hg:Gl X "tuple"),Tr X es' (.a [e])->Tr X (.blt .tuple es') (.e (.Call (.Name "tuple" p) [e] [] p2)):=by
 intro _ _ _ _ _ hg q0;refine⟨λΓ G=>?_,λ_ _ _ _ _ _ h=>nomatch h⟩;have iha:=q0.m Γ G;intro c g ρ r h;simp only[Ri,vo]at h;split at h
 .rename_i rs ers;cases e:Vb _ rs with
  |none=>rw[e]at h;cases h
  |some x=>rw[e]at h;cases h;exact Z4 (f:=.tuple) c (λz=>by rcases z with z|z|z|z|z<;>cases z) hg e (iha c g ρ rs ers)
 .cases h
theorem Tr.list:∀{X:Cx}{es':Ex}{e:ai}{p p2:aJ}(hg:Gl X "list"),Tr X es' (.a [e])->Tr X (.blt .list es') (.e (.Call (.Name "list" p) [e] [] p2)):=by
 intro _ _ _ _ _ hg q0;refine⟨λΓ G=>?_,λ_ _ _ _ _ _ h=>nomatch h⟩;have iha:=q0.m Γ G;intro c g ρ r h;simp only[Ri,vo]at h;split at h
 .rename_i rs ers;cases e:Vb _ rs with
  |none=>rw[e]at h;cases h
  |some x=>rw[e]at h;cases h;exact Z4 (f:=.list) c (λz=>by rcases z with z|z|z|z|z<;>cases z) hg e (iha c g ρ rs ers)
 .cases h
theorem Tr.sum:∀{X:Cx}{es':Ex}{e:ai}{p p2:aJ}(hq:X.calm=a7)(hg:Gl X "sum"),Tr X es' (.a [e])->Tr X (.blt .sum es') (.e (.Call (.Name "sum" p) [e] [] p2)):=by
 intro _ _ _ _ _ hq hg q0;refine⟨λΓ G=>?_,λ_ _ _ _ _ _ h=>nomatch h⟩;have iha:=q0.m Γ G;intro c g ρ r h;simp only[Ri,vo]at h;split at h
 .rename_i rs ers;cases e:Vb _ rs with
  |none=>rw[e]at h;cases h
  |some x=>rw[e]at h;cases h;exact Z4 (f:=.sum) c (λ_=>hq) hg e (iha c g ρ rs ers)
 .cases h
theorem Tr.intc:∀{X:Cx}{es':Ex}{e:ai}{p p2:aJ}(hg:Gl X "int"),Tr X es' (.a [e])->Tr X (.blt .int es') (.e (.Call (.Name "int" p) [e] [] p2)):=by
 intro _ _ _ _ _ hg q0;refine⟨λΓ G=>?_,λ_ _ _ _ _ _ h=>nomatch h⟩;have iha:=q0.m Γ G;intro c g ρ r h;simp only[Ri,vo]at h;split at h
 .rename_i rs ers;cases e:Vb _ rs with
  |none=>rw[e]at h;cases h
  |some x=>rw[e]at h;cases h;exact Z4 (f:=.int) c (λz=>by rcases z with z|z|z|z|z<;>cases z) hg e (iha c g ρ rs ers)
 .cases h
theorem Tr.join:∀{X:Cx}{a':Ex}{a:ai}{sep:af}{n:Nat}{p0 p1 p2:aJ}(hbase:aL (.Constant (.str sep) n p0) "join" X.env (ay (.Constant (.str sep) n p0) X.env)=ay (.Constant (.str sep) n p0) X.env) (hfew:((aO p2 (a9 [a] X.env)).all (λx=>!x.1)&&(bB p2 (aY [] X.env)).all (λx=>x.1.isSome)&&decide (([a]:List ai).length+([]:List aZ).length+(if ([]:List aZ).isEmpty then 0 else 1)<30))=a7) (hline:(p1.endLine==p2.line)=a7) (hs:a9 [a] X.env=(a4,ay a X.env)::a9 [] X.env),Tr X a' (.e a)->Tr X (.join sep a') (.e (.Call (.Attribute (.Constant (.str sep) n p0) "join" p1) [a] [] p2)):=by
 intro _ _ _ _ _ _ _ _ hbase hfew hline hs q0;refine⟨λΓ G=>?_,λ_ _ _ _ _ _ h=>nomatch h⟩;have iha:=q0.m Γ G;intro c g ρ r h;simp only[ji6,O3]at h;split at h
 .rename_i x ex;split at h
  .rename_i l el;split at h
   .rename_i ts et;obtain⟨z,q⟩:=jw h;cases q;have:=La et;subst this;exact DE.join (el▸(iha c g ρ x ex).toT) z hfew hbase hline hs
   .cases h
  .cases h
 .cases h
theorem Tr.tix:∀{X:Cx}{a' b':Ex}{a e:ai}{p1 p2:aJ}(hbase:aL a "index" X.env (ay a X.env)=ay a X.env) (hfew:((aO p2 (a9 [e] X.env)).all (λx=>!x.1)&&(bB p2 (aY [] X.env)).all (λx=>x.1.isSome)&&decide (([e]:List ai).length+([]:List aZ).length+(if ([]:List aZ).isEmpty then 0 else 1)<30))=a7) (hline:(p1.endLine==p2.line)=a7) (hs:a9 [e] X.env=(a4,ay e X.env)::a9 [] X.env),Tr X a' (.e a)->Tr X b' (.e e)->Tr X (.tix a' b') (.e (.Call (.Attribute a "index" p1) [e] [] p2)):=by
 intro _ _ _ _ _ _ _ hbase hfew hline hs q0 q1;refine⟨λΓ G=>?_,λ_ _ _ _ _ _ h=>nomatch h⟩;have iha:=q0.m Γ G;have ihb:=q1.m Γ G;intro c g ρ r h;simp only[jkk,Dj]at h;split at h
 .rename_i x y ex ey;split at h
  .rename_i l el;by_cases z:D.depL l<=90/\y.d.dep<=90
   .rw[if_pos z]at h;cases e:ixD y.d l with
    |none=>rw[e]at h;cases h
    |some k=>rw[e]at h;cases h;exact DE.indexT c.un' (el▸(iha c g ρ x ex).toT) (ihb c g ρ y ey).toT nofun nofun e hbase hfew hline hs
   .rw[if_neg z]at h;cases h
  .rename_i l el;by_cases z:D.depL l<=90/\y.d.dep<=90
   .rw[if_pos z]at h;cases e:ixD y.d l with
    |none=>rw[e]at h;cases h
    |some k=>rw[e]at h;cases h;exact DE.indexL c.un' (el▸(iha c g ρ x ex).toT) (ihb c g ρ y ey).toT nofun nofun e hbase hfew hline hs
   .rw[if_neg z]at h;cases h
  .cases h
 .cases h
theorem Tr.enum:∀{X:Cx}{a':Ex}{a:ai}{es:List ai}{n:Nat}{p p2 pt:aJ}(hg:Gl X "enumerate") (hs:a9 [a] X.env=[(a4,ay a X.env)]),Tr X a' (.e a)->Tr X (.enum a') (.i (.Tuple es n pt) (.Call (.Name "enumerate" p) [a] [] p2)):=by
 intro _ _ _ _ _ _ _ _ hg hs q0;refine⟨λΓ G=>?_,λ_ _ _ _ _ _ _=>trivial⟩;have iha:=q0.m Γ G;intro c g ρ ds h;simp only[ji8,O4]at h;split at h
 .rename_i x ex;have ha:=iha c g ρ x ex;split at h
  .rename_i l e1;cases h;exact DI.enum a7 (ha.toE e1) (c.bt _ (by decide)) hg hs
  .rename_i l e1;cases h;exact DI.enum a4 (ha.toE e1) (c.bt _ (by decide)) hg hs
  .cases h
 .cases h
theorem Tr.count:∀{X:Cx}{a' es':Ex}{a e:ai}{p1 p2:aJ}(hbase:aL a "count" X.env (ay a X.env)=ay a X.env) (hfew:((aO p2 (a9 [e] X.env)).all (λx=>!x.1)&&(bB p2 (aY [] X.env)).all (λx=>x.1.isSome)&&decide (([e]:List ai).length+([]:List aZ).length+(if ([]:List aZ).isEmpty then 0 else 1)<30))=a7) (hline:(p1.endLine==p2.line)=a7),Tr X a' (.e a)->Tr X es' (.a [e])->Tr X (.meth .count a' es') (.e (.Call (.Attribute a "count" p1) [e] [] p2)):=by
 intro _ _ _ _ _ _ _ hbase hfew hline q0 q1;refine⟨λΓ G=>?_,λ_ _ _ _ _ _ h=>nomatch h⟩;have iha:=q0.m Γ G;have ihb:=q1.m Γ G;intro c g ρ r h;simp only[ji5,O2]at h;split at h
 .rename_i x rs ex ers;obtain⟨y,e,hy,hs⟩:=(ihb c g ρ rs ers).one;subst e;simp only[j3p]at h;split at h
  .rename_i l el;split at h
   .rename_i z;cases h;exact DE.countT c.un' (el▸(iha c g ρ x ex).toT) hy.toT nofun nofun hbase hfew hline hs
   .cases h
  .rename_i l el;split at h
   .rename_i z;cases h;exact DE.countL c.un' (el▸(iha c g ρ x ex).toT) hy.toT nofun nofun hbase hfew hline hs
   .cases h
  .cases h
 .cases h
theorem Tr.callV:∀{X:Cx}{i:Nat}{y:af}{es':Ex}{e:ai}{es:List ai}{p p2:aJ} (hN:X.N[i]?=a3 y) (hv:Vis X.env.scope y) (hd:(y==k92)=a4) (hcd:(y==k93)=a4) (he:a9 (e::es) X.env=(a4,ay e X.env)::a9 es X.env) (hpl:(aO p2 (a9 es X.env)).any (·.1)=a4),Tr X es' (.a (e::es))->Tr X (.callV i es') (.e (.Call (.Name y p) (e::es) [] p2)):=by
 intro _ i y es' e es p p2 hN hv hd hcd he hpl q0;refine⟨λΓ G=>?_,λ_ _ _ _ _ _ h=>nomatch h⟩;have iha:=q0.m Γ G;intro c g ρ r h;simp only[je1,Wa]at h;split at h
 .rename_i x cs rs ei ers;split at h
  .rename_i ds eds;split at h
   .rename_i nf;have q:=g (ju x) (cs++ds);cases z:Γ (ju x) (cs++ds) with
    |lval d =>rw[z]at h q;cases h;obtain⟨k,hr,lk⟩:=q x rfl;exact DE.callV lk hr (U8 ei) ((iha c g ρ rs ers).toA eds) nf ⟨rfl,rfl⟩ hN hv hd hcd he hpl
    |val d=>rw[z]at h;cases h
    |fresh l=>rw[z]at h;cases h
    |err x=>rw[z]at h;cases h
    |mval d k=>rw[z]at h;cases h
    |merr x=>rw[z]at h;cases h
    |no=>rw[z]at h;cases h
   .cases h
  .cases h
 .cases h
theorem Tr.dget:∀{X:Cx}{a' b':Ex}{a b:ai}{p:aJ}(hs:Ys b),Tr X a' (.e a)->Tr X b' (.e b)->Tr X (.dget a' b') (.e (.Subscript a b p)):=by
 intro _ _ _ _ _ _ hs q0 q1;refine⟨λΓ G=>?_,λΓ G=>?_⟩
 .have iha:=q0.m Γ G;have ihb:=q1.m Γ G;intro c g ρ r h;simp only[ji9,O5]at h;split at h
  .rename_i ks ds y ex ey;split at h
   .rename_i k ek;cases e:vq ks ds k with
    |none=>rw[e]at h;cases h
    |some d=>rw[e]at h;cases h;exact DE.dget c.un' ((iha c g ρ (.e (.dct ks ds)) ex).toE rfl) (Fx ek▸(ihb c g ρ y ey).toT) e hs
   .cases h
  .cases h
 .skip
  intro c g ρ y h;rw[er]at h;split at h
  .rename_i x ex;cases h;exact λσ H Q R k=>(Wl Nq peS peS hs).to (q0.x Γ G c g ρ _ ex σ H _ R k)
  split at h
  .rename_i r ez;exact λσ H Q R k=>(Wl Nq peS peS hs).to ((q0.m Γ G c g ρ r ez).toT σ H _ R λv H1 g1 e1=>q1.x Γ G c g ρ y h σ H1 _ (R.grow g1) (k.mono g1))
  .cases h
theorem Tr.dvals:∀{X:Cx}{a':Ex}{a:ai}{p p1 p2 pos:aJ}(hq:X.calm=a7)(hg:Gl X "tuple") (hbase:aL a "values" X.env (ay a X.env)=ay a X.env) (hline:(p1.endLine==p2.line)=a7) (hs2:a9 [.Call (.Attribute a "values" p1) [] [] p2] X.env=[(a4,ay (.Call (.Attribute a "values" p1) [] [] p2) X.env)]),Tr X a' (.e a)->Tr X (.dvals a') (.e (.Call (.Name "tuple" p) [.Call (.Attribute a "values" p1) [] [] p2] [] pos)):=by
 intro _ _ _ _ _ _ _ hq hg hbase hline hs2 q0;refine⟨λΓ G=>?_,λ_ _ _ _ _ _ h=>nomatch h⟩;have iha:=q0.m Γ G;intro c g ρ r h;simp only[je0,Ma]at h;split at h
 .rename_i ks ds ex;cases h;exact DE.tupVals ((iha c g ρ (.e (.dct ks ds)) ex).toE rfl) hq (c.bt _ (by decide)) hg hbase hline hs2
 .cases h
theorem Tr.minT:∀{X:Cx}{a':Ex}{a:ai}{p pos:aJ}(hq:X.calm=a7)(hg:Gl X "min") (hs:a9 [a] X.env=[(a4,ay a X.env)]),Tr X a' (.e a)->Tr X (.minT a') (.e (.Call (.Name "min" p) [a] [] pos)):=by
 intro _ _ _ _ _ hq hg hs q0;refine⟨λΓ G=>?_,λ_ _ _ _ _ _ h=>nomatch h⟩;have iha:=q0.m Γ G;intro c g ρ r h;simp only[ji4,O1]at h;split at h
 .rename_i x ex;split at h
  .rename_i l el;split at h
   .rename_i ks ek;cases e:ks[aV (Jv ks) (ks.length-1)]? with
    |none=>rw[e]at h;cases h
    |some k =>rw[e]at h;cases h;exact DT.minT c.un' hq (c.bt _ (by decide)) hg (by have z:=(iha c g ρ x ex).toT;rw[el,Ik ek]at z;exact z) e hs
   .split at h
    .rename_i ks ek;cases e:ks[aV (Dr ks) (ks.length-1)]? with
     |none=>rw[e]at h;cases h
     |some k =>rw[e]at h;cases h;exact DT.minP c.un' hq (c.bt _ (by decide)) hg (by have z:=(iha c g ρ x ex).toT;rw[el,j22 ek]at z;exact z) e hs
    .cases h
  .cases h
 .cases h
theorem Tr.c0:∀{X:Cx},Tr X .nil (.c []):=by intro _;refine⟨λΓ G=>?_,λ_ _ _ _ _ _ _=>trivial⟩;intro c g ρ;exact⟨λ_=>DTs.nil,λy k h=>by simp only[Us]at h;cases h⟩
theorem Tr.c1:∀{X:Cx}{c':Ex}{c:ai},Tr X c' (.b c)->Tr X (.cons c' .nil) (.c [c]):=by
 intro _ _ _ q0;refine⟨λΓ G=>?_,λ_ _ _ _ _ _ _=>trivial⟩;have iha:=q0.m Γ G;intro c g ρ;refine⟨λh=>?_,λy k h hk=>DTs.one ?_⟩
 .simp only[Ua,Us,consW]at h;split at h<;>cases h
 .simp only[Ua,Us,consW]at h;split at h
  .rename_i x xs ex exs;cases exs;cases h;exact iha c g ρ k (by rw[ex];simp only[truth,hk])
  .cases h
theorem Tr.comp1:∀{X:Cx}{i:Nat}{y:af}{py p:aJ}{elt' it' c':Ex}{elt it:ai}{ifs:List ai} {scope:b9} (hq:X.calm=a7) (hi:X.N[i]?=a3 y) (hl:Yg scope y=a7) (hkind:scope.kind=.function) (hok:J7 scope X.env X.N [i]=a7) (hs:∀x,aF it X.env x=pure x),Tr X it' (.i (.Name y py) it)->(∀C s H fp pn,Tr (cCx X scope C s H fp pn) elt' (.e elt))->(∀C s H fp pn,Tr (cCx X scope C s H fp pn) c' (.c ifs))->Tr X (.comp [i] elt' it' c') (.e (.ListComp elt [⟨.Name y py,it,ifs,0⟩] scope p)):=by
 intro _ _ _ _ _ _ _ _ _ _ _ _ hq hi hl hkind hok hs q0 q1 q2;refine⟨λΓ G=>?_,λ_ _ _ _ _ _ h=>nomatch h⟩;have ihi:=q0.m Γ G;have ihe:=λC s H fp pn=>(q1 C s H fp pn).m Γ G;have ihc:=λC s H fp pn=>(q2 C s H fp pn).m Γ G;intro c g ρ r h;obtain⟨l,e,q⟩:=Wz hq c (λρ ds z=>ihi c g ρ ds z) hkind hok hs (λρ d ρ2 hb hun=>by
  simp only[za]at hb
  cases hb
  have hu:=hun _ (xg.mpr rfl)
  exact⟨_,jj,Wk.set hu,Qq hu,λC s H fp pn=>DG.name _ c.nd hi (Yo hl) (W5 hl)⟩)
  (λC s H fp pn ρ r z=>ihe C s H fp pn c.comp g.comp ρ r z) (λC s H fp pn ρ=>ihc C s H fp pn c.comp g.comp ρ) h
 subst e;exact q
theorem Tr.exc:∀{X:Cx}{i:Nat}{y:af}{py p:aJ}{elt' it':Ex}{elt it:ai}{scope:b9} (hq:X.calm=a7) (hi:X.N[i]?=a3 y) (hl:Yg scope y=a7) (hkind:scope.kind=.function) (hok:J7 scope X.env X.N [i]=a7) (hs:∀x,aF it X.env x=pure x),Tr X it' (.i (.Name y py) it)->(∀C s H fp pn xe,Tr { cCx X scope C s H fp pn with xe:=xe } elt' (.e elt))->Tr X (.exc (.comp [i] elt' it' .nil)) (.e (.ListComp elt [⟨.Name y py,it,[],0⟩] scope p)):=by
 intro _ i _ _ _ _ _ _ _ _ hq hi hl hkind hok hs q0 q1;refine⟨λΓ G=>?_,λΓ G=>?_⟩
 .have ihi:=q0.m Γ G;have ihe:=λC s H fp pn xe=>(q1 C s H fp pn xe).m Γ G;intro c g ρ r h;rw[jb0]at h;obtain⟨l,e,q⟩:=Wz hq c (λρ ds z=>ihi c g ρ ds z) hkind hok hs (λρ d ρ2 hb hun=>by
   simp only[za]at hb
   cases hb
   have hu:=hun _ (xg.mpr rfl)
   exact⟨_,jj,Wk.set hu,Qq hu,λC s H fp pn=>DG.name _ c.nd hi (Yo hl) (W5 hl)⟩)
   (λC s H fp pn ρ r z=>ihe C s H fp pn (λ_ _=>False) c.comp g.comp ρ r z) (λC s H fp pn ρ=>⟨λ_=>DTs.nil,λy k h=>by simp only[jb0,j7j,Us]at h;cases h⟩) h
  subst e;exact q
 .skip
  intro c g ρ y h;rw[er]at h;split at h
  .rename_i d ds ez;split at h
   .rename_i hfree;have hun:ρ[i]?=a3 Sl.un:=jd2 hfree i (xg.mpr rfl);obtain⟨env0,out0,L,h1,h2,h3⟩:=c.fr;exact DX.comp [i] (q0.m Γ G c g ρ (d::ds) ez) (λC s H fp pn xe po=>⟨ρ.set i (.val d),DG.name _ c.nd hi (Yo hl) (W5 hl),Qq hun,(q1 C s H fp pn xe).x Γ G (c.compX po) g.compX _ y (by rw[jj];exact h)⟩) (λj hj=>by rw[xg.mp hj];exact hun) h1 h2 h3 hq hkind hok hs
   .cases h
  .cases h
theorem Tr.comp2:∀{X:Cx}{i j:Nat}{x y:af}{px py pt p:aJ}{n:Nat}{elt' it' c':Ex}{elt it:ai} {ifs:List ai} {scope:b9} (hq:X.calm=a7) (hij:i≠j) (hi:X.N[i]?=a3 x) (hj:X.N[j]?=a3 y) (hl:Yg scope x=a7) (hl':Yg scope y=a7) (hkind:scope.kind=.function) (hok:J7 scope X.env X.N [i,j]=a7) (hs:∀x,aF it X.env x=pure x),Tr X it' (.i (.Tuple [.Name x px,.Name y py] n pt) it)->(∀C s H fp pn,Tr (cCx X scope C s H fp pn) elt' (.e elt))->(∀C s H fp pn,Tr (cCx X scope C s H fp pn) c' (.c ifs))->Tr X (.comp [i,j] elt' it' c') (.e (.ListComp elt [⟨.Tuple [.Name x px,.Name y py] n pt,it,ifs,0⟩] scope p)):=by
 intro _ i j _ _ _ _ _ _ _ _ _ _ _ _ _ _ hq hij hi hj hl hl' hkind hok hs q0 q1 q2;refine⟨λΓ G=>?_,λ_ _ _ _ _ _ h=>nomatch h⟩;have ihi:=q0.m Γ G;have ihe:=λC s H fp pn=>(q1 C s H fp pn).m Γ G;have ihc:=λC s H fp pn=>(q2 C s H fp pn).m Γ G;intro c g ρ r h;obtain⟨l,e,q⟩:=Wz hq c (λρ ds z=>ihi c g ρ ds z) hkind hok hs (λρ d ρ2 hb hun=>by
  simp only[za]at hb
  split at hb
  .rename_i a b
   cases hb
   have hu:=hun _ (xr ..)
   have hu':=hun _ (kj _ (xg.mpr rfl))
   have h1:(ρ.set i (.val a))[j]?=a3 Sl.un:=by rw[qe hij];exact hu'
   exact⟨(ρ.set i (.val a)).set j (.val b),by rw[jj,jj];rfl,λK σ H R=>Wk.set hu K σ H (Wk.set h1 K σ H R),by rw[Qq h1,Qq hu],
    λC s H fp pn=>DG.pair _ _ hij c.nd hi hj (Yo hl) (Yo hl') (W5 hl) (W5 hl') hq⟩
  .cases hb)
  (λC s H fp pn ρ r z=>ihe C s H fp pn c.comp g.comp ρ r z) (λC s H fp pn ρ=>ihc C s H fp pn c.comp g.comp ρ) h
 subst e;exact q
theorem Tr.seq:∀{X:Cx}{a':Ex}{tg a:ai},Tr X a' (.e a)->Tr X (.seq a') (.i tg a):=by
 intro _ _ _ _ q0;refine⟨λΓ G=>?_,λ_ _ _ _ _ _ _=>trivial⟩;have iha:=q0.m Γ G;intro c g ρ ds h;simp only[jkl,Ox]at h;split at h
 .rename_i l e;cases h;exact DI.lst (iha c g ρ _ e)
 .rename_i l e;cases h;exact DI.tup (iha c g ρ _ e)
 .rename_i l e;cases h;exact DI.lst (DO.toE (iha c g ρ _ e))
 .rename_i y e;obtain⟨z,q⟩:=jw h;cases q;exact DI.str (iha c g ρ _ e).toT z
 .cases h
theorem Tr.range:∀{X:Cx}{es':Ex}{tg:ai}{es:List ai}{p p2:aJ}(hg:Gl X "range"),Tr X es' (.a es)->Tr X (.range es') (.i tg (.Call (.Name "range" p) es [] p2)):=by
 intro _ _ _ _ _ _ hg q0;refine⟨λΓ G=>?_,λ_ _ _ _ _ _ _=>trivial⟩;have iha:=q0.m Γ G;intro c g ρ ds h;simp only[jdz,Rw]at h;split at h
 .rename_i x ex;have q:=iha c g ρ _ ex;cases q with|cons hs hx t =>
  cases t;split at h
  .rename_i n en;obtain⟨z,q⟩:=jw h;cases q;exact DI.range1 (en▸hx.toT) (c.bt _ (by decide)) z.1 z.2 hg hs
  .cases h
 .rename_i x y ex;have q:=iha c g ρ _ ex;cases q with|cons hs hx t =>
  cases t with|cons hs2 hy t2 =>
  cases t2;split at h
  .rename_i m n em en;obtain⟨z,q⟩:=jw h;cases q;exact DI.range2 (em▸hx.toT) (en▸hy.toT) (c.bt _ (by decide)) z.1 z.2.1 z.2.2.1 z.2.2.2 hg (by rw[hs,hs2];rfl) hs2 hs
  .cases h
 .cases h
theorem Tr.p0:∀{X:Cx},Tr X .nil (.p []):=by intro _;refine⟨λΓ G=>?_,λ_ _ _ _ _ _ _=>trivial⟩;intro c g ρ rs h;simp only[Us]at h;cases h;trivial
theorem Tr.pC:∀{X:Cx}{y:af}{n:Nat}{p:aJ}{b':Ex}{es:List ai},Tr X b' (.p es)->Tr X (.cons (.lit (.str y)) b') (.p (.Constant (.str y) n p::es)):=by
 intro _ _ _ _ _ _ q0;refine⟨λΓ G=>?_,λ_ _ _ _ _ _ _=>trivial⟩;have ihb:=q0.m Γ G;intro c g ρ rs h;simp only[Ua,Fq,consW]at h;split at h
 .rename_i x xs ex exs;cases h;cases ex;refine⟨λz hz=>?_,ihb c g ρ xs exs⟩;have hz:(if _ then a3 _ else a5)=a3 z:=hz;split at hz
  .cases hz;exact DE.str
  .cases hz
 .cases h
theorem Tr.pR:∀{X:Cx}{a' b':Ex}{a:ai}{p:aJ}{es:List ai},Tr X a' (.e a)->Tr X b' (.p es)->Tr X (.cons (.rpr a') b') (.p (.FormattedValue a 114 a5 p::es)):=by
 intro _ a' b' _ _ _ q0 q1;refine⟨λΓ G=>?_,λ_ _ _ _ _ _ _=>trivial⟩;have iha:=q0.m Γ G;have ihb:=q1.m Γ G;intro c g ρ rs h;rw[Ua]at h;unfold consW at h;split at h
 .rename_i x xs ex exs;cases h;obtain⟨z,w,ez,ew,hl,rfl⟩:=jes ex;refine⟨λy hy=>?_,ihb c g ρ xs exs⟩;have hy:(if (aH w).length<=10000 then a3 (aH w)else a5)=a3 y:=hy;rw[if_pos (Xi hl (by decide))]at hy;cases hy;exact DE.fmtR (ew▸(iha c g ρ z ez).toT) (Xi hl (by decide))
 .cases h
theorem Tr.upr:∀{X:Cx}{a':Ex}{a:ai}{p1 p2:aJ}(hbase:aL a "upper" X.env (ay a X.env)=ay a X.env) (hline:(p1.endLine==p2.line)=a7),Tr X a' (.e a)->Tr X (.upr a') (.e (.Call (.Attribute a "upper" p1) [] [] p2)):=by
 intro _ _ _ _ _ hbase hline q0;refine⟨λΓ G=>?_,λ_ _ _ _ _ _ h=>nomatch h⟩;have iha:=q0.m Γ G;intro c g ρ r h;simp only[jki,Ih]at h;split at h
 .rename_i x ex;split at h
  .rename_i y ey;split at h
   .rename_i hl;cases h;exact DE.upper (ey▸(iha c g ρ x ex).toT) hl hbase hline
   .cases h
  .cases h
 .cases h
theorem Tr.pF:∀{X:Cx}{a' b':Ex}{a:ai}{p:aJ}{es:List ai}(hq:X.calm=a7),Tr X a' (.e a)->Tr X b' (.p es)->Tr X (.cons a' b') (.p (.FormattedValue a (-1) a5 p::es)):=by
 intro _ _ _ _ _ _ hq q0 q1;refine⟨λΓ G=>?_,λ_ _ _ _ _ _ _=>trivial⟩;have iha:=q0.m Γ G;have ihb:=q1.m Γ G;intro c g ρ rs h;simp only[Ua,consW]at h;split at h
 .rename_i x xs ex exs;cases h;exact⟨λy hy=>DE.fmt (c.gd hq) c.un' (iha c g ρ x ex).toT hy,ihb c g ρ xs exs⟩
 .cases h
theorem Tr.fst:∀{X:Cx}{es':Ex}{a b:ai}{es:List ai}{p:aJ},Tr X es' (.p (a::b::es))->Tr X (.fst es') (.e (.JoinedStr (a::b::es) p)):=by
 intro _ _ _ _ _ _ q0;refine⟨λΓ G=>?_,λ_ _ _ _ _ _ h=>nomatch h⟩;have ih:=q0.m Γ G;intro c g ρ r h;simp only[jkq,Uv]at h;split at h
 .rename_i rs ers;split at h
  .rename_i hl;cases e:zj rs with
   |none=>rw[e]at h;cases h
   |some ys =>rw[e]at h;cases h;obtain⟨z1,z2⟩:=(ih c g ρ rs ers).all e;exact DE.joined z1 (Od e) (by rw[z2];exact hl)
  .cases h
 .cases h
theorem Tr.isxV:∀{X:Cx}{i:Nat}{y:af}{p p1 p2 pos:aJ}(hN:X.N[i]?=a3 y) (hv:Vis X.env.scope y) (hd:(y==k92)=a4) (hcd:(y==k93)=a4) (hg:Gl X "isinstance") (hg2:Gl X "ValueError") (hs:a9 [.Name y p1,.Name "ValueError" p2] X.env=(a4,ay (.Name y p1) X.env)::a9 [.Name "ValueError" p2] X.env),Tr X (.isx i ["ValueError"]) (.e (.Call (.Name "isinstance" p) [.Name y p1,.Name "ValueError" p2] [] pos)):=by
 intro _ _ _ _ _ _ _ hN hv hd hcd hg hg2 hs;refine⟨λΓ G=>?_,λ_ _ _ _ _ _ h=>nomatch h⟩;intro c g ρ r h;simp only[j4j]at h;split at h
 .rename_i x e1 e2;split at h
  .rename_i hx;cases h;obtain⟨a,o,q⟩:=Bs e1;exact DE.isxV c.ea (Tt.mp hx) q (c.bt _ (by decide)) (c.bt _ (by decide)) hN hv hd hcd hg hg2 hs rfl rfl
  .cases h
 .cases h
theorem Tr.isx1:∀{X:Cx}{i:Nat}{y c:af}{p p1 p2 pos:aJ}(hc:c∈jq)(hcV:(c==("ValueError":af))=a4) (hN:X.N[i]?=a3 y) (hv:Vis X.env.scope y) (hd:(y==k92)=a4) (hcd:(y==k93)=a4) (hg:Gl X "isinstance") (hg2:Gl X c) (hdb:(c==k92)=a4) (hs:a9 [.Name y p1,.Name c p2] X.env=(a4,ay (.Name y p1) X.env)::a9 [.Name c p2] X.env),Tr X (.isx i [c]) (.e (.Call (.Name "isinstance" p) [.Name y p1,.Name c p2] [] pos)):=by
 intro _ _ _ _ _ _ _ _ hc hcV hN hv hd hcd hg hg2 hdb hs;refine⟨λΓ G=>?_,λ_ _ _ _ _ _ h=>nomatch h⟩;intro c g ρ r h;simp only[j4j]at h;split at h
 .rename_i x e1 e2;split at h
  .rename_i hx;cases h;obtain⟨a,o,q⟩:=Bs e1;obtain⟨v,hv1⟩:=c.el e2 _ hc;simp only[cj,lD,hcV,fh,i7];exact DE.isx1 c.ea (Tt.mp hx) q (c.bt _ (by decide)) hc hv1 (W.mg_of c.kin c.ns hv1) hN hv hd hcd hg hg2 hdb hs rfl rfl
  .cases h
 .cases h
theorem Tr.isx2:∀{X:Cx}{i:Nat}{y c1 c2:af}{m:Nat}{p p1 p2 p3 p4 pos:aJ}(hc1:c1∈jq)(hc2:c2∈jq) (hcV1:(c1==("ValueError":af))=a4) (hcV2:(c2==("ValueError":af))=a4) (hN:X.N[i]?=a3 y) (hv:Vis X.env.scope y) (hd:(y==k92)=a4) (hcd:(y==k93)=a4) (hg:Gl X "isinstance") (hg1:Gl X c1) (hg2:Gl X c2) (hdb1:(c1==k92)=a4) (hdb2:(c2==k92)=a4) (hs:a9 [.Name y p1,.Tuple [.Name c1 p2,.Name c2 p3] m p4] X.env=(a4,ay (.Name y p1) X.env)::a9 [.Tuple [.Name c1 p2,.Name c2 p3] m p4] X.env),Tr X (.isx i [c1,c2]) (.e (.Call (.Name "isinstance" p) [.Name y p1,.Tuple [.Name c1 p2,.Name c2 p3] m p4] [] pos)):=by
 intro _ _ _ _ _ _ _ _ _ _ _ _ hc1 hc2 hcV1 hcV2 hN hv hd hcd hg hg1 hg2 hdb1 hdb2 hs;refine⟨λΓ G=>?_,λ_ _ _ _ _ _ h=>nomatch h⟩;intro c g ρ r h;simp only[j4j]at h;split at h
 .rename_i x e1 e2;split at h
  .rename_i hx;cases h;obtain⟨a,o,q⟩:=Bs e1;obtain⟨v1,hv1⟩:=c.el e2 _ hc1;obtain⟨v2,hv2⟩:=c.el e2 _ hc2;simp only[cj,lD,hcV1,hcV2,fh,i7];exact DE.isx2 c.ea (Tt.mp hx) q (c.bt _ (by decide)) hc1 hc2 hv1 hv2 (W.mg_of c.kin c.ns hv1) (W.mg_of c.kin c.ns hv2) hN hv hd hcd hg hg1 hg2 hdb1 hdb2 hs rfl rfl rfl rfl
  .cases h
 .cases h
section
variable{Γ:af->List D->Rc}{G:af->Option D}{X:Cx}
theorem sound{t:Ex}{nd:Nd}(h:Tr X t nd):Cok X G->Gok X Γ->jii Γ G X t nd:=h.m Γ G
theorem Ea{t:Ex}{nd:Nd}(h:Tr X t nd):Cok X G->Gok X Γ->∀ρ y,er Γ G t (j8 ρ)=a3 y->XM X ρ y nd:=h.x Γ G
end
inductive Px where
 |nop
 |set (i:Nat) (e:Ex) (r:Px)
 |keep (i:Nat) (r:Px)
 |ifRet (c e:Ex) (r:Px)
 |ifRai (c:Ex) (x:af) (m:Ex) (r:Px)
 |ifCal (c:Ex) (f:af) (es:Ex) (r:Px)
 |ret (e:Ex)
 |take (i:Nat) (r:Px)
 |takeE (r:Px)
 |takeIf (i:Nat) (c e:Ex) (r:Px)
 |callS (i:Nat) (f:af) (es:Ex) (r:Px)
 |appC (i:Nat) (f:af) (es:Ex) (r:Px)
 |whlA (y:af) (b r:Px)
 |ifAll (x:af) (m:Ex) (r:Px)
inductive Sx where
 |nop
 |seq (a b:Sx)
 |set (i:Nat) (e:Ex)
 |mov (i j:Nat)
 |expr (e:Ex)
 |ret (e:Ex)
 |retV (i:Nat)
 |ife (c:Ex) (a b:Sx)
 |loop (is:List Nat) (it:Ex) (body:Sx)
 |app (i:Nat) (e:Ex)
 |ext (i:Nat) (e:Ex)
 |fgt (i:Nat)
 |keep (i:Nat)
 |dcp (i j:Nat) (k e:Ex)
 |taken (h q:Nat) (a b c t:Ex)
 |unp (i j:Nat) (e:Ex)
 |unp3 (i j k:Nat) (e:Ex)
 |dmake (x t y:Nat) (it e:Ex)
 |ioN (es e:Ex)
 |retL (x:af) (is:List Nat)
 |retC (f x:af) (a b:Ex) (is:List Nat)
 |nmake (x t y:Nat) (it e1 e2:Ex)
 |pop3 (i j k w:Nat)
 |apop (i w:Nat) (e:Ex)
 |wmake (x t:Nat) (it e:Ex)
 |lent (h:Nat) (ea eb:Ex) (mid b:Sx)
 |lend (k p f:Nat) (b r:Sx)
 |px (p:Px)
 |newP (pi:Nat) (te:Ex) (p:Px)
 |raise (x:af) (e:Ex)
 |tryK (b:Sx) (i j:Nat)
 |fail
inductive So where
 |next (ρ:En)
 |ret (r:Rc)
 |brk (ρ:En)
 |cnt (ρ:En)
 |err (x:af) (ρ:En)
 |no
noncomputable def orE(o:So)(x:Option af)(ρ:En):So:=match o with
 |.no=>match x with
  |some y=>.err y ρ
  |none=>.no
 |o=>o
noncomputable def Qx(f:D->En->So):List D->En->So
 |[],ρ=>.next ρ
 |d::ds,ρ=>match f d ρ with
  |.next ρ'=>Qx f ds ρ'
  |.cnt ρ'=>Qx f ds ρ'
  |.brk ρ'=>.next ρ'
  |.ret r=>.ret r
  |.err x ρ'=>.err x ρ'
  |.no=>.no
noncomputable def j4q(c:En->Option Bool)(f:En->So):Nat->En->So
 |0,_=>.no
 |n+1,ρ=>match c ρ with
  |some a4=>.next ρ
  |some a7=>match f ρ with
   |.next ρ'=>j4q c f n ρ'
   |.cnt ρ'=>j4q c f n ρ'
   |.brk ρ'=>.next ρ'
   |.ret r=>.ret r
   |.err x ρ'=>.err x ρ'
   |.no=>.no
  |none=>.no
noncomputable def stOf:Option W->Option D
 |some (.v x)=>x.st
 |_=>a5
noncomputable def j45(f:En->Option D)(t y:Nat):List D->En->List (List Int)->List D->Option (List (List Int)×List D)
 |[],_,ks,vs=>a3 (ks,vs)
 |d::ds,ρ,ks,vs=>match d with
  |.tup l=>match intsOf l,f (ρ.set t (.val d)) with
   |some k,a3 d'=>if d'.isNon=a7 then j45 f t y ds ((ρ.set t (.val d)).set y (.val d')) ks vs
    else if ks.contains k=a4/\ks.length<aq then j45 f t y ds ((ρ.set t (.val d)).set y (.val d')) (ks++[k]) (vs++[d'])else a5
   |_,_=>a5
  |_=>a5
noncomputable def Vu(f1 f2:En->Option D)(x t y:Nat):List D->En->List (List Int)->List Int->Option (List (List Int)×List Int)
 |[],_,ks,ns=>a3 (ks,ns)
 |d::ds,ρ,ks,ns=>match d with
  |.tup l=>match intsOf l,f1 (ρ.set t (.val d)) with
   |some k,a3 d1=>match f2 (((ρ.set t (.val d)).set y (.val d1)).set x (.val (.dct ks (ns.map D.int)))) with
    |some (.int n)=>if ks.contains k=a4/\ks.length<aq then Vu f1 f2 x t y ds ((ρ.set t (.val d)).set y (.val d1)) (ks++[k]) (ns++[n])else a5
    |_=>a5
   |_,_=>a5
  |_=>a5
noncomputable def jad(f2:En->Option D)(x t:Nat):List D->En->List (List Int)->List Int->Option (List (List Int)×List Int)
 |[],_,ks,ns=>a3 (ks,ns)
 |d::ds,ρ,ks,ns=>match d with
  |.tup l=>match intsOf l,f2 ((ρ.set t (.val d)).set x (.val (.dct ks (ns.map D.int)))) with
   |some k,a3 (.int n)=>if ks.contains k=a4/\ks.length<aq then jad f2 x t ds (ρ.set t (.val d)) (ks++[k]) (ns++[n])else a5
   |_,_=>a5
  |_=>a5
noncomputable def Qn(ρ:En):List Nat->Option (List D)
 |[]=>a3 []
 |i::is=>match ρ[i]?,Qn ρ is with
  |some (.val d),a3 ds=>a3 (d::ds)
  |_,_=>a5
noncomputable def Rr(i:Nat)(w:Option W)(ρ:En):So:=match w with
 |some (.v (.o l))=>.next (ρ.set i (.own l))
 |some (.v x)=>match x.st with
  |some d=>.next (ρ.set i (.val d))
  |none=>.no
 |_=>.no
noncomputable def retS(w:Option W):So:=match w with
 |some (.v (.o l))=>.ret (.fresh l)
 |some (.v x)=>.ret (.val x.d)
 |_=>.no
noncomputable def Ms(s:Option Sv):So:=match s with
 |some (.own l)=>.ret (.fresh l)
 |some (.val d)=>.ret (.val d)
 |_=>.no
noncomputable def j03(i j:Nat)(s:Option Sv)(ρ:En):So:=match s with
 |some (.own l)=>if i=j then .no else .next ((ρ.set j .un).set i (.own l))
 |some (.val d)=>.next (ρ.set i (.val d))
 |_=>.no
noncomputable def Cd(w:Option W)(ρ:En):So:=match w with
 |some (.v _)=>.next ρ
 |_=>.no
noncomputable def Cq(i:Nat)(s:Option Sv)(w:Option W)(ρ:En):So:=match s,w with
 |some (.own l),a3 (.v x)=>match x.st with
  |some d=>if l.length<aq then .next (ρ.set i (.own (l++[d])))else .no
  |none=>.no
 |_,_=>.no
noncomputable def Dz(i:Nat)(s:Option Sv)(w:Option W)(ρ:En):So:=match s,w with
 |some (.own l),a3 (.v (.o m))=>if jm (l.length+m.length)=a7 then .next (ρ.set i (.own (l++m)))else .no
 |_,_=>.no
noncomputable def Wh(x:af)(w:Option W)(d:Option D)(ρ:En):So:=match w,d with
 |some (.v _),a3 _=>.err x ρ
 |_,_=>.no
noncomputable def jl0(i j:Nat)(d:Option D)(ρ:En):So:=match d with
 |some (.tup [d,d'])=>if i=j then .no else .next ((ρ.set i (.val d)).set j (.val d'))
 |_=>.no
noncomputable def jil(i j k:Nat)(d:Option D)(ρ:En):So:=match d with
 |some (.lst [a,b,c])=>.next (((ρ.set i (.val a)).set j (.val b)).set k (.val c))
 |_=>.no
noncomputable def Nk(i:Nat)(v:Option Sv)(ρ:En):So:=match v with
 |some (.own l)=>.next (ρ.set i (.val (.lst l)))
 |some (.val _)=>.next ρ
 |_=>.no
noncomputable def jma(i j:Nat)(v:Option Sv)(k e:Option W)(ρ:En):So:=if i≠j/\i<ρ.length then match v with
  |some (.val (.sct kvs))=>match k,e with
   |some (.v y),a3 (.v x)=>match y.d,x.d with
    |.str z,.int n=>if kvs.length<aq then .next (ρ.set i (.val (.sct (dput kvs z n))))else .no
    |_,_=>.no
   |_,_=>.no
  |_=>.no
 else .no
noncomputable def N7(x:af)(v:Option (List D)):So:=match v with
 |some ds=>.ret (.val (.fn x ds))
 |none=>.no
noncomputable def Kv(r:Rc):So:=match r with
 |.val d=>if noFn d=a7 then .ret (.val d)else .no
 |_=>.no
noncomputable def N8(Γ:af->List D->Rc)(f x:af)(v:Option (List D))(a b:Option W):So:=match v,a,b with
 |some ds,a3 (.v u),a3 (.v v)=>Kv (Γ f [u.d,v.d,.fn x ds])
 |_,_,_=>.no
noncomputable def popS(i j k w:Nat)(s:Option Sv)(ρ:En):So:=match s with
 |some (.own l)=>match l.getLast? with
  |some (.tup [a,b,c])=>.next ((((ρ.set w (.own l.dropLast)).set i (.val a)).set j (.val b)).set k (.val c))
  |_=>.no
 |_=>.no
noncomputable def jkf(i w:Nat)(s t:Option Sv)(x:Option W)(ρ:En):So:=match s,t,x with
 |some (.own l),a3 (.own m),a3 (.v y)=>match y.st with
  |some (.int z)=>match ixN m.length z with
   |some k=>match m[k]? with
    |some d=>if i≠w/\l.length<aq/\m.length<=1000000 then .next ((ρ.set w (.own (m.eraseIdx k))).set i (.own (l++[d])))else .no
    |none=>.no
   |none=>.no
  |_=>.no
 |_,_,_=>.no
noncomputable def Rb:Sx->List Nat
 |.seq a b=>Rb a++Rb b
 |.set i _=>[i]
 |.ife _ a b=>Rb a++Rb b
 |_=>[]
noncomputable def Rv(Γ:af->List D->Rc)(G:af->Option D):Sx->En->Option En
 |.nop,ρ=>a3 ρ
 |.seq a b,ρ=>match Rv Γ G a ρ with
  |some r=>Rv Γ G b r
  |none=>a5
 |.set i e,ρ=>match stOf (ev Γ G e ρ) with
  |some d=>a3 (ρ.set i (.val d))
  |none=>a5
 |.ife c a b,ρ=>match truth (ev Γ G c ρ) with
  |some a7=>Rv Γ G a ρ
  |some a4=>Rv Γ G b ρ
  |none=>a5
 |_,_=>a5
noncomputable def plainS:Sv->Bool
 |.val _=>a7
 |.un=>a7
 |_=>a4
noncomputable def jar(s:Option Sv)(t:Bool):Sv:=match s with
 |some (.val d)=>if t=a7 then(if Z6 d=a7 then .val d else .un)else .val d
 |_=>.un
noncomputable def jjk(h:Nat)(is:List Nat)(ρ r:En):En:=(aE ρ.length).map λj=>if j=h then .un else if j∈is then jar r[j]? a7 else jar ρ[j]? a4
noncomputable def jjj(h:Nat)(is:List Nat)(ρ:En)(a:Option D)(b:Option W)(m:En->Option En)(k:En->So):So:=match a,b with
 |some d0,a3 (.v (.o lb))=>match m (ρ.set h (.val (.lst [d0,.lst lb]))) with
  |some r=>if h<ρ.length/\h∉is/\r.length=ρ.length/\r.all plainS=a7 then k (jjk h is ρ r)else .no
  |none=>.no
 |_,_=>.no
noncomputable def jaq(m:D->En->Option En):List D->En->Option En
 |[],ρ=>a3 ρ
 |d::ds,ρ=>match m d ρ with
  |some ρ'=>jaq m ds ρ'
  |none=>a5
noncomputable def bindM(is:List Nat)(m:En->Option En)(d:D)(ρ:En):Option En:=match za is d ρ with
 |some ρ2=>m ρ2
 |none=>a5
noncomputable def jjl(k p f:Nat)(is:List Nat)(s:Option Sv)(ρ:En)(m:D->En->Option En)(r:En->So):So:=match s with
 |some (.own l)=>if jz l=a7/\f∉is/\f≠k/\f≠p then match jaq m (Qj l) ρ with
   |some ρ'=>r (ρ'.set f (.own []))
   |none=>.no
  else .no
 |_=>.no
inductive Sm where
 |next (ρ:En) (k:Nat)
 |ret (d:D) (k:Nat)
 |err (x:af) (ρ:En)
 |no
noncomputable def j4p(f g:En->Nat->Sm)(y:af)(ls:List af):Nat->En->Nat->Sm
 |0,_,_=>.no
 |n+1,ρ,k=>if ls.getD k "" = y then g ρ k else match f ρ k with
  |.next ρ' k'=>j4p f g y ls n ρ' k'
  |.ret d k'=>.ret d k'
  |.err x ρ'=>.err x ρ'
  |.no=>.no
noncomputable def j4a(Γ:af->List D->Rc)(ls:List af)(f:af)(a:Option W)(k:Nat):Rc:=match a with
 |some (.a rs)=>match v6 rs with
  |some ds=>Γ (mq f) (.lst (ls.map D.str)::.int (k:Int)::ds)
  |none=>.no
 |_=>.no
noncomputable def jll(i:Nat)(w:Option W)(ρ:En)(r:En->Sm):Sm:=match w with
 |some (.v (.o l))=>r (ρ.set i (.own l))
 |some (.v x)=>match x.st with
  |some d=>r (ρ.set i (.val d))
  |none=>.no
 |_=>.no
noncomputable def jjq(i:Nat)(s:Option Sv)(ρ:En)(r:En->Sm):Sm:=match s with
 |some (.own l)=>r (ρ.set i (.val (.lst l)))
 |some (.val _)=>r ρ
 |_=>.no
noncomputable def jez(w:Option W)(k:Nat):Sm:=match w with
 |some (.v (.o _))=>.no
 |some (.v x)=>.ret x.d k
 |_=>.no
noncomputable def jf2(x:af)(w:Option W)(d:Option D)(ρ:En):Sm:=match w,d with
 |some (.v _),a3 _=>.err x ρ
 |_,_=>.no
noncomputable def ifP(c:Option Bool)(a b:Sm):Sm:=match c with
 |some a7=>a
 |some a4=>b
 |none=>.no
noncomputable def j9v(G:af->Option D)(r:Rc)(ρ:En)(f:D->Nat->Sm):Sm:=match r with
 |.mval d k=>f d k
 |.merr x=>if (G (bang x)).isSome=a7 then .err x ρ else .no
 |_=>.no
noncomputable def jmd(i:Nat)(s:Option Sv)(ρ:En)(d:D)(r:En->Sm):Sm:=match s with
 |some (.own l)=>if l.length<aq then r (ρ.set i (.own (l++[d])))else .no
 |_=>.no
noncomputable def jlu(s:Option Sv)(r:Sm):Sm:=match s with
 |some (.own _)=>r
 |_=>.no
noncomputable def jkz(i:Nat)(d:Option D)(ρ:En)(r:En->Sm):Sm:=match d with
 |some d=>r (ρ.set i (.val d))
 |none=>.no
noncomputable def Jz(fu:Nat)(Γ:af->List D->Rc)(G:af->Option D)(ls:List af):Px->En->Nat->Sm
 |.nop,ρ,k=>.next ρ k
 |.set i e r,ρ,k=>jll i (ev Γ G e ρ) ρ λρ=>Jz fu Γ G ls r ρ k
 |.keep i r,ρ,k=>jjq i ρ[i]? ρ λρ=>Jz fu Γ G ls r ρ k
 |.ifRet c e r,ρ,k=>ifP (truth (ev Γ G c ρ)) (jez (ev Γ G e ρ) k) (Jz fu Γ G ls r ρ k)
 |.ifRai c x m r,ρ,k=>ifP (truth (ev Γ G c ρ)) (jf2 x (ev Γ G m ρ) (G (bang x)) ρ) (Jz fu Γ G ls r ρ k)
 |.ifCal c f es r,ρ,k=>ifP (truth (ev Γ G c ρ)) (j9v G (j4a Γ ls f (ev Γ G es ρ) k) ρ Sm.ret) (Jz fu Γ G ls r ρ k)
 |.ret e,ρ,k=>jez (ev Γ G e ρ) k
 |.take i r,ρ,k=>Jz fu Γ G ls r (ρ.set i (.val (.str (ls.getD k "")))) (k+1)
 |.takeE r,ρ,k=>Jz fu Γ G ls r ρ (k+1)
 |.takeIf i c e r,ρ,k=>ifP (truth (ev Γ G c ρ)) (Jz fu Γ G ls r (ρ.set i (.val (.str (ls.getD k "")))) (k+1)) (jkz i (stOf (ev Γ G e ρ)) ρ λρ=>Jz fu Γ G ls r ρ k)
 |.callS i f es r,ρ,k=>j9v G (j4a Γ ls f (ev Γ G es ρ) k) ρ λd k'=>Jz fu Γ G ls r (ρ.set i (.val d)) k'
 |.appC i f es r,ρ,k=>jlu ρ[i]? (j9v G (j4a Γ ls f (ev Γ G es ρ) k) ρ λd k'=>jmd i ρ[i]? ρ d λρ=>Jz fu Γ G ls r ρ k')
 |.whlA y b r,ρ,k=>j4p (λρ k=>Jz fu Γ G ls b ρ k) (λρ k=>Jz fu Γ G ls r ρ k) y ls fu ρ k
 |.ifAll x m r,ρ,k=>if ls.length<=k then Jz fu Γ G ls r ρ k else jf2 x (ev Γ G m ρ) (G (bang x)) ρ
noncomputable def pxS(l k:Option Sv)(r:List af->Nat->Sm):So:=match l,k with
 |some (.val (.lst l)),a3 (.val (.int k))=>match strsOf l with
  |some ls=>if 0<=k then match r ls k.toNat with
    |.ret d k'=>.ret (.mval d k')
    |.err x _=>.ret (.merr x)
    |_=>.no
   else .no
  |none=>.no
 |_,_=>.no
noncomputable def newS(b:Bool)(w:Option W)(g:Option D)(r:List af->Sm):So:=match b,w,g with
 |true,a3 (.v x),a3 _=>match x.d with
  |.str t=>if t.length<=100000/\jm (cL t " ").length=a7 then match r (cL t " ") with
    |.next ρ' _=>.next ρ'
    |.ret d _=>.ret (.val d)
    |.err x ρ'=>.err x ρ'
    |.no=>.no
   else .no
  |_=>.no
 |_,_,_=>.no
noncomputable def run(fu:Nat)(Γ:af->List D->Rc)(G:af->Option D):Sx->En->So
 |.nop,ρ=>.next ρ
 |.seq a b,ρ=>match run fu Γ G a ρ with
  |.next ρ'=>run fu Γ G b ρ'
  |o=>o
 |.set i e,ρ=>orE (Rr i (ev Γ G e ρ) ρ) (er Γ G e ρ) ρ
 |.mov i j,ρ=>j03 i j ρ[j]? ρ
 |.expr e,ρ=>orE (Cd (ev Γ G e ρ) ρ) (er Γ G e ρ) ρ
 |.ret e,ρ=>orE (retS (ev Γ G e ρ)) (er Γ G e ρ) ρ
 |.retV i,ρ=>Ms ρ[i]?
 |.ife c a b,ρ=>match truth (ev Γ G c ρ) with
  |some a7=>run fu Γ G a ρ
  |some a4=>run fu Γ G b ρ
  |none=>.no
 |.loop is it body,ρ=>match ev Γ G it (frz it ρ) with
  |some (.i ds)=>Qx (λd ρ=>match za is d ρ with
   |some ρ2=>run fu Γ G body ρ2
   |none=>.no) ds (frz it ρ)
  |_=>.no
 |.app i e,ρ=>Cq i ρ[i]? (ev Γ G e ρ) ρ
 |.ext i e,ρ=>Dz i ρ[i]? (ev Γ G e ρ) ρ
 |.fgt i,ρ=>.next (ρ.set i .un)
 |.keep i,ρ=>Nk i ρ[i]? ρ
 |.px p,ρ=>pxS ρ[0]? ρ[1]? λls k=>Jz fu Γ G ls p (.exc rfN::ρ.drop 2) k
 |.newP pi te p,ρ=>newS (decide (pi<ρ.length)) (ev Γ G te ρ) (G (qm "Pieces")) λls=>Jz fu Γ G ls p (ρ.set pi (.exc rfN)) 0
 |.lend k p f b r,ρ=>jjl k p f (Rb b) ρ[f]? ρ (bindM [k,p] (Rv Γ G b)) (run fu Γ G r)
 |.lent h ea eb mid b,ρ=>jjj h (Rb mid) ρ (stOf (ev Γ G ea ρ)) (ev Γ G eb ρ) (Rv Γ G mid) (run fu Γ G b)
 |.dcp i j k e,ρ=>jma i j ρ[j]? (ev Γ G k (ρ.set i .un)) (ev Γ G e (ρ.set i .un)) ρ
 |.taken h q a b e t,ρ=>if h≠q/\h<ρ.length then match ev Γ G a ρ,ev Γ G b ρ with
   |some (.v (.o la)),a3 (.v (.o lb))=>match ev Γ G e (ρ.set h (.val (.lst [.lst la,.lst lb]))) with
    |some (.v x)=>match x.st with
     |some d=>if Z6 d=a7/\truth (ev Γ G t ((ρ.set h (.val (.lst [.lst la,.lst lb]))).set q (.val d)))=a3 a4 then .next ((ρ.set h (.val (.lst [.lst la.reverse,.lst []]))).set q (.val d))else .no
     |none=>.no
    |_=>.no
   |_,_=>.no
  else .no
 |.unp i j e,ρ=>jl0 i j (stOf (ev Γ G e ρ)) ρ
 |.unp3 i j k e,ρ=>jil i j k (stOf (ev Γ G e ρ)) ρ
 |.dmake x t y it e,ρ=>if x<ρ.length/\t<ρ.length/\y<ρ.length/\x≠t/\x≠y/\t≠y then match ev Γ G it (ρ.set x .un) with
   |some (.i ds)=>match j45 (λρ=>stOf (ev Γ G e ρ)) t y ds (ρ.set x .un) [] [] with
    |some r=>.ret (.val (.dct r.1 r.2))
    |none=>.no
   |_=>.no
  else .no
 |.ioN es e,ρ=>match G (qm "_law_plan"),ev Γ G es ρ,ev Γ G e ρ with
  |some _,a3 (.a [x,y,z]),a3 (.v (.o [.int n]))=>match x.d,y.d,z.d with
   |.lst ls,.int eL,.int k=>match strsOf ls with
    |some ws=>if 0<=k/\k<=5/\ws.length<=60 then .ret (.val (Uh k.toNat ws eL n).1)else .no
    |none=>.no
   |_,_,_=>.no
  |_,_,_=>.no
 |.retL x is,ρ=>N7 x (Qn ρ is)
 |.retC f x a b is,ρ=>N8 Γ f x (Qn ρ is) (ev Γ G a ρ) (ev Γ G b ρ)
 |.nmake x t y it e1 e2,ρ=>if x<ρ.length/\t<ρ.length/\y<ρ.length/\x≠t/\x≠y/\t≠y then match ev Γ G it (ρ.set x .un) with
   |some (.i ds)=>match Vu (λρ=>stOf (ev Γ G e1 ρ)) (λρ=>stOf (ev Γ G e2 ρ)) x t y ds (ρ.set x .un) [] [] with
    |some r=>.ret (.val (.dct r.1 (r.2.map D.int)))
    |none=>.no
   |_=>.no
  else .no
 |.wmake x t it e,ρ=>if x<ρ.length/\t<ρ.length/\x≠t then match ev Γ G it (ρ.set x .un) with
   |some (.i ds)=>match jad (λρ=>stOf (ev Γ G e ρ)) x t ds (ρ.set x .un) [] [] with
    |some r=>.ret (.val (.dct r.1 (r.2.map D.int)))
    |none=>.no
   |_=>.no
  else .no
 |.apop i w e,ρ=>jkf i w ρ[i]? ρ[w]? (ev Γ G e ρ) ρ
 |.pop3 i j k w,ρ=>popS i j k w ρ[w]? ρ
 |.raise x e,ρ=>Wh x (ev Γ G e ρ) (G (bang x)) ρ
 |.tryK b i j,ρ=>match run fu Γ G b ρ with
  |.err x ρ'=>match G (bang x) with
   |some (.lst l)=>.next (((ρ'.set j (.exc x)).set i (.own l)).set j .un)
   |_=>.no
  |o=>o
 |.fail,_=>.no
section
variable{Γ:af->List D->Rc}{G:af->Option D}{ρ:En}{fu:Nat}
theorem jb3{a b}:run fu Γ G (.seq a b) ρ=(match run fu Γ G a ρ with
  |.next ρ'=>run fu Γ G b ρ'
  |o=>o):=(rfl)
theorem jb2{i e}:run fu Γ G (.set i e) ρ=(orE (Rr i (ev Γ G e ρ) ρ) (er Γ G e ρ) ρ):=(rfl)
theorem jkt{i j}:run fu Γ G (.mov i j) ρ=(j03 i j ρ[j]? ρ):=(rfl)
theorem jih{e}:run fu Γ G (.expr e) ρ=(orE (Cd (ev Γ G e ρ) ρ) (er Γ G e ρ) ρ):=(rfl)
theorem jb4{e}:run fu Γ G (.ret e) ρ=(orE (retS (ev Γ G e ρ)) (er Γ G e ρ) ρ):=(rfl)
theorem jic{i}:run fu Γ G (.retV i) ρ=(Ms ρ[i]?):=(rfl)
theorem jku{c a b}:run fu Γ G (.ife c a b) ρ=(match truth (ev Γ G c ρ) with
  |some a7=>run fu Γ G a ρ
  |some a4=>run fu Γ G b ρ
  |none=>.no):=(rfl)
theorem jif{is it body}:run fu Γ G (.loop is it body) ρ=(match ev Γ G it (frz it ρ) with
  |some (.i ds)=>Qx (λd ρ=>match za is d ρ with
   |some ρ2=>run fu Γ G body ρ2
   |none=>.no) ds (frz it ρ)
  |_=>.no):=(rfl)
theorem jkw{i e}:run fu Γ G (.app i e) ρ=(Cq i ρ[i]? (ev Γ G e ρ) ρ):=(rfl)
theorem jkv{i e}:run fu Γ G (.ext i e) ρ=(Dz i ρ[i]? (ev Γ G e ρ) ρ):=(rfl)
theorem jig{i}:run fu Γ G (.keep i) ρ=(Nk i ρ[i]? ρ):=(rfl)
theorem jid{x is}:run fu Γ G (.retL x is) ρ=(N7 x (Qn ρ is)):=(rfl)
theorem jie{f x a b is}:run fu Γ G (.retC f x a b is) ρ=(N8 Γ f x (Qn ρ is) (ev Γ G a ρ) (ev Γ G b ρ)):=(rfl)
theorem j2x{x t y it e1 e2}:run fu Γ G (.nmake x t y it e1 e2) ρ=(if x<ρ.length/\t<ρ.length/\y<ρ.length/\x≠t/\x≠y/\t≠y then match ev Γ G it (ρ.set x .un) with
   |some (.i ds)=>match Vu (λρ=>stOf (ev Γ G e1 ρ)) (λρ=>stOf (ev Γ G e2 ρ)) x t y ds (ρ.set x .un) [] [] with
    |some r=>.ret (.val (.dct r.1 (r.2.map D.int)))
    |none=>.no
   |_=>.no
  else .no):=(rfl)
theorem je2{x e}:run fu Γ G (.raise x e) ρ=(Wh x (ev Γ G e ρ) (G (bang x)) ρ):=(rfl)
theorem jib{b i j}:run fu Γ G (.tryK b i j) ρ=(match run fu Γ G b ρ with
  |.err x ρ'=>match G (bang x) with
   |some (.lst l)=>.next (((ρ'.set j (.exc x)).set i (.own l)).set j .un)
   |_=>.no
  |o=>o):=(rfl)
end
def j4m(X:Cx):List (af×aa)->List Nat->Prop
 |[],is=>is=[]
 |p::cl,is=>∃(i:Nat)(r:List Nat),is=i::r/\X.N[i]?=a3 p.1/\X.env.scope.names.lookup p.1=a3 .cell/\X.env.cells.lookup p.1=a3 p.2/\X.fn p.1=a7/\j4m X cl r
theorem Cj{X:Cx}{ρ:Rho}:∀{cl:List (af×aa)} {is:List Nat} {ds:List D},j4m X cl is->Qn (j8 ρ) is=a3 ds->Zx X ρ cl ds
 |[],_,ds,h,e=>by cases h;cases e;rfl
 |p::cl,_,ds,⟨i,r,ei,h1,h2,h3,h4,l⟩,e=>by
  subst ei;unfold Qn at e;split at e
  .rename_i d ds' e1 e2;cases e;exact⟨d,ds',i,rfl,h1,h2,h3,h4,U8 e1,Cj l e2⟩
  .cases e
inductive Ns where
 |s (st:aP)
 |ss (sts:List aP)
def TMs(X:Cx)(b:Sx)(ss:List aP):Prop:=∀(Γ:af->List D->Rc)(G:af->Option D),Cok X G->Gok X Γ->∀(ρ:Rho)(r:En),Rv Γ G b (j8 ρ)=a3 r->∃ρ',j8 ρ'=r/\DMs X ρ ρ' (Rb b) ss/\Kp ρ ρ' (Rb b)
def TMt(X:Cx)(b:Sx)(full tl:List aP):Prop:=∀(Γ:af->List D->Rc)(G:af->Option D),Cok X G->Gok X Γ->∀(ρ:Rho)(r:En),Rv Γ G b (j8 ρ)=a3 r->∃ρ',j8 ρ'=r/\DMt X ρ ρ' (Rb b) full tl
def ji2(pi:Nat)(o:Ob)(s:Sm)(P:Pm):Prop:=match s with
 |.next ρ' k=>∀ρ2,j8 ρ2=ρ'->(∃ob,ρ2[pi]?=a3 (.raw o.a ob rfN))->P.nx ρ2 k
 |.ret d k=>P.rt d k
 |.err x ρ'=>∀ρ2,j8 ρ2=ρ'->P.ex x ρ2
 |.no=>False
def MP(X:Cx)(pi:Nat)(p:Px)(sts:List aP):Prop:=∀(fu:Nat)(Γ:af->List D->Rc)(G:af->Option D),Cok X G->Gok X Γ->∀C,X.mg "Pieces" = a3 (.ref C)->PcX X C->∀(o:Ob)(ls:List af)(ρ:Rho)(k:Nat)(P:Pm),
 (∃ob,ρ[pi]?=a3 (.raw o.a ob rfN))->ji2 pi o (Jz fu Γ G ls p (j8 ρ) k) P->MSs X C o ls ρ k sts P
noncomputable def Rt.rc:Rt->Rc
 |.val d=>.val d
 |.fresh l=>.fresh l
def Ur(o:So)(P:Po):Prop:=match o with
 |.next ρ'=>∀ρ2,j8 ρ2=ρ'->P.nx ρ2
 |.ret r=>∀x:Rt,x.rc=r->P.rt x
 |.brk ρ'=>∀ρ2,j8 ρ2=ρ'->P.bk ρ2
 |.cnt ρ'=>∀ρ2,j8 ρ2=ρ'->P.ct ρ2
 |.err x ρ'=>∀ρ2,j8 ρ2=ρ'->P.ex x ρ2
 |.no=>False
theorem Ud{o:So}{x:Option af}{ρ:En}{P:Po}(h:Ur (orE o x ρ) P):Ur o P\/∃y,x=a3 y/\∀ρ2,j8 ρ2=ρ->P.ex y ρ2:=by
 cases o with
 |no =>
  cases x with
  |none=>exact h.elim
  |some y=>exact .inr ⟨y,rfl,h⟩
 |_=>exact .inl h
def jb5(fu:Nat)(Γ:af->List D->Rc)(G:af->Option D)(X:Cx)(t:Sx):Ns->Prop
 |.s st=>∀ρ P,Ur (run fu Γ G t (j8 ρ)) P->DS X ρ st P
 |.ss sts=>∀ρ P,Ur (run fu Γ G t (j8 ρ)) P->DSs X ρ sts P
section
variable{K:k8y}{ρ:Rho}{σ:St}{H:Hp}{i j:Nat}{a:aa}{l:List D}
theorem Rep.move(R:Rep K ρ σ H)(hj:ρ[j]?=a3 (.own a l))(hij:i≠j):Rep K ((ρ.set j .un).set i (.own a l)) (σ.set i (a3 (.ref a))) H:=by
 have s1:(owns (ρ.set j .un)).Sublist (owns ρ):=ji rfl;have na:a∉owns (ρ.set j .un):=λz=>by
  obtain⟨k,l',q⟩:=Vs z;rcases getElem?_set_of q with ⟨_,z,_⟩|⟨n,q⟩
  .cases z
  .exact n (Yw R.nd hj q)
 obtain⟨nd,sub⟩:=Q4 (ds:=l) (i:=i) (s1.nodup R.nd) na;have g:j4 (del H (owns ρ)) (del H (owns ((ρ.set j .un).set i (.own a l)))):=vy λb hb=>by
  rcases sub b hb with e|z
  .exact e▸Z1 hj
  .exact s1.subset z
 refine⟨by simp[R.len],λk d' h=>?_,λk b ds' h=>?_,nd,λk b o x h=>?_,R.tb⟩
 .rcases getElem?_set_of h with ⟨rfl,z,_⟩|⟨n,h⟩
  .cases z
  .rcases getElem?_set_of h with ⟨rfl,z,_⟩|⟨n2,h⟩
   .cases z
   .obtain⟨u,q,e⟩:=R.val k d' h;exact⟨u,by rw[qe n];exact q,e.mono g⟩
 .rcases getElem?_set_of h with ⟨rfl,z,hl⟩|⟨n,h⟩
  .cases z;obtain⟨_,xs,hx,en⟩:=R.own j a l hj;exact⟨Zg (by rw[R.len];simpa using hl),xs,hx,en.mono g⟩
  .rcases getElem?_set_of h with ⟨rfl,z,_⟩|⟨n2,h⟩
   .cases z
   .obtain⟨q,xs,hx,en⟩:=R.own k b ds' h;exact⟨by rw[qe n];exact q,xs,hx,en.mono g⟩
 .rcases getElem?_set_of h with ⟨rfl,z,_⟩|⟨n,h⟩
  .cases z
  .rcases getElem?_set_of h with ⟨rfl,z,_⟩|⟨n2,h⟩
   .cases z
   .obtain⟨q,h⟩:=R.raw k b o x h;exact⟨by rw[qe n];exact q,h.mono g⟩
end
section
variable{X:Cx}{ρ:Rho}{e a b c:ai}{es:List ai}{st:aP}{rest sa sb body:List aP}{P:Po}{d:D}{ds ds':List D}{pos p p1 p2 p3:aJ}{x y:af}{i j:Nat}
theorem DS.freeze(i:Nat){l:aa}(h:ρ[i]?=a3 (.own l ds))(h2:DS X (ρ.set i (.val (.lst ds))) st P):DS X ρ st P:=λσ H E R q =>h2 σ H E (R.freeze h) (q.step (.drop λb hb=>(ji rfl).subset hb))
theorem DS.mov{l:aa}(hk:ρ[j]?=a3 (.own l ds))(hij:i≠j)(h:P.nx ((ρ.set j .un).set i (.own l ds)))(hN:X.N.Nodup)(hi:X.N[i]?=a3 x)(hj:X.N[j]?=a3 y)(hx:Loc X.env.scope x)
  (hf:X.fn x=a7\/X.env.scope.names.lookup x=a3 .local) (hv:Vis X.env.scope y) (hd:(y==k92)=a4) (hcd:(y==k93)=a4):DS X ρ (.Assign [.Name x p] (.Name y p1) pos) P:=λσ H E R q=>by
 obtain⟨hs,xs,m,en⟩:=R.own j l ds hk;refine(W7 hN hi hx (Jk hj hv hd hcd) rfl hf).to ⟨_,hs,q.nx _ _ H h (R.move hk hij) (.drop λb hb=>?_)⟩;have s1:(owns (ρ.set j .un)).Sublist (owns ρ):=ji rfl;have na:l∉owns (ρ.set j .un):=λz=>by
  obtain⟨k,l',q⟩:=Vs z;rcases getElem?_set_of q with ⟨_,z,_⟩|⟨n,q⟩
  .cases z
  .exact n (Yw R.nd hk q)
 rcases(Q4 (ds:=ds) (i:=i) (s1.nodup R.nd) na).2 b hb with z|z
 .exact z▸Z1 hk
 .exact s1.subset z
theorem DS.setCf{ρf:Rho}{tg elt iter:ai}{ifs:List ai}{scope:b9}{spos:aJ}(i:Nat)(cs:List Nat)(pr:D->Bool)(g:D->D)(hfr:∀K σ H,Rep K ρ σ H->Rep K ρf σ H)(hno:ρf=ρ\/jz ((ds.filter pr).map g)=a7)(hi:DI X ρf tg iter ds)
  (hb:∀C s H fp pn,∀d∈ds,∃ρ2,DG (cCx X scope C s H fp pn) ρf tg d ρ2/\Wk ρ2 ρf/\owns ρ2=owns ρf/\DTs (cCx X scope C s H fp pn) ρ2 ifs (pr d)/\(pr d=a7->DE (cCx X scope C s H fp pn) ρ2 elt (g d)))
  (h:∀l,P.nx (ρ.set i (.own l ((ds.filter pr).map g)))) (hN:X.N.Nodup) (hcs:∀j∈cs,ρf[j]?=a3 .un) (hsz:ds.length<=aq) (hX:X.N[i]?=a3 x) (hx:Loc X.env.scope x)
  (hf:X.fn x=a7\/X.env.scope.names.lookup x=a3 .local)
  (hsw:aS (.ListComp elt [⟨tg,iter,ifs,0⟩] scope pos) (a3 (.Name x p1)) spos.line X.env=pure a7)
  (hc:X.calm=a7) (hkind:scope.kind=.function) (hok:J7 scope X.env X.N cs=a7)
  (hs:∀x,aF iter X.env x=pure x):DS X ρ (.Assign [.Name x p1] (.ListComp elt [⟨tg,iter,ifs,0⟩] scope pos) spos) P:=λσ H E R q pins s I=>by
 have Rf:=hfr _ _ _ R;rw[exec_Assign_Name_used _ _ _ _ hsw];refine a6 (d7 (a6 ?_));show ar _ X.A (do let _ <-iV (.ListComp elt [⟨tg,iter,ifs,0⟩] scope pos) scope X.env _ (lA []) a4 (ay iter X.env) (a3 (fE (.Name x p1) X.env))) _ _ s;refine a6 (aI (iT (use:=a3 (fE (.Name x p1) X.env)) (Q:=λ_ s'=>SP X pins E .next s') rfl hs (R8 (Uz hok)) hkind (U3 hok)
  (thn (hi σ H (λJ H'=>j4 H H'/\Ub X.K (del H' (owns ρf)) J ds) Rf (λJ H' g1 ok=>⟨g1,ok⟩) pins s I) λv s1 h1=>thn h1 λitv s2 h2=>?_)) (λ_ s' hq=>aj (aj hq)) λ_ _ e=>e)
 obtain⟨it,fp,tn,J,H2,e,I2,T,st2,f2,g2,ok⟩:=h2;subst e;refine K1 (RR:=λacc C=>compPost (aw X.prog X.w) X.A X.xe (a3 (fE (.Name x p1) X.env)) (λ_ s'=>SP X pins E .next s') acc C) I2 (Rf.grow g2) T st2 f2 ok hc hkind hok hcs hsz hb ?_;intro D C xs H' s' m I' gg n m' en hm L;show ar _ X.A (fE (.Name x p1) X.env (.ref D)) _ _ _;refine lq (Rq I' hN hX hx (v:=.ref D) rfl (λs'' I'' ⟨a,sb,ha⟩=>?_) hf);have hCa:C≠a:=by
  rcases ha with e|e
  .rw[e];exact L.loc
  .exact c8 (L.cell x a e)
 have en':j5 X.K (del H' (D::owns ρ)) ((ds.filter pr).map g) xs:=by
  rcases hno with e|e
  .rw[e]at en;exact en
  .exact(en.mono jo).hide (λc hc=>by
    rcases xm.mp hc with z|z
    .rw[z];exact .inl ⟨xs,m'⟩
    .exact .inl ((R.grow (g2.trans gg)).owned c z)) e
 refine⟨m,hm.sameBut sb hCa,λh' sb'=>⟨σ.set i (a3 (.ref D)),H',I''.loose L sb',?_⟩⟩;exact q.nx _ _ H' (h D) (R.set_own (g2.trans gg) (g2.free n) m' en') (Fr0.new R (g2.trans gg) (g2.free n))
end
section
variable{fu:Nat}{Γ:af->List D->Rc}{G:af->Option D}{X:Cx}{P:Po}
theorem bind1{i:Nat}{y:af}{p:aJ}(nd:X.N.Nodup)(hi:X.N[i]?=a3 y)(hx:Loc X.env.scope y)(hf:X.fn y=a7\/X.env.scope.names.lookup y=a3 .local) :
  ∀ρ d ρ2,za [i] d (j8 ρ)=a3 ρ2->∃ρ',j8 ρ'=ρ2/\DG X ρ (.Name y p) d ρ':=λρ d ρ2 h=>by
 simp only[za]at h;cases h;exact⟨_,jj,DG.name _ nd hi hx hf⟩
theorem DS.setX{e:ai}{x y:af}{i:Nat}{p pos:aJ}{ρ:Rho}(he:DX X ρ e y)(h:P.ex y ρ)(hN:X.N.Nodup)(hi:X.N[i]?=a3 x)(hx:Loc X.env.scope x)(hs:aS e (a3 (.Name x p)) pos.line X.env=pure a4)(hf:X.fn x=a7\/X.env.scope.names.lookup x=a3 .local) :
  DS X ρ (.Assign [.Name x p] e pos) P:=λσ H E R q=>(W7 hN hi hx peS hs hf).to (he σ H _ R (q.ex y ρ σ H h R (Fr0.refl _ _)))
theorem DS.exprX{e:ai}{y:af}{pos:aJ}{ρ:Rho}(he:DX X ρ e y)(h:P.ex y ρ)(hs:aS e a5 pos.line X.env=pure a4):DS X ρ (.Expr e pos) P:=λσ H E R q =>(Mt peS hs).to (he σ H _ R (q.ex y ρ σ H h R (Fr0.refl _ _)))
theorem DS.retX{e:ai}{y:af}{pos:aJ}{ρ:Rho}(he:DX X ρ e y)(h:P.ex y ρ):DS X ρ (.Return (a3 e) pos) P:=λσ H E R q =>(Rx peS).to (he σ H _ R (q.ex y ρ σ H h R (Fr0.refl _ _)))
theorem j3s{is:List Nat}{it':Ex}{b:Sx}{it tg:ai}{body:List aP}{pos:aJ}{ρ:Rho}(hq:X.calm=a7)(c:Cok X G)(hs:∀x,aF it X.env x=pure x)
  (hb:∀ρ d ρ2,za is d (j8 ρ)=a3 ρ2->∃ρ',j8 ρ'=ρ2/\DG X ρ tg d ρ') (hi:∀ρ ds,ev Γ G it' (j8 ρ)=a3 (.i ds)->DI X ρ tg it ds)
  (ih:∀ρ P,Ur (run fu Γ G b (j8 ρ)) P->DSs X ρ body P) (h:Ur (run fu Γ G (.loop is it' b) (j8 ρ)) P):DS X ρ (.For tg it body [] pos) P:=by
 have main:∀ρf:Rho,j8 ρf=frz it' (j8 ρ)->DS X ρf (.For tg it body [] pos) P:=λρf ef=>by
  rw[jif]at h;rw[<-ef]at h;split at h
  .rename_i ds hds;generalize hf:(λd ρ=>_:D->En->So)=f at h;refine DS.for (ds:=ds) (λi ρ'=>Ur (Qx f (ds.drop i) (j8 ρ')) P) (hi ρf ds hds) (by rw[dn];exact h) (λi d ρ' hd w=>?_) (λρ' w=>?_) hq c.po hs
   .have hdr:ds.drop i=d::ds.drop (i+1):=by obtain⟨hlt,e⟩:=Xa.mp hd;rw[c7 hlt,e]
    rw[hdr,Qx]at w;have ef2:f d (j8 ρ')=match za is d (j8 ρ')with|some ρ2=>run fu Γ G b ρ2|none=>.no:=by rw[<-hf]<;>rfl
    rw[ef2]at w;cases hb2:za is d (j8 ρ') with
    |none=>rw[hb2]at w;exact w.elim
    |some ρ2 =>
     rw[hb2]at w;obtain⟨ρ3,e3,dg⟩:=hb ρ' d ρ2 hb2;refine⟨ρ3,dg,ih ρ3 _ ?_⟩;rw[e3];dsimp only at w;cases ho:run fu Γ G b ρ2 with
     |next ρ4=>rw[ho]at w;exact λρ5 e=>by rw[<-e]at w;exact w
     |cnt ρ4=>rw[ho]at w;exact λρ5 e=>by rw[<-e]at w;exact w
     |brk ρ4=>rw[ho]at w;exact w
     |ret r=>rw[ho]at w;exact w
     |err x ρ4=>rw[ho]at w;exact w
     |no=>rw[ho]at w;exact w
   .rw[kr,Qx]at w;exact w ρ' rfl
  .exact h.elim
 by_cases z:Jp it' (j8 ρ)=a7
 .unfold Jp at z;split at z
  .rename_i i ei;split at z
   .rename_i l e;obtain⟨a,q⟩:=Z5 e;refine DS.freeze i q (main _ ?_);rw[jj];simp only[frz,ei,e,Sl.abs]
   .cases z
  .cases z
 .have z':Jp it' (j8 ρ)=a4:=by simpa using z
  refine main ρ ?_;unfold frz;split
  .rename_i i ei;split
   .rename_i l e;simp only[Jp,ei,e]at z';cases z'
   .rfl
  .rfl
theorem j3c{is:List Nat}{elt' it' c':Ex}{elt it tg:ai}{ifs:List ai}{scope:b9}{p p1 pos:aJ}{k:Nat}{z:af}{ρ:Rho}(hq:X.calm=a7)(hX:Cok X G)
  (hk:X.N[k]?=a3 z) (hx:Loc X.env.scope z) (hf:X.fn z=a7\/X.env.scope.names.lookup z=a3 .local)
  (hsw:aS (.ListComp elt [⟨tg,it,ifs,0⟩] scope p) (a3 (.Name z p1)) pos.line X.env=pure a7)
  (hit:∀ρ ds,ev Γ G it' (j8 ρ)=a3 (.i ds)->DI X ρ tg it ds) (hkind:scope.kind=.function) (hok:J7 scope X.env X.N is=a7) (hs:∀x,aF it X.env x=pure x)
  (hb:∀ρ d ρ2,za is d (j8 ρ)=a3 ρ2->(∀j∈is,ρ[j]?=a3 .un)->∃ρ',j8 ρ'=ρ2/\Wk ρ' ρ/\owns ρ'=owns ρ/\∀C s H fp pn,DG (cCx X scope C s H fp pn) ρ tg d ρ')
  (he:∀C s H fp pn ρ r,ev Γ G elt' (j8 ρ)=a3 (.v r)->Has (cCx X scope C s H fp pn) ρ elt r)
  (hc:∀C s H fp pn ρ,(ev Γ G c' (j8 ρ)=a3 (.a [])->DTs (cCx X scope C s H fp pn) ρ ifs a7)/\∀y k,ev Γ G c' (j8 ρ)=a3 (.a [y])->y.d=.bl k->DTs (cCx X scope C s H fp pn) ρ ifs k)
  (h:Ur (run fu Γ G (.set k (.comp is elt' it' c')) (j8 ρ)) P):DS X ρ (.Assign [.Name z p1] (.ListComp elt [⟨tg,it,ifs,0⟩] scope p) pos) P:=by
 rw[jb2]at h;unfold Rr at h;have h:=(Ud h).resolve_right λ⟨y,ey,_⟩=>by simp only[er]at ey;cases ey
 cases e:ev Γ G (.comp is elt' it' c') (j8 ρ) with
 |none=>rw[e]at h;exact h.elim
 |some w =>
  rw[e]at h;cases w with
  |a _=>exact h.elim
  |i _=>exact h.elim
  |v r =>
   obtain⟨l,ρf,ds,pr,g,er,el,hfz,hi,hun,hz,hb'⟩:=Oj hit hb he hc e;subst er;refine DS.setCf (ρf:=ρf) k is pr g ?_ ?_ hi hb' (λa=>?_) hX.nd hun hz hk hx hf hsw hq hkind hok hs
   .rcases hfz with e|⟨_,i,a,l',q,e⟩
    .subst e;exact λ_ _ _ R=>R
    .subst e;exact λ_ _ _ R=>R.freeze q
   .rcases hfz with e|⟨n,_⟩
    .exact .inl e
    .exact .inr (el▸n)
   .rw[<-el];exact h _ jj
theorem j1u{w:Option W}{d:D}(h:stOf w=a3 d):∃z,w=a3 (.v z)/\z.st=a3 d:=by
 unfold stOf at h;split at h
 .exact⟨_,rfl,h⟩
 .cases h
end
structure Ts(X:Cx)(t:Sx)(nd:Ns):Prop where
 m:∀(fu:Nat)(Γ:af->List D->Rc)(G:af->Option D),Cok X G->Gok X Γ->jb5 fu Γ G X t nd
theorem Ts.nil:∀{X:Cx},Ts X .nop (.ss []):=by intro _;refine⟨λfu Γ G=>?_⟩;intro c g ρ P h;exact DSs.nil (h ρ rfl)
theorem Ts.cons:∀{X:Cx}{a b:Sx}{st:aP}{rest:List aP},Ts X a (.s st)->Ts X b (.ss rest)->Ts X (.seq a b) (.ss (st::rest)):=by
 intro _ _ _ _ _ q0 q1;refine⟨λfu Γ G=>?_⟩;have iha:=q0.m fu Γ G;have ihb:=q1.m fu Γ G;intro c g ρ P h;rw[jb3]at h;split at h
 .rename_i ρ' e;exact DSs.cons (N:=λρ1=>j8 ρ1=ρ') (iha c g ρ _ (by rw[e];exact λρ2 z=>z)) λρ1 z=>ihb c g ρ1 P (by rw[z];exact h)
 .rename_i o hn;refine DSs.cons (N:=λ_=>False) (iha c g ρ _ ?_) λ_ z=>z.elim;cases e:run fu Γ G _ (j8 ρ) with
  |next ρ'=>exact absurd e (hn ρ')
  |ret r=>rw[e]at h;exact h
  |err x r=>rw[e]at h;exact h
  |brk r=>rw[e]at h;exact h
  |cnt r=>rw[e]at h;exact h
  |no=>rw[e]at h;exact h
theorem Ts.keep:∀{X:Cx}{i:Nat}{b:Sx}{sts:List aP},Ts X b (.ss sts)->Ts X (.seq (.keep i) b) (.ss sts):=by
 intro _ i _ _ q0;refine⟨λfu Γ G=>?_⟩;have ih:=q0.m fu Γ G;intro c g ρ P h;simp only[jb3,jig,Nk]at h;cases e:(j8 ρ)[i]? with
 |none=>rw[e]at h;exact h.elim
 |some v =>
  rw[e]at h;cases v with
  |own l =>obtain⟨a,q⟩:=Z5 e;exact DSs.freeze _ q (ih c g _ P (by rw[jj];exact h))
  |un=>exact h.elim
  |val d=>exact ih c g ρ P h
  |exc x=>exact h.elim
theorem Ts.set:∀{X:Cx}{i:Nat}{x:af}{e':Ex}{e:ai}{p pos:aJ}(hi:X.N[i]?=a3 x) (hx:Loc X.env.scope x) (hs:aS e (a3 (.Name x p)) pos.line X.env=pure a4) (hf:X.fn x=a7\/X.env.scope.names.lookup x=a3 .local),Tr X e' (.e e)->Ts X (.set i e') (.s (.Assign [.Name x p] e pos)):=by
 intro _ _ _ _ _ _ _ hi hx hs hf he;refine⟨λfu Γ G=>?_⟩;intro c g ρ P h;have S:=sound he c g;rw[jb2]at h;unfold Rr at h;rcases Ud h with h|⟨y,ey,hP⟩
 rotate_left
 .exact DS.setX (Ea he c g ρ y ey) (hP ρ rfl) c.nd hi hx hs hf
 split at h
 .rename_i l e;exact DS.setO _ (S ρ _ e) (λa=>h _ jj) c.nd hi hx hs hf
 .rename_i r hn e;split at h
  .rename_i d hd;exact DS.set _ ((S ρ _ e).toE hd) (h _ jj) c.nd hi hx hs hf
  .exact h.elim
 .exact h.elim
theorem Ts.setC1:∀{X:Cx}{k i:Nat}{z y:af}{py p p1 pos:aJ}{elt' it' c':Ex}{elt it:ai}{ifs:List ai} {scope:b9} (hq:X.calm=a7) (hk:X.N[k]?=a3 z) (hx:Loc X.env.scope z) (hf:X.fn z=a7\/X.env.scope.names.lookup z=a3 .local) (hsw:aS (.ListComp elt [⟨.Name y py,it,ifs,0⟩] scope p) (a3 (.Name z p1)) pos.line X.env=pure a7) (hi:X.N[i]?=a3 y) (hl:Yg scope y=a7) (hkind:scope.kind=.function) (hok:J7 scope X.env X.N [i]=a7) (hs:∀x,aF it X.env x=pure x),Tr X it' (.i (.Name y py) it)->(∀C s H fp pn,Tr (cCx X scope C s H fp pn) elt' (.e elt))->(∀C s H fp pn,Tr (cCx X scope C s H fp pn) c' (.c ifs))->Ts X (.set k (.comp [i] elt' it' c')) (.s (.Assign [.Name z p1] (.ListComp elt [⟨.Name y py,it,ifs,0⟩] scope p) pos)):=by
 intro _ _ _ _ _ _ _ _ _ _ _ _ _ _ _ _ hq hk hx hf hsw hi hl hkind hok hs hit he hc;refine⟨λfu Γ G=>?_⟩;intro c g ρ P h;exact j3c hq c hk hx hf hsw (λρ ds z=>sound hit c g ρ ds z) hkind hok hs (λρ d ρ2 hb hun=>by
  simp only[za]at hb
  cases hb
  have hu:=hun _ (xg.mpr rfl)
  exact⟨_,jj,Wk.set hu,Qq hu,λC s H fp pn=>DG.name _ c.nd hi (Yo hl) (W5 hl)⟩)
  (λC s H fp pn ρ r z=>sound (he C s H fp pn) c.comp g.comp ρ r z) (λC s H fp pn ρ=>sound (hc C s H fp pn) c.comp g.comp ρ) h
theorem Ts.mov:∀{X:Cx}{i j:Nat}{x y:af}{p q pos:aJ}(hi:X.N[i]?=a3 x) (hj:X.N[j]?=a3 y) (hx:Loc X.env.scope x) (hf:X.fn x=a7\/X.env.scope.names.lookup x=a3 .local) (hv:Vis X.env.scope y) (hd:(y==k92)=a4) (hcd:(y==k93)=a4),Ts X (.mov i j) (.s (.Assign [.Name x p] (.Name y q) pos)):=by
 intro _ _ _ _ _ _ _ _ hi hj hx hf hv hd hcd;refine⟨λfu Γ G=>?_⟩;intro c g ρ P h;rw[jkt]at h;unfold j03 at h;split at h
 .rename_i l e;obtain⟨a,q⟩:=Z5 e;split at h
  .exact h.elim
  .rename_i hij;exact DS.mov q hij (h _ (by rw[jj,jj];rfl)) c.nd hi hj hx hf hv hd hcd
 .rename_i d e;exact DS.set _ (DE.var _ (U8 e) hj hv hd hcd) (h _ jj) c.nd hi hx rfl hf
 .exact h.elim
theorem Ts.expr:∀{X:Cx}{e':Ex}{e:ai}{pos:aJ}(hs:aS e a5 pos.line X.env=pure a4),Tr X e' (.e e)->Ts X (.expr e') (.s (.Expr e pos)):=by
 intro _ _ _ _ hs he;refine⟨λfu Γ G=>?_⟩;intro c g ρ P h;rw[jih]at h;unfold Cd at h;rcases Ud h with h|⟨y,ey,hP⟩
 rotate_left
 .exact DS.exprX (Ea he c g ρ y ey) (hP ρ rfl) hs
 split at h
 .rename_i r e;exact DS.expr (sound he c g ρ r e).toT (h ρ rfl) hs
 .exact h.elim
theorem Ts.ret:∀{X:Cx}{e':Ex}{e:ai}{pos:aJ},Tr X e' (.e e)->Ts X (.ret e') (.s (.Return (a3 e) pos)):=by
 intro _ _ _ _ he;refine⟨λfu Γ G=>?_⟩;intro c g ρ P h;rw[jb4]at h;unfold retS at h;rcases Ud h with h|⟨y,ey,hP⟩
 rotate_left
 .exact DS.retX (Ea he c g ρ y ey) (hP ρ rfl)
 split at h
 .rename_i l e;exact DS.retO (sound he c g ρ _ e) (h _ rfl)
 .rename_i r hn e;exact DS.ret (sound he c g ρ _ e).toT (h _ rfl)
 .exact h.elim
theorem Ts.retV:∀{X:Cx}{i:Nat}{x:af}{p pos:aJ}(hi:X.N[i]?=a3 x) (hv:Vis X.env.scope x) (hd:(x==k92)=a4) (hcd:(x==k93)=a4),Ts X (.retV i) (.s (.Return (a3 (.Name x p)) pos)):=by
 intro _ _ _ _ _ hi hv hd hcd;refine⟨λfu Γ G=>?_⟩;intro c g ρ P h;rw[jic]at h;unfold Ms at h;split at h
 .rename_i l e;obtain⟨a,q⟩:=Z5 e;exact DS.retV _ q (h _ rfl) hi hv hd hcd
 .rename_i d e;exact DS.ret (DE.toT (DE.var _ (U8 e) hi hv hd hcd)) (h _ rfl)
 .exact h.elim
theorem Ts.ife:∀{X:Cx}{c':Ex}{a b:Sx}{c:ai}{sa sb:List aP}{pos:aJ},Tr X c' (.b c)->Ts X a (.ss sa)->Ts X b (.ss sb)->Ts X (.ife c' a b) (.s (.If c sa sb pos)):=by
 intro _ _ _ _ _ _ _ _ hc q1 q2;refine⟨λfu Γ G=>?_⟩;have iha:=q1.m fu Γ G;have ihb:=q2.m fu Γ G;intro c g ρ P h;rw[jku]at h;split at h
 .rename_i e;exact DS.if (sound hc c g ρ a7 e) (λ_=>iha c g ρ P h) λz=>by cases z
 .rename_i e;exact DS.if (sound hc c g ρ a4 e) (λz=>by cases z) λ_=>ihb c g ρ P h
 .exact h.elim
theorem Ts.for1:∀{X:Cx}{i:Nat}{y:af}{it':Ex}{b:Sx}{it:ai}{body:List aP} {p pos:aJ} (hq:X.calm=a7) (hi:X.N[i]?=a3 y) (hx:Loc X.env.scope y) (hf:X.fn y=a7\/X.env.scope.names.lookup y=a3 .local) (hs:∀x,aF it X.env x=pure x),Tr X it' (.i (.Name y p) it)->Ts X b (.ss body)->Ts X (.loop [i] it' b) (.s (.For (.Name y p) it body [] pos)):=by intro _ _ _ _ _ _ _ _ _ hq hi hx hf hs hit q1;refine⟨λfu Γ G=>?_⟩;have ih:=q1.m fu Γ G;intro c g ρ P h;exact j3s hq c hs (bind1 c.nd hi hx hf) (λρ ds z=>sound hit c g ρ ds z) (ih c g) h
theorem Ts.app:∀{X:Cx}{i:Nat}{x:af}{e':Ex}{e:ai}{p p1 p2 pos:aJ}(hN:X.N[i]?=a3 x) (hv:Vis X.env.scope x) (hd:(x==k92)=a4) (hcd:(x==k93)=a4) (hst:a9 [e] X.env=[(a4,ay e X.env)]) (hline:(p1.endLine==p2.line)=a7) (hbase:aL (.Name x p) "append" X.env (ay (.Name x p) X.env)=ay (.Name x p) X.env) (hfew:((aO p2 (a9 [e] X.env)).all (λx=>!x.1)&&(bB p2 (aY [] X.env)).all (λx=>x.1.isSome)&&decide (([e]:List ai).length+([]:List aZ).length+(if ([]:List aZ).isEmpty then 0 else 1)<30))=a7),Tr X e' (.e e)->Ts X (.app i e') (.s (.Expr (.Call (.Attribute (.Name x p) "append" p1) [e] [] p2) pos)):=by
 intro _ _ _ _ _ _ _ _ _ hN hv hd hcd hst hline hbase hfew he;refine⟨λfu Γ G=>?_⟩;intro c g ρ P h;rw[jkw]at h;unfold Cq at h;split at h
 .rename_i l x el ex;obtain⟨a,q⟩:=Z5 el;split at h
  .rename_i d hd';split at h
   .rename_i hz;exact DS.append _ q ((sound he c g ρ x ex).toE hd') hz (h _ jj) hN hv hd hcd hst hline hbase hfew rfl
   .exact h.elim
  .exact h.elim
 .exact h.elim
theorem Ts.ext:∀{X:Cx}{i:Nat}{x:af}{e':Ex}{e:ai}{p p1 p2 pos:aJ}(hN:X.N[i]?=a3 x) (hv:Vis X.env.scope x) (hd:(x==k92)=a4) (hcd:(x==k93)=a4) (hst:a9 [e] X.env=[(a4,ay e X.env)]) (hline:(p1.endLine==p2.line)=a7) (hbase:aL (.Name x p) "extend" X.env (ay (.Name x p) X.env)=ay (.Name x p) X.env) (hfew:((aO p2 (a9 [e] X.env)).all (λx=>!x.1)&&(bB p2 (aY [] X.env)).all (λx=>x.1.isSome)&&decide (([e]:List ai).length+([]:List aZ).length+(if ([]:List aZ).isEmpty then 0 else 1)<30))=a7),Tr X e' (.e e)->Ts X (.ext i e') (.s (.Expr (.Call (.Attribute (.Name x p) "extend" p1) [e] [] p2) pos)):=by
 intro _ _ _ _ _ _ _ _ _ hN hv hd hcd hst hline hbase hfew he;refine⟨λfu Γ G=>?_⟩;intro c g ρ P h;rw[jkv]at h;unfold Dz at h;split at h
 .rename_i l m el ex;obtain⟨a,q⟩:=Z5 el;split at h
  .rename_i hz;exact DS.extend _ q (sound he c g ρ _ ex) (zc hz) (h _ jj) hN hv hd hcd hst hline hbase hfew rfl
  .exact h.elim
 .exact h.elim
theorem Ts.retL:∀{X:Cx}{x:af}{is:List Nat}{params:dG}{body:ai}{scope:b9}{cl:List (af×aa)} {p1 pos:aJ} (hx:x∈Zt) (hqu:X.env.qual=x ++ ".<locals>.") (hdef:gq params X.env=([],[])) (hcl:d4 scope X.env=pure cl) (ht:Z7 X.K x=a3 (params,body,scope)) (hn:cl.map (·.1)=v7 scope) (nd:(v7 scope).Nodup) (hc:j4m X cl is),Ts X (.retL x is) (.s (.Return (a3 (.Lambda params body scope p1)) pos)):=by
 intro _ _ _ _ _ _ _ _ _ hx hqu hdef hcl ht hn nd hc;refine⟨λfu Γ G=>?_⟩;intro c g ρ P h;rw[jid]at h;unfold N7 at h;split at h
 .rename_i ds e;exact DS.retLam ⟨hx,hqu,c.lm _ hx hqu⟩ hdef hcl ht hn nd (Cj hc e) (h (.val _) rfl)
 .exact h.elim
theorem Ts.retC:∀{X:Cx}{f x:af}{is:List Nat}{a' b':Ex}{a b:ai}{params:dG}{body:ai} {scope:b9} {cl:List (af×aa)} {p1 p2 p3 pos:aJ} (hx:x∈Zt) (hqu:X.env.qual=x ++ ".<locals>.") (hdef:gq params X.env=([],[])) (hcl:d4 scope X.env=pure cl) (ht:Z7 X.K x=a3 (params,body,scope)) (hn:cl.map (·.1)=v7 scope) (nd:(v7 scope).Nodup) (hc:j4m X cl is) (hg:Gl X f) (hdb:(f==k92)=a4) (hs1:a9 [a,b,.Lambda params body scope p1] X.env=(a4,ay a X.env)::a9 [b,.Lambda params body scope p1] X.env) (hs2:a9 [b,.Lambda params body scope p1] X.env=(a4,ay b X.env)::a9 [.Lambda params body scope p1] X.env) (hs3:a9 [.Lambda params body scope p1] X.env=(a4,ay (.Lambda params body scope p1) X.env)::a9 [] X.env) (hpl:(aO p3 (a9 [b,.Lambda params body scope p1] X.env)).any (·.1)=a4),Tr X a' (.e a)->Tr X b' (.e b)->Ts X (.retC f x a' b' is) (.s (.Return (a3 (.Call (.Name f p2) [a,b,.Lambda params body scope p1] [] p3)) pos)):=by
 intro _ f x is a' b' a b params body scope cl p1 p2 p3 pos hx hqu hdef hcl ht hn nd hc hg hdb hs1 hs2 hs3 hpl ha hb;refine⟨λfu Γ G=>?_⟩;intro c g ρ P h;rw[jie]at h;unfold N8 at h;split at h
 .rename_i ds u v e1 e2 e3;have q:=g f [u.d,v.d,.fn x ds];cases z:Γ f [u.d,v.d,.fn x ds] with
  |val d =>
   rw[z]at h q;dsimp only[Kv]at h;split at h
   .rename_i nf;exact DS.ret (DT.callL q ⟨hx,hqu,c.lm _ hx hqu⟩ hdef hcl ht hn nd (Cj hc e1) (sound ha c g ρ u e2).toT (sound hb c g ρ v e3).toT nf ⟨rfl,rfl⟩ hg hdb hs1 hs2 hs3 hpl) (h (.val _) rfl)
   .exact h.elim
  |fresh l=>rw[z]at h;exact h.elim
  |err x=>rw[z]at h;exact h.elim
  |lval d=>rw[z]at h;exact h.elim
  |mval d k=>rw[z]at h;exact h.elim
  |merr x=>rw[z]at h;exact h.elim
  |no=>rw[z]at h;exact h.elim
 .exact h.elim
theorem Ts.nmake:∀{X:Cx}{x t y:Nat}{nx nt ny:af}{it' e1' e2':Ex}{it e1 e2:ai}{p1 p2 p3 p4 p5 p6 p10 p11 p12 p14 p16 p17 p18:aJ}(hq:X.calm=a7) (hX:X.N[x]?=a3 nx) (hT:X.N[t]?=a3 nt) (hY:X.N[y]?=a3 ny) (lx:Loc X.env.scope nx) (lt:Loc X.env.scope nt) (ly:Loc X.env.scope ny) (fx:X.fn nx=a7\/X.env.scope.names.lookup nx=a3 .local) (ft:X.fn nt=a7\/X.env.scope.names.lookup nt=a3 .local) (fy:X.fn ny=a7\/X.env.scope.names.lookup ny=a3 .local) (dx:(nx==k92)=a4) (cx:(nx==k93)=a4) (dt:(nt==k92)=a4) (ct:(nt==k93)=a4) (s1:aS (.Dict [] [] p2) (a3 (.Name nx p1)) p3.line X.env=pure a4) (s2:aS e1 (a3 (.Name ny p5)) p6.line X.env=pure a4) (s3:aS e2 (a3 (.Subscript (.Name nx p10) (.Name nt p11) p12)) p14.line X.env=pure a4) (hf:∀x,aF it X.env x=pure x),Tr X it' (.i (.Name nt p4) it)->Tr X e1' (.e e1)->Tr X e2' (.e e2)->Ts X (.nmake x t y it' e1' e2') (.ss (jao nx nt ny it e1 e2 p1 p2 p3 p4 p5 p6 p10 p11 p12 p14 p16 p17 p18)):=by
 intro _ x t y nx nt ny it' e1' e2' it e1 e2 p1 p2 p3 p4 p5 p6 p10 p11 p12 p14 p16 p17 p18 hq hX hT hY lx lt ly fx ft fy dx cx dt ct s1 s2 s3 hf hit he1 he2;refine⟨λfu Γ G=>?_⟩;intro c g ρ P h;rw[j2x]at h;split at h
 .rename_i hcnd;obtain⟨rx,rt,ry,hxt,hxy,hty⟩:=hcnd;have ln:(j8 ρ).length=ρ.length:=by unfold j8;rw[xj]
  rw[ln]at rx rt ry;split at h
  .rename_i ds eds;split at h
   .rename_i r er;refine DSs.nmake (W:=λi ρ' ks ns=>Vu (λρ=>stOf (ev Γ G e1' ρ)) (λρ=>stOf (ev Γ G e2' ρ)) x t y (ds.drop i) (j8 ρ') ks ns=a3 r) rx rt ry hxt hxy hty (sound hit c g (ρ.set x .un) ds (by rw[jj];exact eds))
     (by rw[dn,jj];exact er) (λi d ρ' ks ns hd w=>?_) (λρ' ks ns w=>?_) c.un' hq c.po c.nd hX hT hY lx lt ly fx ft fy dx cx dt ct s1 s2 s3 hf
    .have hdr:ds.drop i=d::ds.drop (i+1):=by obtain⟨hlt,e⟩:=Xa.mp hd;rw[c7 hlt,e]
     rw[hdr]at w;cases d with
     |tup l =>
      simp only[Vu]at w;split at w
      .rename_i k d1 ek ed;obtain⟨z,ez,ed2⟩:=j1u ed;have hk:=Qa ek;subst hk;split at w
       .rename_i n en;obtain⟨z2,ez2,ed3⟩:=j1u en;split at w
        .rename_i hh;refine⟨k,d1,n,rfl,(sound he1 c g (ρ'.set t (.val (.tup (k.map D.int)))) z (by rw[jj];exact ez)).toE ed2,(sound he2 c g (((ρ'.set t (.val (.tup (k.map D.int)))).set y (.val d1)).set x (.val (.dct ks (ns.map D.int)))) z2 (by rw[jj,jj,jj];exact ez2)).toE ed3,hh.1,hh.2,by rw[jj,jj];exact w⟩
        .cases w
       .cases w
      .cases w
     |_=>simp only[Vu]at w;cases w
    .rw[kr,Vu]at w;cases w;exact h (.val (.dct ks (ns.map D.int))) rfl
   .exact h.elim
  .exact h.elim
 .exact h.elim
theorem Ts.raise:∀{X:Cx}{x:af}{e':Ex}{e:ai}{np cpos pos:aJ}(hq:X.calm=a7)(hg:Gl X x) (hdb:(x==k92)=a4) (hs:a9 [e] X.env=[(a4,ay e X.env)]),Tr X e' (.e e)->Ts X (.raise x e') (.s (.Raise (a3 (.Call (.Name x np) [e] [] cpos)) a5 pos)):=by
 intro _ _ _ _ _ _ _ hq hg hdb hs he;refine⟨λfu Γ G=>?_⟩;intro c g ρ P h;rw[je2]at h;unfold Wh at h;split at h
 .rename_i r d er eg;obtain⟨hx,o,ho⟩:=c.ec _ _ eg;exact DS.raiseE c.ea hx ho (W.mg_of c.kin c.ns ho) c.kin hq (λσ H R=>(sound he c g ρ r er).toT σ H _ R λv H' g' _=>g') (h ρ rfl) hg hdb hs
 .exact h.elim
theorem Ts.tryK:∀{X:Cx}{b:Sx}{i j:Nat}{n k:af}{body:List aP}{p p1 p2 p3 p4 p5 pos hpos:aJ}(hq:X.calm=a7) (hst:X.stack=X.env::X.outer) (hfm:X.env.frame=a3 X.env.locals) (hgA:Gl X "AskError") (hg:Gl X "_law_kinds") (hN:X.N[j]?=a3 n) (hlo:X.env.scope.names.lookup n=a3 .local) (hd:(n==k92)=a4) (hcd:(n==k93)=a4) (hi:X.N[i]?=a3 k) (hxk:Loc X.env.scope k) (hfk:X.fn k=a7\/X.env.scope.names.lookup k=a3 .local) (hfn:X.fn n=a7\/X.env.scope.names.lookup n=a3 .local) (hs:aS (.Call (.Name "_law_kinds" p) [.Name n p1] [] p2) (a3 (.Name k p3)) p4.line X.env=pure a4) (he:a9 [.Name n p1] X.env=(a4,ay (.Name n p1) X.env)::a9 [] X.env) (hpl:(aO p2 (a9 [] X.env)).any (·.1)=a4),(∀pn xe,Ts { X with pn:=pn,xe:=xe } b (.ss body))->Ts X (.tryK b i j) (.s (.Try body [.ExceptHandler (a3 (.Name "AskError" p5)) (a3 n) [.Assign [.Name k p3] (.Call (.Name "_law_kinds" p) [.Name n p1] [] p2) p4] hpos] [] [] pos)):=by
 intro _ _ _ _ _ _ _ _ _ _ _ _ _ _ _ hq hst hfm hgA hg hN hlo hd hcd hi hxk hfk hfn hs he hpl q0;refine⟨λfu Γ G=>?_⟩;have ih:=λpn xe=>(q0 pn xe).m fu Γ G;intro c g ρ P h;refine DS.tryK (λpn xe hpo=>?_) c.ea hst hfm (c.dp hq) (c.un hq) c.nd hgA hg (by decide) hN hlo hd hcd hi hxk hfk hfn hs he hpl;refine ih pn xe ⟨c.un',c.un,c.dp,c.bt,c.gl,c.nd,hpo,c.ea,c.ec,c.el,c.kin,c.ns,c.kd,c.fn,λd e=>⟨(c.pl d e).ex⟩,λd e=>let ⟨C,h1,h2⟩:=c.pc d e;⟨C,h1,⟨h2.ex⟩⟩,c.gd,c.fr,c.lm⟩ ?_ ρ _ ?_
 .intro f ds;have q:=g f ds;cases e:Γ f ds with
  |val d=>rw[e]at q;exact⟨q.ex⟩
  |fresh l=>rw[e]at q;exact⟨q.ex⟩
  |err x=>rw[e]at q;exact⟨q.ex⟩
  |lval d=>rw[e]at q;exact q
  |mval d k=>rw[e]at q;exact λg ls k ds' h1 h2 C h3=>⟨(q g ls k ds' h1 h2 C h3).ex⟩
  |merr x=>rw[e]at q;exact λg ls k ds' h1 h2 C h3=>⟨(q g ls k ds' h1 h2 C h3).ex⟩
  |no=>trivial
 .rw[jib]at h;split at h
  .rename_i x ρ' e;rw[e];split at h
   .rename_i l eg;obtain⟨hx,o,ho⟩:=c.ec _ _ eg;intro ρ2 e2;exact⟨hx,⟨o,ho⟩,l,c.kd x l eg,λe' oe a=>h _ (by rw[jj,jj,jj,e2];rfl)⟩
   .exact h.elim
  .rename_i o hn;cases e:run fu Γ G _ (j8 ρ) with
   |err x ρ'=>exact absurd e (hn x ρ')
   |next ρ'=>rw[e]at h;exact h
   |ret r=>rw[e]at h;exact h
   |brk r=>rw[e]at h;exact h
   |cnt r=>rw[e]at h;exact h
   |no=>rw[e]at h;exact h
section
theorem Yu{fu:Nat}{Γ:af->List D->Rc}{G:af->Option D}{X:Cx}{t:Sx}{nd:Ns}(h:Ts X t nd):Cok X G->Gok X Γ->jb5 fu Γ G X t nd:=h.m fu Γ G
end
section
variable{X:Cx}{pi i:Nat}{x y f:af}{c' e' m' es':Ex}{c e m cl:ai}{es:List ai}{r b:Px}{st:aP}{sa rest:List aP}{p py p1 p2 p3 p4 p5 pos:aJ}{ρ:Rho}{o:Ob}
end
structure Fi where
 n:Nat
 nn:Nat
 body:Sx
 lam:Bool
noncomputable def j3u:Rc->Rc
 |.val d=>.lval d
 |_=>.no
noncomputable def fin:So->Rc
 |.ret r=>r
 |.next _=>.val .non
 |.err x _=>.err x
 |_=>.no
noncomputable def enter(F:Fi)(ds:List D):En:=ds.map Sv.val++ah (F.nn-F.n) Sv.un
noncomputable def evP(fu:Nat)(G:af->Option D)(T:af->Option Fi):Nat->af->List D->Rc
 |0,_,_=>.no
 |n+1,f,ds=>match T f with
  |none=>.no
  |some F=>if ds.length=F.n then(if F.lam=a7 then j3u (fin (run fu (evP fu G T n) G F.body (enter F ds)))else fin (run fu (evP fu G T n) G F.body (enter F ds)))else .no
structure Lk(P:au)(w:aA)(K:k8y)(mg:k91)(base:aD)(x:af)(F:Fi):Prop where
 ex:∃(st:aP)(f:aa)(fd:aG)(N ps:List af),Fun K x x st f fd/\FnScope N ps (j0 st)/\ps.length=F.n/\N.length=F.nn/\Binds K fd ps []/\Dfl K x fd ps/\mg x=a3 (.ref f) /\
  ∀(cdv:a8)(A:aB)(outer:List cH)(s:ae)(H:Hp)(E:XK)(xe:k8z),Ts ((qi CX0 P w K mg base N x (j0 st) f cdv A outer s H E).wish xe) F.body (.ss (jd st))
structure LkL(P:au)(w:aA)(K:k8y)(mg:k91)(base:aD)(x:af)(F:Fi):Prop where
 ex:∃(tx:Tx)(N ps:List af)(e:Ex),Z7 K x=a3 tx/\LamScope N ps tx.2.2/\N.length=F.n/\F.nn=F.n/\F.body=.ret e /\
  (∀(cl:List (af×aa)) (pm:a8) (c:aa) (ctv:a8) (us:List a8),us.length=ps.length->cD (W.kla_fn "<lambda>" (ju x) tx.1 tx.2.1 tx.2.2 cl pm (.ref c) ctv) ⟨us,[]⟩=pure (ps.zip us)) /\
  ∀(a c:aa)(cl:List (af×aa)) (A:aB) (outer:List cH) (s:ae) (H:Hp),Tr (Uo P w K mg base N (ju x) tx.2.2 a (.ref c) cl A outer s H) e (.e tx.2.1)
def j4l(P:au)(w:aA)(K:k8y)(mg:k91)(base:aD)(C:aa):Prop:=∃(fA fT fL fI:aa)(dA dT dL dI:aG),PcT K mg C fA fT fL fI/\(FnOk P w K mg base CX0 1 fA dA ["self"] (j1y C)/\Binds K dA ["self"] []) /\
  (FnOk P w K mg base CX0 2 fT dT ["self"] (j1w C)/\Binds K dT ["self"] [])/\(FnOk P w K mg base CX0 1 fL dL ["self"] (jag C)/\Binds K dL ["self"] [])/\(FnOk P w K mg base CX0 1 fI dI ["self","text"] (j1x C)/\Binds K dI ["self","text"] [])
structure LkP(P:au)(w:aA)(K:k8y)(mg:k91)(base:aD)(x:af)(F:Fi):Prop where
 ex:∃(g:af)(p:Px)(st:aP)(f:aa)(fd:aG)(N ps:List af),x=mq g/\F.body=.px p/\Fun K g g st f fd/\FnScope N ps (j0 st)/\ps.length+1=F.n/\N.length+1=F.nn/\0<ps.length/\ps.length<=N.length/\Binds K fd ps []/\mg g=a3 (.ref f)/\(∃C,mg "Pieces" = a3 (.ref C)/\j4l P w K mg base C) /\
  ∀(cdv:a8)(A:aB)(outer:List cH)(s:ae)(H:Hp)(E:XK)(xe:k8z),MP ((qi CX0 P w K mg base N g (j0 st) f cdv A outer s H E).wish xe) 0 p (jd st)
def LkF(P:au)(w:aA)(K:k8y)(mg:k91)(base:aD)(f:af)(F:Fi):Prop:=(F.lam=a4->(Lk P w K mg base f F/\f.cps.toList.getLast?≠a3 62/\f.cps.toList.head?≠a3 64)\/LkP P w K mg base f F)/\(F.lam=a7->∃x,f=ju x/\LkL P w K mg base x F)
def j7k(P:au)(w:aA)(K:k8y)(mg:k91)(base:aD):Prop:=∃(f:aa)(fd:aG)(ps:List af),FnOk P w K mg base CX0 11 f fd ps (jef K jah)/\mg "_law_plan" = a3 (.ref f)/\W.keepIn K (.ref f)=a7/\Binds K fd ps []/\Dfl K "_law_plan" fd ps
structure Tb(P:au)(w:aA)(K:k8y)(mg:k91)(base:aD)(G:af->Option D):Prop where
 bt:∀x∈Wb,mg x=a5
 gl:∀x d,Y6 x=a4->G x=a3 d->∃u v,mg x=a3 u/\RelV v u/\∀H,Enc K H d v
 ea:Z8 K=a7
 ec:∀x d,G (bang x)=a3 d->x∈jq/\∃o,W.nsIn K ak x=a3 (a3 o)
 el:G "?" = a3 (.bl a7)->∀c∈jq,∃v,W.nsIn K ak c=a3 (a3 v)
 kin:K.In base
 ns:base.Ns ak mg
 kd:∀x l,G (bang x)=a3 (.lst l)->KindsP P w K mg base "_law_kinds" x l
 fn:∀f d,G (qm f)=a3 d->∃fa,mg f=a3 (.ref fa)/\W.keepIn K (.ref fa)=a7
 pl:∀d,G (qm "_law_plan")=a3 d->j7k P w K mg base
 pc:∀d,G (qm "Pieces")=a3 d->∃C,mg "Pieces" = a3 (.ref C)/\j4l P w K mg base C
 lm:∀x∈Zt,∀f cdv,mg x=a3 (.ref f)->W0 K f cdv->∃c Pt,cdv=.ref c/\W.codeHdIn K c Pt=a7/\W.tabIn K x=a3 (c,Pt)
structure LkH(P:au)(w:aA)(K:k8y)(mg:k91)(base:aD)(x:af)(F:Fi):Prop where
 ex:∃(st:aP)(f:aa)(fd:aG)(N:List af)(p:af),Fun K x x st f fd/\FnScope N [p] (j0 st)/\1<=N.length/\N.length=F.nn/\Binds K fd [p] []/\mg x=a3 (.ref f) /\
  ∀(cdv:a8)(A:aB)(outer:List cH)(s:ae)(H:Hp),Ts { (qi CX0 P w K mg base N x (j0 st) f cdv A outer s H E0).nox with calm:=a4 } F.body (.ss (jd st))
section
variable{P:au}{w:aA}{K:k8y}{mg:k91}{base:aD}{fu:Nat}{G:af->Option D}{T:af->Option Fi}
theorem Rg{N:List af}{ds:List D}{F:Fi}(h1:ds.length=F.n)(h2:N.length=F.nn):j8 (jx N ds)=enter F ds:=by unfold j8 jx enter;rw[Xp,Xc,fj,h1,h2];rfl
theorem Mm(y:af):(bang y).cps.toList.head?=a3 33:=by unfold bang;show(("!":af).cps++y.cps).toList.head?=a3 33;rw[T6];rfl
theorem j28(y:af):(mq y).cps.toList.head?=a3 64:=by unfold mq;show(("@":af).cps++y.cps).toList.head?=a3 64;rw[T6];rfl
theorem jfy{x y:af}(h:mq x=mq y):x=y:=by unfold mq at h;have h:(⟨("@":af).cps++x.cps⟩:af)=⟨("@":af).cps++y.cps⟩:=h;have h:=congrArg k6 h;have e:x.cps=y.cps:=dZ h rfl;cases x;cases y;cases e;rfl
theorem j1t:∀ls:List af,strsOf (ls.map D.str)=a3 ls
 |[]=>rfl
 |_::l=>by rw[xu,strsOf,j1t l];rfl
theorem j1p{N:List af}{a:aa}{ds:List D}{F:Fi}{ls:List D}{k:Int}(h1:ds.length+2=F.n)(h2:N.length+1=F.nn):j8 (startM N a ds)=.exc rfN::(enter F (.lst ls::.int k::ds)).drop 2:=by
 have e:N.length-(ds.length+1)=F.nn-F.n:=by omega
 unfold startM;rw[jj];unfold j8 jx enter;rw[Xp,Xc,fj];simp only[xu,cO,t7,List.drop_succ_cons,dn,xx,e];rfl
theorem j2v (y:af):bang y ≠ "?":=λh=>by have:=Mm y;rw[h]at this;exact absurd this (by decide)
theorem j1z(y:af):(qm y).cps.toList.head?=a3 63:=by unfold qm;show(("??":af).cps++y.cps).toList.head?=a3 63;rw[T6];rfl
theorem Kw (y:af):qm y ≠ "?":=λh=>by
 have e:((qm y).cps.toList.drop 1).head?=a3 63:=by unfold qm;show((("??":af).cps++y.cps).toList.drop 1).head?=a3 63;rw[T6];rfl
 rw[h]at e;exact absurd e (by decide)
theorem jf6{x y:af}(h:qm x=qm y):x=y:=by unfold qm at h;have h:(⟨("??":af).cps++x.cps⟩:af)=⟨("??":af).cps++y.cps⟩:=h;have h:=congrArg k6 h;have e:x.cps=y.cps:=dZ h rfl;cases x;cases y;cases e;rfl
theorem j2u(x y:af):bang x≠qm y:=λh=>by have:=Mm x;rw[h,j1z]at this;exact absurd this (by decide)
theorem Wd{x y z:af}(h:x++z=y++z):x=y:=by have h:(⟨x.cps++z.cps⟩:af)=⟨y.cps++z.cps⟩:=h;have h:=congrArg k6 h;have e:x.cps=y.cps:=Array.append_inj_left' h rfl;cases x;cases y;cases e;rfl
theorem j8v{x y:af}(h:ju x=ju y):x=y:=Wd (Wd h)
theorem Lp(x:af):(ju x).cps.toList.getLast?=a3 62:=by unfold ju;show(((x ++ ".<locals>.").cps)++("<lambda>":af).cps).toList.getLast?=a3 62;rw[T6,List.getLast?_append];rfl
theorem j3v(x:af):ju x∉Zt:=λh=>by
 have e:=Lp x
 revert e
 unfold Zt at h;rcases xm.mp h with h|h
 .rw[h];decide
 rcases xm.mp h with h|h
 .rw[h];decide
 rcases xm.mp h with h|h
 .rw[h];decide
 .rw[xg.mp h];decide
theorem j1d (z:af) (hz:z∈Zt) (hq:("_law_kinds":af) ++ ".<locals>." = z ++ ".<locals>."):False:=by have e:=Wd hq;subst e;exact absurd hz (by decide)
noncomputable def G0(x:af):Option D:=if x = "?" then a3 (.bl a7)else a5
theorem j1c {F:Fi} (L:LkH P w K mg base "_law_kinds" F) (bt:∀x∈Wb,mg x=a5) (ea:Z8 K=a7) (el:∀c∈jq,∃v,W.nsIn K ak c=a3 (a3 v)) (kin:K.In base) (ns:base.Ns ak mg) {x:af} {l:List D} (hnl:jz l=a7)
  (hr:run fu (λ_ _=>.no) G0 F.body (.exc x::ah (F.nn-1) .un)=.ret (.fresh l)):KindsP P w K mg base "_law_kinds" x l:=by
 obtain⟨st,f,fd,N,p,hfun,hsc,h1,hN,hb,hm,hts⟩:=L.ex;refine kinds_of hfun hsc hb hm h1 hnl λcdv A outer s H e o hdp hun=>?_;have nob:∀y,G0 (bang y)=a5:=λy=>if_neg (j2v y);have c:Cok { (qi CX0 P w K mg base N "_law_kinds" (j0 st) f cdv A outer s H E0).nox with calm:=a4 } G0:=by
  refine⟨?_,(λz=>by cases z),(λz=>by cases z),bt,λy d hb q=>?_,hsc.nd,Tf,ea,λy d q=>?_,λ_=>el,kin,ns,λy l' q=>?_,λf d q=>?_,λd q=>?_,λd q=>?_,(λz=>by cases z),⟨_,_,_,rfl,rfl,rfl⟩,λz hz hq=>(j1d z hz hq).elim⟩
  .show A.units+3+100<aM;omega
  .unfold G0 at q;split at q
   .rename_i z;subst z;cases hb
   .cases q
  .rw[nob]at q;cases q
  .rw[nob]at q;cases q
  .rw[show G0 (qm f)=a5 from if_neg (Kw f)]at q;cases q
  .rw[show G0 (qm "_law_plan")=a5 from if_neg (Kw _)]at q;cases q
  .rw[show G0 (qm "Pieces")=a5 from if_neg (Kw _)]at q;cases q
 refine Yu (fu:=fu) (Γ:=λ_ _=>.no) (G:=G0) (hts cdv A outer s H) c (λ_ _=>trivial) _ _ ?_;have ab:j8 (.raw e o x::ah (N.length-1) .un)=.exc x::ah (F.nn-1) .un:=by unfold j8;rw[xu,fj,hN];rfl
 rw[ab,hr];intro y hy;cases y with
 |val d=>cases hy
 |fresh l=>cases hy;rfl
theorem jev{fu:Nat}{Γ:af->List D->Rc}{G:af->Option D}{e:Ex}{ρ:En}{d:D}(h:fin (run fu Γ G (.ret e) ρ)=.val d):∃r,ev Γ G e ρ=a3 (.v r)/\r.d=d:=by
 rw[jb4]at h;cases z:ev Γ G e ρ with
 |none=>rw[z]at h;cases y:er Γ G e ρ<;>(rw[y]at h;cases h)
 |some w =>
  cases w with
  |v r =>
   rw[z]at h;cases r with
   |o l=>cases h
   |e d=>cases h;exact⟨_,rfl,rfl⟩
   |w l=>cases h;exact⟨_,rfl,rfl⟩
   |t d=>cases h;exact⟨_,rfl,rfl⟩
  |a l=>rw[z]at h;cases y:er Γ G e ρ<;>(rw[y]at h;cases h)
  |i l=>rw[z]at h;cases y:er Γ G e ρ<;>(rw[y]at h;cases h)
theorem j3j{C:aa}(h:j4l P w K mg base C){X:Cx}{n:Nat}(h1:X.prog=P)(h2:X.w=w)(h3:X.K=K)(h4:X.mg=mg)(h5:X.base=base)(hn:12<=n)(hr:Room n X.A):PcX X C:=by subst h1 h2 h3 h4 h5;obtain⟨fA,fT,fL,fI,dA,dT,dL,dI,a,b,c,d,e⟩:=h;exact⟨fA,fT,fL,fI,dA,dT,dL,dI,a,b,c,d,e,hr.mono nofun⟩
theorem Va (t:Tb P w K mg base G) {X:Cx} {n:Nat} (h1:X.prog=P) (h2:X.w=w) (h3:X.K=K) (h4:X.mg=mg) (h5:X.base=base) (hn:12<=n) (hr:Room n X.A) (nd:X.N.Nodup) (po:d5 (aw X.prog X.w) X.A X.env X.xe) (hlm:∀x∈Zt,X.env.qual=x ++ ".<locals>."->∃c P,X.env.code=.ref c/\W.codeHdIn K c P=a7/\W.tabIn K x=a3 (c,P)) (hfr:∃(env0:cH)(out0:List cH)(L:aa),X.stack=env0::out0/\env0.frame=a3 L/\X.env.frame=a3 L:=by exact⟨_,_,_,rfl,rfl,rfl⟩):Cok X G:=by subst h1 h2 h3 h4 h5;exact⟨by have:=hr.un;omega,(λ_=>by have:=hr.un;omega),(λ_=>by have:=hr.dp;omega),t.bt,t.gl,nd,po,t.ea,t.ec,t.el,t.kin,t.ns,t.kd,t.fn,λd e=>let ⟨f,fd,ps,F,h1,h2,h3,h4⟩:=t.pl d e;⟨11,f,fd,ps,F,hr.mono hn,h1,h2,h3,h4⟩,λd e=>let ⟨C,h1,h2⟩:=t.pc d e;⟨C,h1,j3j h2 rfl rfl rfl rfl rfl hn hr⟩,(λ_=>hr.gd),hfr,hlm⟩
theorem Ul (t:Tb P w K mg base G) {g:af} {f:aa} {cdv:a8} {env:cH} (hm:mg g=a3 (.ref f)) (hcv:W0 K f cdv) (hq:env.qual=g ++ ".<locals>.") (hc:env.code=cdv):∀x∈Zt,env.qual=x ++ ".<locals>."->∃c P,env.code=.ref c/\W.codeHdIn K c P=a7/\W.tabIn K x=a3 (c,P):=λx hx e=>by have eg:=Wd (hq.symm.trans e);subst eg;rw[hc];exact t.lm _ hx f cdv hm hcv
noncomputable def lv:Nat->Nat
 |0=>12
 |n+1=>lv n+2
theorem Zm:∀n,12<=lv n+1
 |0=>by decide
 |n+1=>by have:=Zm n;unfold lv;omega
theorem Ng(hT:∀x F,T x=a3 F->LkF P w K mg base x F)(t:Tb P w K mg base G):∀(n:Nat)(x:af)(ds:List D),
  ∃(f:aa)(fd:aG)(ps:List af),match evP fu G T n x ds with
   |.val d=>FnOk P w K mg base CX0 (lv n) f fd ps (spP K λds' d'=>ds'=ds/\d'=d)/\mg x=a3 (.ref f)/\W.keepIn K (.ref f)=a7/\Binds K fd ps []/\Dfl K x fd ps
   |.fresh l=>FnOk P w K mg base CX0 (lv n) f fd ps (spF K λds' l'=>ds'=ds/\l'=l)/\mg x=a3 (.ref f)/\W.keepIn K (.ref f)=a7/\Binds K fd ps []/\Dfl K x fd ps
   |.err y=>FnOk P w K mg base (CX1 P w) (lv n) f fd ps (spX K mg λds' z=>ds'=ds/\z=y)/\mg x=a3 (.ref f)/\W.keepIn K (.ref f)=a7/\Binds K fd ps []
   |.lval d=>∀y,x=ju y->Ib P w K mg base (lv n) y λds' d'=>ds'=ds/\d'=d
   |.mval d k'=>∀g ls (k:Nat) ds',x=mq g->ds=.lst (ls.map D.str)::.int (k:Int)::ds'->∀C,mg "Pieces" = a3 (.ref C)->FnOk P w K mg base CX0 (lv n) f fd ps (spM K C λls2 k2 ds2 d2 k2'=>ls2=ls/\k2=k/\ds2=ds'/\d2=d/\k2'=k')/\mg g=a3 (.ref f)/\W.keepIn K (.ref f)=a7/\Binds K fd ps []
   |.merr y=>∀g ls (k:Nat) ds',x=mq g->ds=.lst (ls.map D.str)::.int (k:Int)::ds'->∀C,mg "Pieces" = a3 (.ref C)->FnOk P w K mg base (CX1 P w) (lv n) f fd ps (j7x K mg C λls2 k2 ds2 x2=>ls2=ls/\k2=k/\ds2=ds'/\x2=y)/\mg g=a3 (.ref f)/\W.keepIn K (.ref f)=a7/\Binds K fd ps []
   |.no=>True
 |0,x,ds=>⟨0,W.fnOf x x { posonlyargs:=[],args:=[],vararg:=a5,kwonlyargs:=[],kw_defaults:=[],kwarg:=a5,defaults:=[] } [] { kind:=.function,names:=[],isGenerator:=a4,isCoroutine:=a4 } .none .none .none .none a5 .none .none,[],trivial⟩
 |n+1,x,ds=>by
  have ih:=Ng hT t n;cases hF:T x with
  |none =>
   obtain⟨f,fd,ps,_⟩:=ih x ds;refine⟨f,fd,ps,?_⟩;have e:evP fu G T (n+1) x ds=.no:=by simp only[evP,hF]
   rw[e];trivial
  |some F =>
   have gok:∀{X:Cx},X.prog=P->X.w=w->X.K=K->X.mg=mg->X.base=base->Room (lv n+1) X.A->Gok X (evP fu G T n):=λ{X} h1 h2 h3 h4 h5 hr g ds'=>by
    subst h1 h2 h3 h4 h5;obtain⟨f',fd',ps',q⟩:=ih g ds';cases z:evP fu G T n g ds' with
    |val d=>rw[z]at q;exact⟨lv n,f',fd',ps',q.1,hr,q.2.1,q.2.2.1,q.2.2.2⟩
    |fresh l=>rw[z]at q;exact⟨lv n,f',fd',ps',q.1,hr,q.2.1,q.2.2.1,q.2.2.2⟩
    |err y=>rw[z]at q;exact⟨lv n,f',fd',ps',q.1,hr.mono (P0 _),q.2.1,q.2.2.1,q.2.2.2⟩
    |lval d=>rw[z]at q;exact λy hy=>⟨lv n,hr.mono (P0 _),q y hy⟩
    |mval d k=>rw[z]at q;exact λg' ls k ds'' h1 h2 C h3=>let ⟨a,b⟩:=q g' ls k ds'' h1 h2 C h3;⟨⟨lv n,f',fd',ps',a,hr.mono (P0 _),b⟩⟩
    |merr y=>rw[z]at q;exact λg' ls k ds'' h1 h2 C h3=>let ⟨a,b⟩:=q g' ls k ds'' h1 h2 C h3;⟨⟨lv n,f',fd',ps',a,hr.mono (P0 _),b⟩⟩
    |no=>trivial
   cases hlam:F.lam with
   |true =>
    obtain⟨f,fd,ps,_⟩:=ih x ds;refine⟨f,fd,ps,?_⟩;by_cases hl:ds.length=F.n
    .have e:evP fu G T (n+1) x ds=j3u (fin (run fu (evP fu G T n) G F.body (enter F ds))):=by simp only[evP,hF,if_pos hl,hlam,if_true]
     rw[e];obtain⟨y,ey,L⟩:=(hT x F hF).2 hlam;obtain⟨tx,N,ps,ex,htx,hsc,hN,hnn,hbd,hba,htr⟩:=L.ex;cases ho:fin (run fu (evP fu G T n) G F.body (enter F ds)) with
     |val d =>intro y' hy';have eyy:y=y':=j8v (ey.symm.trans hy');subst eyy;refine jg9 (k:=lv n+1) htx hsc (λds' d' h=>by rw[h.1,hl,hN]) hba λa c cl A outer s H hcl hr ds' d' ⟨e1,e2⟩=>?_;subst e1 e2;have ab:j8 (jx N ds')=enter F ds':=Rg hl (by rw[hN,hnn]);rw[hbd,<-ab]at ho;obtain⟨r,er,ed⟩:=jev ho;exact ed▸(sound (htr a c cl A outer s H) (Va t rfl rfl rfl rfl rfl (Zm _) hr hsc.nd Tf λz hz hq=>absurd (Wd hq▸hz) (j3v y)) (gok rfl rfl rfl rfl rfl hr) (jx N ds') r er).toT
     |fresh l=>trivial
     |err z=>trivial
     |lval z=>trivial
     |mval z k=>trivial
     |merr z=>trivial
     |no=>trivial
    .have e:evP fu G T (n+1) x ds=.no:=by simp only[evP,hF,if_neg hl]
     rw[e];trivial
   |false =>
   rcases(hT x F hF).1 hlam with ⟨L,hlast,hhead⟩|L
   rotate_left
   .obtain⟨g0,p,st,f,fd,N,ps,hxg,hbody,hfun,hsc,hps,hN,hp0,hpN,hb,hm,⟨C0,hC0,hPc⟩,hmp⟩:=L.ex;refine⟨f,fd,ps,?_⟩;by_cases hl:ds.length=F.n
    .have e:evP fu G T (n+1) x ds=fin (run fu (evP fu G T n) G F.body (enter F ds)):=by simp only[evP,hF,if_pos hl,hlam,Xv,if_false]
     rw[e,hbody,run];cases ho:pxS (enter F ds)[0]? (enter F ds)[1]? λls k=>Jz fu (evP fu G T n) G ls p (.exc rfN::(enter F ds).drop 2) k with
     |next ρ' =>
      exfalso;unfold pxS at ho
      repeat' split at ho
      all_goals cases ho
     |brk _=>trivial
     |cnt _=>trivial
     |no=>trivial
     |err y ρ' =>
      exfalso;unfold pxS at ho
      repeat' split at ho
      all_goals cases ho
     |ret r =>
      have key:∀g ls (k:Nat) ds',x=mq g->ds=.lst (ls.map D.str)::.int (k:Int)::ds'->g0=g/\ds'.length+1=ps.length/\∀a:aa,
        (∀d k',r=.mval d k'->Jz fu (evP fu G T n) G ls p (j8 (startM N a ds')) k=.ret d k')/\(∀y,r=.merr y->∃ρ',Jz fu (evP fu G T n) G ls p (j8 (startM N a ds')) k=.err y ρ'):=λg ls k ds' h1 h2=>by
       refine⟨jfy (hxg.symm.trans h1),?_,λa=>?_⟩
       .rw[h2]at hl;simp only[xx]at hl;omega
       rw[j1p (F:=F) (ls:=ls.map D.str) (k:=(k:Int)) (by rw[h2]at hl;simp only[xx]at hl;omega) hN,<-h2];have e0:(enter F ds)[0]?=a3 (.val (.lst (ls.map D.str))):=by rw[h2];rfl
       have e1:(enter F ds)[1]?=a3 (.val (.int (k:Int))):=by rw[h2];rfl
       rw[e0,e1]at ho;unfold pxS at ho;simp only[j1t,Xh,jZ,if_true]at ho;split at ho
       .rename_i d k' z;cases ho;exact⟨λd2 k2 q=>(by cases q;exact z),λy q=>(by cases q)⟩
       .rename_i y ρ' z;cases ho;exact⟨λd2 k2 q=>(by cases q),λy q=>(by cases q;exact⟨_,z⟩)⟩
       .cases ho
      have sh:(∃d k',r=.mval d k')\/∃y,r=.merr y:=by
       unfold pxS at ho
       repeat' split at ho
       all_goals (cases ho)
       .exact .inl ⟨_,_,rfl⟩
       .exact .inr ⟨_,rfl⟩
      rcases sh with ⟨d,k',er⟩|⟨y,er⟩
      .subst er;intro g ls k ds' h1 h2 C hC;obtain⟨eg,hl2,kk⟩:=key g ls k ds' h1 h2;subst eg;cases hC0.symm.trans hC;refine⟨jm5 (n:=lv n+1) hfun hsc (λls2 k2 ds2 d2 k2' h=>by rw[h.2.2.1,hl2]) λcdv A outer s H E hcv hr o ls2 k2 ds2 d2 k2' h=>?_,hm,hfun.kp,hb⟩;obtain⟨rfl,rfl,rfl,rfl,rfl⟩:=h;have ck:=Va t (X:=(qi CX0 P w K mg base N g0 (j0 st) f cdv A outer s H E).nox) rfl rfl rfl rfl rfl (Zm _) hr hsc.nd Tf (Ul t hm hcv rfl rfl);refine hmp cdv A outer s H E _ fu (evP fu G T n) G ck (gok rfl rfl rfl rfl rfl hr) C0 hC0 (j3j hPc rfl rfl rfl rfl rfl (Zm _) hr) o _ _ _ _ ⟨dOb,?_⟩ ?_
       .unfold startM;exact Zg (by unfold jx;rw[X6,xj,xx];omega)
       .rw[(kk o.a).1 _ _ rfl];exact⟨rfl,rfl⟩
      .subst er;intro g ls k ds' h1 h2 C hC;obtain⟨eg,hl2,kk⟩:=key g ls k ds' h1 h2;subst eg;cases hC0.symm.trans hC;refine⟨jk5 (n:=lv n+1) hfun hsc (λls2 k2 ds2 y2 h=>by rw[h.2.2.1,hl2]) λcdv A outer s H E hcv hr o ls2 k2 ds2 y2 h=>?_,hm,hfun.kp,hb⟩;obtain⟨rfl,rfl,rfl,rfl⟩:=h;have ck:=Va t (X:=qi (CX1 P w) P w K mg base N g0 (j0 st) f cdv A outer s H E) rfl rfl rfl rfl rfl (Zm _) hr hsc.nd eT (Ul t hm hcv rfl rfl);refine hmp cdv A outer s H E (qi (CX1 P w) P w K mg base N g0 (j0 st) f cdv A outer s H E).xe fu (evP fu G T n) G ck (gok rfl rfl rfl rfl rfl hr) C0 hC0 (j3j hPc rfl rfl rfl rfl rfl (Zm _) hr) o _ _ _ _ ⟨dOb,?_⟩ ?_
       .unfold startM;exact Zg (by unfold jx;rw[X6,xj,xx];omega)
       .obtain⟨ρ',z⟩:=(kk o.a).2 _ rfl;rw[z];exact λ_ _=>rfl
    .have e:evP fu G T (n+1) x ds=.no:=by simp only[evP,hF,if_neg hl]
     rw[e];trivial
   obtain⟨st,f,fd,N,ps,hfun,hsc,hps,hN,hb,hdf,hm,hts⟩:=L.ex;refine⟨f,fd,ps,?_⟩;by_cases hl:ds.length=F.n
   .have e:evP fu G T (n+1) x ds=fin (run fu (evP fu G T n) G F.body (enter F ds)):=by simp only[evP,hF,if_pos hl,hlam,Xv,if_false]
    have ab:j8 (jx N ds)=enter F ds:=Rg hl hN;cases ho:run fu (evP fu G T n) G F.body (enter F ds) with
    |next ρ' =>rw[e,ho];refine⟨Dy (k:=lv n+1) hfun hsc (λds' d' h=>by rw[h.1,hl,hps]) λcdv A outer s H E hcv hr ds' d' ⟨e1,e2⟩=>?_,hm,hfun.kp,hb,hdf⟩;subst e1 e2;refine Yu (fu:=fu) (hts cdv A outer s H E _) (Va t rfl rfl rfl rfl rfl (Zm _) hr hsc.nd Tf (Ul t hm hcv rfl rfl)) (gok rfl rfl rfl rfl rfl hr) (jx N ds') _ ?_;rw[ab,ho];exact λ_ _=>rfl
    |ret r =>
     rw[e,ho];cases r with
     |no=>trivial
     |lval d=>exact λy hy=>absurd (hy▸Lp y) hlast
     |mval d k=>exact λg _ _ _ hy=>absurd (hy▸j28 g) hhead
     |merr d=>exact λg _ _ _ hy=>absurd (hy▸j28 g) hhead
     |err y =>refine⟨j6h (k:=lv n+1) hfun hsc (λds' d' h=>by rw[h.1,hl,hps]) λcdv A outer s H E hcv hr ds' y' ⟨e1,e2⟩=>?_,hm,hfun.kp,hb⟩;subst e1 e2;refine Yu (X:=qi (CX1 P w) P w K mg base N x (j0 st) f cdv A outer s H E) (fu:=fu) (hts cdv A outer s H E (qi (CX1 P w) P w K mg base N x (j0 st) f cdv A outer s H E).xe) (Va t rfl rfl rfl rfl rfl (Zm _) hr hsc.nd eT (Ul t hm hcv rfl rfl)) (gok rfl rfl rfl rfl rfl hr) (jx N ds') _ ?_;rw[ab,ho];intro z hz;cases z<;>cases hz
     |val d =>
      refine⟨Dy (k:=lv n+1) hfun hsc (λds' d' h=>by rw[h.1,hl,hps]) λcdv A outer s H E hcv hr ds' d' ⟨e1,e2⟩=>?_,hm,hfun.kp,hb,hdf⟩;subst e1 e2;refine Yu (fu:=fu) (hts cdv A outer s H E _) (Va t rfl rfl rfl rfl rfl (Zm _) hr hsc.nd Tf (Ul t hm hcv rfl rfl)) (gok rfl rfl rfl rfl rfl hr) (jx N ds') _ ?_;rw[ab,ho];intro y hy;cases y with
      |val d=>cases hy;rfl
      |fresh l=>cases hy
     |fresh l =>
      refine⟨j98 (k:=lv n+1) hfun hsc (λds' d' h=>by rw[h.1,hl,hps]) λcdv A outer s H E hcv hr ds' d' ⟨e1,e2⟩=>?_,hm,hfun.kp,hb,hdf⟩;subst e1 e2;refine Yu (fu:=fu) (hts cdv A outer s H E _) (Va t rfl rfl rfl rfl rfl (Zm _) hr hsc.nd Tf (Ul t hm hcv rfl rfl)) (gok rfl rfl rfl rfl rfl hr) (jx N ds') _ ?_;rw[ab,ho];intro y hy;cases y with
      |val d=>cases hy
      |fresh l=>cases hy;rfl
    |err y ρ' =>rw[e,ho];refine⟨j6h (k:=lv n+1) hfun hsc (λds' d' h=>by rw[h.1,hl,hps]) λcdv A outer s H E hcv hr ds' y' ⟨e1,e2⟩=>?_,hm,hfun.kp,hb⟩;subst e1 e2;refine Yu (X:=qi (CX1 P w) P w K mg base N x (j0 st) f cdv A outer s H E) (fu:=fu) (hts cdv A outer s H E (qi (CX1 P w) P w K mg base N x (j0 st) f cdv A outer s H E).xe) (Va t rfl rfl rfl rfl rfl (Zm _) hr hsc.nd eT (Ul t hm hcv rfl rfl)) (gok rfl rfl rfl rfl rfl hr) (jx N ds') _ ?_;rw[ab,ho];exact λ_ _=>rfl
    |brk _=>rw[e,ho];trivial
    |cnt _=>rw[e,ho];trivial
    |no=>rw[e,ho];trivial
   .have e:evP fu G T (n+1) x ds=.no:=by simp only[evP,hF,if_neg hl]
    rw[e];trivial
end
noncomputable def Gof(gs:List (af×D))(q:Bool)(xs:List (af×List D))(fs:List af)(x:af):Option D :=
 if Y6 x=a7 then(if x = "?" then(if q=a7 then a3 (.bl a7)else a5) else((xs.find? λp=>bang p.1==x).map λp=>.lst p.2).or (if (fs.any λf=>qm f==x)=a7 then a3 .non else a5))else gs.lookup x
theorem ja5{x y:af}(h:bang x=bang y):x=y:=by unfold bang at h;have h:(⟨("!":af).cps++x.cps⟩:af)=⟨("!":af).cps++y.cps⟩:=h;have h:=congrArg k6 h;have e:x.cps=y.cps:=dZ h rfl;cases x;cases y;cases e;rfl
theorem j1m(x:af):Y6 (bang x)=a7:=by unfold Y6;rw[Mm];rfl
theorem j7g(x:af):Y6 (qm x)=a7:=by unfold Y6;rw[j1z];rfl
theorem j0g{gs:List (af×D)}{q:Bool}{xs:List (af×List D)}{fs:List af}{x:af}{d:D}(h:Gof gs q xs fs (bang x)=a3 d):∃p∈xs,p.1=x/\d=.lst p.2:=by
 unfold Gof at h;rw[if_pos (j1m x),if_neg (j2v x)]at h;have hn:(fs.any λf=>qm f==bang x)=a4:=by rw[List.any_eq_false];intro f _ e;exact j2u x f (beq_iff_eq.mp e).symm
 rw[hn,if_neg (by decide),Option.or_none]at h;obtain⟨p,hp,rfl⟩:=Xu.mp h;have z:=List.find?_some (p:=λp:af×List D=>bang p.1==bang x) hp;exact⟨p,List.mem_of_find?_eq_some hp,ja5 (beq_iff_eq.mp z),rfl⟩
theorem j0f{gs:List (af×D)}{q:Bool}{xs:List (af×List D)}{fs:List af}{x:af}{d:D}(h:Gof gs q xs fs (qm x)=a3 d):x∈fs:=by
 unfold Gof at h;rw[if_pos (j7g x),if_neg (Kw x)]at h;have hn:(xs.find? λp=>bang p.1==qm x)=a5:=by rw[List.find?_eq_none];intro p _ e;exact j2u p.1 x (beq_iff_eq.mp e)
 rw[hn,Option.map_none,Option.none_or]at h;split at h
 .rename_i z;obtain⟨f,hf,e⟩:=List.any_eq_true.mp z;exact jf6 (beq_iff_eq.mp e)▸hf
 .cases h
theorem jim{P:au}{w:aA}{K:k8y}{mg:k91}{base:aD}{gs:List (af×D)}{q:Bool}{xs:List (af×List D)}{fs:List af}(bt:∀x∈Wb,mg x=a5)
  (gl:∀x d,gs.lookup x=a3 d->∃u v,mg x=a3 u/\RelV v u/\∀H,Enc K H d v) (ea:Z8 K=a7) (hx:∀p∈xs,p.1∈jq/\∃o,W.nsIn K ak p.1=a3 (a3 o))
  (el:q=a7->∀c∈jq,∃v,W.nsIn K ak c=a3 (a3 v)) (kin:K.In base) (ns:base.Ns ak mg) (fn:∀f∈fs,∃fa,mg f=a3 (.ref fa)/\W.keepIn K (.ref fa)=a7) (kd:∀p∈xs,KindsP P w K mg base "_law_kinds" p.1 p.2) (lm:∀x∈Zt,∀f cdv,mg x=a3 (.ref f)->W0 K f cdv->∃c Pt,cdv=.ref c/\W.codeHdIn K c Pt=a7/\W.tabIn K x=a3 (c,Pt)) (pl:("_law_plan":af)∈fs->j7k P w K mg base:=by exact λh=>absurd h (by decide)) (pc:("Pieces":af)∈fs->∃C,mg "Pieces" = a3 (.ref C)/\j4l P w K mg base C:=by exact λh=>absurd h (by decide)):Tb P w K mg base (Gof gs q xs fs):=by
 refine⟨bt,λx d hb h=>?_,ea,λx d h=>?_,λh=>el ?_,kin,ns,λx l h=>?_,λf d h=>fn f (j0f h),λd h=>pl (j0f h),λd h=>pc (j0f h),lm⟩
 .unfold Gof at h;rw[if_neg (by rw[hb];decide)]at h;exact gl x d h
 .obtain⟨p,hp,rfl,_⟩:=j0g h;exact hx p hp
 .unfold Gof at h;rw[if_pos (by decide),if_pos rfl]at h;split at h
  .rename_i z;exact z
  .cases h
 .obtain⟨p,hp,rfl,e⟩:=j0g h;cases e;exact kd p hp
def Ku(K:k8y):Sp:=λvs H Q _=>∃(a:aa)(ns:List Int),vs=[.ref a]/\TabOk K H/\SqL K H a (ns.map V.int)/\ns.length<=63/\∀H':Hp,j4 H H'->Q (.bl a7) H'
theorem j1g{K:k8y}{H:Hp}{a:aa}{ns:List Int}(h:SqL K H a (ns.map V.int)):j5 K H [.lst (ns.map D.int)] [.ref a] :=
 ⟨_,[],rfl,⟨a,_,rfl,h,j5.ints ns⟩,rfl⟩
theorem jg8{P:au}{w:aA}{K:k8y}{mg:k91}{base:aD}{fu:Nat}{G:af->Option D}{T:af->Option Fi}{n:Nat}{x p:af}{fa:aa}{st:aP}{F:Fi}
  (hT:∀x F,T x=a3 F->LkF P w K mg base x F) (t:Tb P w K mg base G)
  (hx:T x=a3 F) (hlam:F.lam=a4) (hm:mg x=a3 (.ref fa)) {fd:aG} (hfun:Fun K x x st fa fd) (N:List af) (hsc:FnScope N [p] (j0 st)) (h1:F.n=1) (hN:N.length=F.nn)
  (hts:∀(cdv:a8)(A:aB)(outer:List cH)(s:ae)(H:Hp)(E:XK)(xe:k8z),Ts ((qi CX0 P w K mg base N x (j0 st) fa cdv A outer s H E).wish xe) F.body (.ss (jd st)))
  (hlaw:∀ns:List Int,ns.length<=63->evP fu G T (n+1) x [.lst (ns.map D.int)]=.val (.bl a7)):FnOk P w K mg base CX0 (lv (n+1)) fa fd [p] (Ku K):=by
 have S:FnOk P w K mg base CX0 (lv (n+1)) fa fd [p] (spP K λds d=>∃ns:List Int,ns.length<=63/\ds=[.lst (ns.map D.int)]/\d=.bl a7):=by
  refine Dy (k:=lv n+1) hfun hsc (λds d ⟨ns,_,h,_⟩=>by rw[h];rfl) λcdv A outer s H E hcv hr ds d ⟨ns,hns,e1,e2⟩=>?_;subst e1 e2;have e:=hlaw ns hns;simp only[evP,hx,h1,hlam,Xv,if_false,xx,Pr,if_true]at e;have ab:j8 (jx N [D.lst (ns.map D.int)])=enter F [D.lst (ns.map D.int)]:=Rg (by rw[h1];rfl) hN;have g:Gok (qi CX0 P w K mg base N x (j0 st) fa cdv A outer s H E).nox (evP fu G T n):=λg ds'=>by
   obtain⟨f',fd',ps',q⟩:=Ng (fu:=fu) hT t n g ds';cases z:evP fu G T n g ds' with
   |val d=>rw[z]at q;exact⟨lv n,f',fd',ps',q.1,hr,q.2.1,q.2.2.1,q.2.2.2⟩
   |fresh l=>rw[z]at q;exact⟨lv n,f',fd',ps',q.1,hr,q.2.1,q.2.2.1,q.2.2.2⟩
   |err y=>rw[z]at q;exact⟨lv n,f',fd',ps',q.1,hr.mono (P0 _),q.2.1,q.2.2.1,q.2.2.2⟩
   |lval d=>rw[z]at q;exact λy hy=>⟨lv n,hr.mono (P0 _),q y hy⟩
   |mval d k=>rw[z]at q;exact λg' ls k ds'' h1 h2 C h3=>let ⟨a,b⟩:=q g' ls k ds'' h1 h2 C h3;⟨⟨lv n,f',fd',ps',a,hr.mono (P0 _),b⟩⟩
   |merr y=>rw[z]at q;exact λg' ls k ds'' h1 h2 C h3=>let ⟨a,b⟩:=q g' ls k ds'' h1 h2 C h3;⟨⟨lv n,f',fd',ps',a,hr.mono (P0 _),b⟩⟩
   |no=>trivial
  refine Yu (fu:=fu) (hts cdv A outer s H E _) (Va t rfl rfl rfl rfl rfl (Zm _) hr hsc.nd Tf (Ul t hm hcv rfl rfl)) g (jx N _) _ ?_;rw[ab];cases ho:run fu (evP fu G T n) G F.body (enter F [D.lst (ns.map D.int)]) with
  |ret r =>
   rw[ho]at e;have e:r=.val (.bl a7):=e;subst e;intro y hy;cases y with
   |val d=>cases hy;rfl
   |fresh l=>cases hy
  |next ρ'=>rw[ho]at e;cases e
  |brk _=>rw[ho]at e;cases e
  |cnt _=>rw[ho]at e;cases e
  |err _ _=>rw[ho]at e;cases e
  |no=>rw[ho]at e;cases e
 refine S.imp λvs H Q E ⟨a,ns,hv,tb,hS,hl,k⟩=>?_;subst hv;exact⟨[],_,_,tb,(λa h=>nomatch h),by rw[zy];exact j1g hS,⟨ns,hl,rfl,rfl⟩,λv H' g e=>by cases(show v=.bl a7 from e);exact k H' g⟩
noncomputable def Ks(K:k8y):List (aa×af):=Zt.filterMap λx=>(W.tabIn K x).map λq=>(q.2,ju x)
noncomputable def tOk(K:k8y)(ts:List aa):Bool:=(Zt.all λx=>match W.nsIn K ak x with
  |some a5=>a7
  |_=>match W.tabIn K x with
   |some (c,P)=>W.codeHdIn K c P&&ts.contains P
   |none=>a4)&&W.noTabs K&&decide ((Ks K).map (·.1)).Nodup
theorem jbg{K:k8y}{ts:List aa}{h:aD}(hk:tOk K ts=a7)(X:K.In h)(ht:∀P∈ts,h.get? P=a3 (W.tabObj #[])):jaa (Ks K) h:=by
 unfold tOk at hk;rw[Xg,Xg]at hk;refine⟨of_decide_eq_true hk.2,λt hm=>?_⟩;obtain⟨x,hx,e⟩:=t6.mp hm;obtain⟨⟨c,P⟩,e1,e2⟩:=Xu.mp e;subst e2;have z:=Xq.mp hk.1.1 x hx;split at z
 .rename_i y;exfalso;unfold W.tabIn at e1;rw[y]at e1;cases e1
 .rw[e1]at z;have z:(W.codeHdIn K c P&&ts.contains P)=a7:=z;rw[Xg]at z;exact⟨⟨c,W.codeHd_of_K X z.1⟩,ht P (by simpa using z.2)⟩
theorem jji{K:k8y}{ts:List aa}{h:aD}{mg:k91}(hk:tOk K ts=a7)(X:K.In h)(Gn:h.Ns ak mg):∀x∈Zt,∀f cdv,mg x=a3 (.ref f)->W0 K f cdv->∃c Pt,cdv=.ref c/\W.codeHdIn K c Pt=a7/\W.tabIn K x=a3 (c,Pt):=λx hx f cdv hm hcv=>by
 unfold tOk at hk;rw[Xg,Xg]at hk;have z:=Xq.mp hk.1.1 x hx;split at z
 .rename_i y;rw[W.mg_none_of X Gn y]at hm;cases hm
 .split at z
  .rename_i c P e;rw[Xg]at z;refine⟨c,P,?_,z.1,e⟩;obtain⟨oc,od,fd,sl,e3,e4⟩:=hcv;unfold W.tabIn at e;split at e
   .rename_i f' hf;have e5:=W.mg_of X Gn hf;rw[hm]at e5;cases e5;rw[e3]at e;dsimp only at e;split at e
    .rename_i c' hc;split at e
     .split at e
      .cases e;rw[<-e4];exact hc
      .cases e
     .cases e
    .cases e
   .cases e
  .cases z
theorem jec{K:k8y}{H:Hp}(hO:Only (Ks K) H):TabOk K H:=λx hx c P e=>hO.2 (P,ju x) (t6.mpr ⟨x,hx,by rw[e];rfl⟩)
theorem j5y{K:k8y}{ts:List aa}(hk:tOk K ts=a7):W.noTabs K=a7:=by unfold tOk at hk;rw[Xg,Xg]at hk;exact hk.1.2
theorem walkL{l:dF}{q:au}{loose:List af}{XP:(af->Option a8)->aD->Prop}{YP:aA->aD->Prop}{d:DefRec}{K:mP->k8y}{k:Nat}{x:af}{ts:List aa}(hk:k<=100)(hn:l.most=a3 63)(hdf:d.params.defaults=[])
  (hY:∀(w:aA)(h:aD),YP w h->(K w.params).In h/\∀P∈ts,h.get? P=a3 (W.tabObj #[])) (hK:∀w:aA,tOk (K w.params) ts=a7)
  (F:∀(w:aA)(mg:k91)(fa:aa)(h:aD),(K w.params).In h->h.Ns ak mg->mg d.name=a3 (.ref fa)->tOk (K w.params) ts=a7 ->
   ∃fd:aG,(∀(s:ae)(u:a8),dD s fd ⟨[u],[]⟩ [(x,u)])/\∀base:aD,(K w.params).In base->base.Ns ak mg->FnOk l.prog w (K w.params) mg base CX0 k fa fd [x] (Ku (K w.params))) :
  iR q loose XP YP l.row.toRowW d [] (λf vs=>iW f vs) :=
 L2.walk_of (n:=63) (k:=k) (x:=x) (CX:=λ_=>CX0) (sp:=λw=>Ku (K w.params)) (ts:=λw=>Ks (K w.params)) hn (by decide) hdf
  (Room.mono (k:=100) ⟨rfl,by decide,by decide,rfl⟩ hk) (λw h Y=>⟨(hY w h Y).1,jbg (hK w) (hY w h Y).1 (hY w h Y).2⟩) (λw=>j5y (hK w)) (λw mg fa h X G m=>F w mg fa h X G m (hK w)) (λw H a ns hl hO hS=>⟨a,ns,rfl,jec hO,hS,hl,λH' g=>⟨rfl,g⟩⟩) λ_ _ _ _ _ z=>z
def Lf(K:k8y)(x:af)(st:aP):Prop:=∃(f:aa)(oc:a8)(od:Option aa)(kV dc pm:a8)(an:Option aa)(cd ct:a8)(sl:Array (Option a8)),W.nsIn K ak x=a3 (a3 (.ref f)) /\
 K.lookup f=a3 ⟨oc,od,.func (W.fnOf x x (qg st) (jd st) (j0 st) .none kV dc pm an cd ct),sl⟩/\W.codeIn K cd x=a7/\W.keepIn K (.ref f)=a7
def Lfd(K:k8y)(x:af)(st:aP):Prop:=∃(f:aa)(oc:a8)(od:Option aa)(kV dc pm:a8)(an:Option aa)(cd ct:a8)(sl:Array (Option a8)) (dt:aa) (n:Nat) (ts:Array (Option a8)),W.nsIn K ak x=a3 (a3 (.ref f)) /\
 K.lookup f=a3 ⟨oc,od,.func (W.fnOf x x (qg st) (jd st) (j0 st) (.ref dt) kV dc pm an cd ct),sl⟩/\W.codeIn K cd x=a7/\W.keepIn K (.ref f)=a7/\K.lookup dt=a3 ⟨.type "tuple",a5,.seq #[.none] n,ts⟩
def TrT(P:au)(w:aA)(K:k8y)(mg:k91)(base:aD)(x:af)(N:List af)(st:aP)(b:Sx):Prop :=
 ∀(f:aa)(cdv:a8)(A:aB)(outer:List cH)(s:ae)(H:Hp)(E:XK) (xe:k8z),Ts ((qi CX0 P w K mg base N x (j0 st) f cdv A outer s H E).wish xe) b (.ss (jd st))
def TrH(P:au)(w:aA)(K:k8y)(mg:k91)(base:aD)(x:af)(N:List af)(st:aP)(b:Sx):Prop :=
 ∀(f:aa)(cdv:a8)(A:aB)(outer:List cH)(s:ae)(H:Hp),Ts { (qi CX0 P w K mg base N x (j0 st) f cdv A outer s H E0).nox with calm:=a4 } b (.ss (jd st))
noncomputable def lamT(st:aP):Tx:=(Bj (jd st)).getD ({ posonlyargs:=[],args:=[],vararg:=a5,kwonlyargs:=[],kw_defaults:=[],kwarg:=a5,defaults:=[] },.Name "" ⟨0,0,0,0⟩,{ kind:=.function,names:=[],isGenerator:=a4,isCoroutine:=a4 })
def TrL(P:au)(w:aA)(K:k8y)(mg:k91)(base:aD)(x:af)(N:List af)(t:Tx)(e:Ex):Prop :=
 ∀(a c:aa)(cl:List (af×aa)) (A:aB) (outer:List cH) (s:ae) (H:Hp),Tr (Uo P w K mg base N (ju x) t.2.2 a (.ref c) cl A outer s H) e (.e t.2.1)
theorem jcr{sc:b9}(x:af)(h:sc.names.lookup x=a3 .free):x∈v7 sc:=by unfold v7;rw[List.mem_reverse];exact Xe.mpr ⟨(x,.free),Xz.mpr ⟨lookup_mem h,rfl⟩,rfl⟩
noncomputable def bOk(K:k8y):Bool:=Wb.all λx=>match W.nsIn K ak x with
 |some a5=>a7
 |_=>a4
noncomputable def xOk(K:k8y):Bool:=jq.all λx=>match W.nsIn K ak x with
 |some (a3 _)=>a7
 |_=>a4
section
variable{P:au}{w:aA}{K:k8y}{mg:k91}{base h:aD}{x:af}{st:aP}{N ps:List af}{F:Fi}
theorem jkd(X:K.In h)(Gn:h.Ns ak mg)(hb:bOk K=a7):∀x∈Wb,mg x=a5:=λx hx=>by
 have z:=Xq.mp hb x hx;split at z
 .rename_i e;exact W.mg_none_of X Gn e
 .cases z
theorem jka(hx:xOk K=a7):∀c∈jq,∃v,W.nsIn K ak c=a3 (a3 v):=λc hc=>by
 have z:=Xq.mp hx c hc;split at z
 .rename_i v e;exact⟨v,e⟩
 .cases z
theorem j3f(L:Lf K x st)(X:K.In h)(Gn:h.Ns ak mg):∃fa,mg x=a3 (.ref fa)/\W.keepIn K (.ref fa)=a7:=by obtain⟨f,oc,od,kV,dc,pm,an,cd,ct,sl,a,l,c,k⟩:=L;exact⟨f,W.mg_of X Gn a,k⟩
theorem q9(L:Lf K x st)(X:K.In h)(Gn:h.Ns ak mg)(t:TrT P w K mg base x N st F.body)(ps:List af)(sc:FnScope N ps (j0 st))(h1:ps.length=F.n)(h2:N.length=F.nn)
  (hb:∀(kV doc pm:a8)(an:Option aa)(cdv ct:a8)(us:List a8),us.length=ps.length->cD (W.fnOf x x (qg st) (jd st) (j0 st) .none kV doc pm an cdv ct) ⟨us,[]⟩=pure (ps.zip us)) (hd:x∉jhj):Lk P w K mg base x F:=by
 obtain⟨f,oc,od,kV,dc,pm,an,cd,ct,sl,a,l,c,k⟩:=L;exact⟨st,f,_,N,ps,W9 l c k,sc,h1,h2,(W9 l c k).binds hb,λz=>absurd z hd,W.mg_of X Gn a,t f⟩
theorem j06(L:Lfd K x st)(X:K.In h)(Gn:h.Ns ak mg)(t:TrT P w K mg base x N st F.body)(ps:List af)(sc:FnScope N ps (j0 st))(h1:ps.length=F.n)(h2:N.length=F.nn)(h3:0<ps.length)
  (hb:∀(dt:aa)(n:Nat)(ts:Array (Option a8)) (kV doc pm:a8) (an:Option aa) (cdv ct:a8) (s:ae),K.In s.heap->K.lookup dt=a3 ⟨.type "tuple",a5,.seq #[.none] n,ts⟩ ->
   (∀us:List a8,us.length=ps.length->dD s (W.fnOf x x (qg st) (jd st) (j0 st) (.ref dt) kV doc pm an cdv ct) ⟨us,[]⟩ (ps.zip us)) /\
   (∀us:List a8,us.length+1=ps.length->dD s (W.fnOf x x (qg st) (jd st) (j0 st) (.ref dt) kV doc pm an cdv ct) ⟨us,[]⟩ (ps.zip (us++[.none]))) /\
   ∀(us:List a8)(v:a8),us.length+1=ps.length->dD s (W.fnOf x x (qg st) (jd st) (j0 st) (.ref dt) kV doc pm an cdv ct) ⟨us,[("prices",v)]⟩ (ps.zip (us++[v]))):Lk P w K mg base x F:=by
 obtain⟨f,oc,od,kV,dc,pm,an,cd,ct,sl,dt,n,ts,a,l,c,k,td⟩:=L;refine⟨st,f,_,N,ps,W9 l c k,sc,h1,h2,λs us hK hl=>?_,λ_=>⟨λs us hK hl=>?_,jjr h3 λs us v hK hl=>(hb dt n ts kV dc pm an cd ct s hK td).2.2 us v hl⟩,W.mg_of X Gn a,t f⟩
 .rw[Xo]at hl ⊢;exact(hb dt n ts kV dc pm an cd ct s hK td).1 us hl
 .exact(hb dt n ts kV dc pm an cd ct s hK td).2.1 us (by rw[X6]at hl;exact hl)
theorem jg7{p:af}(L:Lf K x st)(X:K.In h)(Gn:h.Ns ak mg)(t:TrH P w K mg base x N st F.body)(sc:FnScope N [p] (j0 st))(h1:1<=N.length)(h2:N.length=F.nn)
  (hb:∀(kV doc pm:a8)(an:Option aa)(cdv ct:a8)(us:List a8),us.length=[p].length->cD (W.fnOf x x (qg st) (jd st) (j0 st) .none kV doc pm an cdv ct) ⟨us,[]⟩=pure ([p].zip us)):LkH P w K mg base x F:=by
 obtain⟨f,oc,od,kV,dc,pm,an,cd,ct,sl,a,l,c,k⟩:=L;exact⟨st,f,_,N,p,W9 l c k,sc,h1,h2,(W9 l c k).binds hb,W.mg_of X Gn a,t f⟩
theorem Wo(L:Lf K x st):Z7 K x=Bj (jd st):=by obtain⟨f,oc,od,kV,dc,pm,an,cd,ct,sl,a,l,c,k⟩:=L;unfold Z7;rw[a];dsimp only;rw[l]
theorem lkF(L:Lk P w K mg base x F)(h:F.lam=a4)(hn:x.cps.toList.getLast?≠a3 62)(hh:x.cps.toList.head?≠a3 64):LkF P w K mg base x F:=⟨λ_=>.inl ⟨L,hn,hh⟩,λz=>by rw[h]at z;cases z⟩
theorem j66{e:Ex}{q:af}(hq:q=ju x)(h:Z7 K x=Bj (jd st))(ht:Bj (jd st)=a3 (lamT st))(tr:TrL P w K mg base x N (lamT st) e)(ps:List af)(sc:LamScope N ps (lamT st).2.2)(h1:N.length=F.n)(h2:F.nn=F.n)(hb:F.body=.ret e)(hl:F.lam=a7)
  (ha:∀(cl:List (af×aa)) (pm:a8) (c:aa) (ctv:a8) (us:List a8),us.length=ps.length->cD (W.kla_fn "<lambda>" (ju x) (lamT st).1 (lamT st).2.1 (lamT st).2.2 cl pm (.ref c) ctv) ⟨us,[]⟩=pure (ps.zip us)):LkF P w K mg base q F :=
 ⟨λz=>by(rw[hl]at z;cases z),λ_=>⟨x,hq,⟨lamT st,N,ps,e,h.trans ht,sc,h1,h2,hb,ha,tr⟩⟩⟩
theorem us1{us:List a8}(h:us.length=1):∃a,us=[a]:=by match us,h with|[a],_=>exact⟨a,rfl⟩
theorem us2{us:List a8}(h:us.length=2):∃a b,us=[a,b]:=by match us,h with|[a,b],_=>exact⟨a,b,rfl⟩
theorem us3{us:List a8}(h:us.length=3):∃a b c,us=[a,b,c]:=by match us,h with|[a,b,c],_=>exact⟨a,b,c,rfl⟩
theorem us4{us:List a8}(h:us.length=4):∃a b c d,us=[a,b,c,d]:=by match us,h with|[a,b,c,d],_=>exact⟨a,b,c,d,rfl⟩
theorem us5{us:List a8}(h:us.length=5):∃a b c d e,us=[a,b,c,d,e]:=by match us,h with|[a,b,c,d,e],_=>exact⟨a,b,c,d,e,rfl⟩
end
theorem lf_mk{K:k8y}{x:af}{st:aP}{f:aa}{oc:a8}{od:Option aa}{kV dc pm:a8}{an:Option aa}{cd ct:a8}{sl:Array (Option a8)}(a:W.nsIn K ak x=a3 (a3 (.ref f)))
  (l:K.lookup f=a3 ⟨oc,od,.func (W.fnOf x x (qg st) (jd st) (j0 st) .none kV dc pm an cd ct),sl⟩) (c:W.codeIn K cd x=a7) (k:W.keepIn K (.ref f)=a7):Lf K x st:=⟨f,oc,od,kV,dc,pm,an,cd,ct,sl,a,l,c,k⟩
theorem lfd_mk{K:k8y}{x:af}{st:aP}{f:aa}{oc:a8}{od:Option aa}{kV dc pm:a8}{an:Option aa}{cd ct:a8}{sl:Array (Option a8)}{dt:aa}{n:Nat}{ts:Array (Option a8)}(a:W.nsIn K ak x=a3 (a3 (.ref f)))
  (l:K.lookup f=a3 ⟨oc,od,.func (W.fnOf x x (qg st) (jd st) (j0 st) (.ref dt) kV dc pm an cd ct),sl⟩) (c:W.codeIn K cd x=a7) (k:W.keepIn K (.ref f)=a7) (t:K.lookup dt=a3 ⟨.type "tuple",a5,.seq #[.none] n,ts⟩):Lfd K x st:=⟨f,oc,od,kV,dc,pm,an,cd,ct,sl,dt,n,ts,a,l,c,k,t⟩
structure PcS(P:au)(w:aA)(K:k8y)(mg:k91)(base:aD)(sI sA sT sL:aP):Prop where
 scI:FnScope ["self","text"] ["self","text"] (j0 sI)
 scA:FnScope ["self"] ["self"] (j0 sA)
 scT:FnScope ["self","piece"] ["self"] (j0 sT)
 scL:FnScope ["self"] ["self"] (j0 sL)
 boI:∃(n n2:Nat)(p1 p2 p3 p4 p5 p6 p7 p8 p9 p10 p11:aJ),jd sI=jjx n n2 p1 p2 p3 p4 p5 p6 p7 p8 p9 p10 p11/\(p4.endLine==p6.line)=a7
 boA:∃(n:Nat)(p1 p2 p3 p4 p5 p6 p7 p8 p9 p10 p11 p12 p13 p14 p15 p16:aJ),jd sA=ji1 n p1 p2 p3 p4 p5 p6 p7 p8 p9 p10 p11 p12 p13 p14 p15 p16
 boT:∃(n:Nat)(p1 p2 p3 p4 p5 p6 p7 p8 p9 p10 p11 p12 p13 p14:aJ),jd sT=jeb n p1 p2 p3 p4 p5 p6 p7 p8 p9 p10 p11 p12 p13 p14/\∀f cdv A outer s H E,jkx (qi CX0 P w K mg base ["self","piece"] "Pieces.taken" (j0 sT) f cdv A outer s H E).nox (.Name "self" p2) "ahead" p3 p4
 boL:∃(p1 p2 p3 p4 p5 p6 p7 p8:aJ),jd sL=allB p1 p2 p3 p4 p5 p6 p7 p8
 vi:Vis (j0 sI) "self"/\Vis (j0 sI) "text"/\Vis (j0 sA) "self"/\Vis (j0 sT) "self"/\Vis (j0 sL) "self"
 na:(j0 sA).names.lookup ("len":af)=a3 .globalImplicit/\(j0 sT).names.lookup ("piece":af)=a3 .local/\(j0 sL).names.lookup ("len":af)=a3 .globalImplicit
 biI:∀(kV doc pm:a8)(an:Option aa)(cdv ct:a8)(us:List a8),us.length=2->cD (W.fnOf "__init__" "Pieces.__init__" (qg sI) (jd sI) (j0 sI) .none kV doc pm an cdv ct) ⟨us,[]⟩=pure ((["self","text"]:List af).zip us)
 biA:∀(kV doc pm:a8)(an:Option aa)(cdv ct:a8)(us:List a8),us.length=1->cD (W.fnOf "ahead" "Pieces.ahead" (qg sA) (jd sA) (j0 sA) .none kV doc pm an cdv ct) ⟨us,[]⟩=pure ((["self"]:List af).zip us)
 biT:∀(kV doc pm:a8)(an:Option aa)(cdv ct:a8)(us:List a8),us.length=1->cD (W.fnOf "taken" "Pieces.taken" (qg sT) (jd sT) (j0 sT) .none kV doc pm an cdv ct) ⟨us,[]⟩=pure ((["self"]:List af).zip us)
 biL:∀(kV doc pm:a8)(an:Option aa)(cdv ct:a8)(us:List a8),us.length=1->cD (W.fnOf "all_taken" "Pieces.all_taken" (qg sL) (jd sL) (j0 sL) .none kV doc pm an cdv ct) ⟨us,[]⟩=pure ((["self"]:List af).zip us)
def Lm(K:k8y)(C f:aa)(x q:af)(st:aP):Prop:=∃(oc:a8)(od:Option aa)(kV dc pm:a8)(an:Option aa)(cd ct:a8)(sl:Array (Option a8)),W.findIn K (.ref C) x=a3 (a3 (.ref f))/\W.isFn K (.ref f)=a7 /\
 K.lookup f=a3 ⟨oc,od,.func (W.fnOf x q (qg st) (jd st) (j0 st) .none kV dc pm an cd ct),sl⟩/\W.codeIn K cd q=a7/\W.keepIn K (.ref f)=a7
structure PcH(K:k8y)(C:aa)(sI sA sT sL:aP):Prop where
 at_:W.nsIn K ak "Pieces" = a3 (a3 (.ref C))
 pg:W.plainGet K C dj=a7
 hd:W.hasDictIn K C=a7
 po:W.plainOver K C=a7
 sa:W.findIn K (.ref C) "__setattr__" = a3 (a3 (.builtin "object.__setattr__"))
 mk_:W.makesIn K C=a7
 kc:W.keepIn K (.ref C)=a7
 nS:W.findIn K (.ref C) "standing" = a3 a5
 nP:W.findIn K (.ref C) "spot" = a3 a5
 mI:∃f,Lm K C f "__init__" "Pieces.__init__" sI
 mA:∃f,Lm K C f "ahead" "Pieces.ahead" sA
 mT:∃f,Lm K C f "taken" "Pieces.taken" sT
 mL:∃f,Lm K C f "all_taken" "Pieces.all_taken" sL
section
variable{P:au}{w:aA}{K:k8y}{mg:k91}{base h:aD}{x g:af}{st:aP}{N ps:List af}{F:Fi}{p:Px}
end
end L2
end
section
namespace L2
open PySem (Str sizeLine argBest)
theorem Jc{n:Nat}(h:n<=1000000):n<=aq:=Xi h (by decide)
theorem lt_size{n:Nat}(h:n<=1000000):n<aq:=cy h (by decide)
noncomputable def Dl(o:So)(f:En->So):So:=match o with
 |.next ρ=>f ρ
 |o=>o
noncomputable def ifS(c:Option Bool)(f g:En->So)(ρ:En):So:=match c with
 |some a7=>f ρ
 |some a4=>g ρ
 |none=>.no
noncomputable def j4c(is:List Nat)(f:En->So)(d:D)(ρ:En):So:=match za is d ρ with
 |some ρ2=>f ρ2
 |none=>.no
noncomputable def jap(is:List Nat)(w:Option W)(f:En->So)(ρ:En):So:=match w with
 |some (.i ds)=>Qx (j4c is f) ds ρ
 |_=>.no
section
variable{fu:Nat}{Γ:af->List D->Rc}{G:af->Option D}{ρ:En}{i j:Nat}{e c k:Ex}{a b:Sx}{is:List Nat}
theorem jbq:run fu Γ G .nop ρ=.next ρ:=(rfl)
theorem jbo:run fu Γ G (.seq a b) ρ=Dl (run fu Γ G a ρ) (run fu Γ G b):=(rfl)
theorem jbn:run fu Γ G (.set i e) ρ=orE (Rr i (ev Γ G e ρ) ρ) (er Γ G e ρ) ρ:=(rfl)
theorem jbr:run fu Γ G (.mov i j) ρ=j03 i j ρ[j]? ρ:=(rfl)
theorem j89:run fu Γ G (.expr e) ρ=orE (Cd (ev Γ G e ρ) ρ) (er Γ G e ρ) ρ:=(rfl)
theorem jbp:run fu Γ G (.ret e) ρ=orE (retS (ev Γ G e ρ)) (er Γ G e ρ) ρ:=(rfl)
theorem j8j{ρ':En}{x:Option af}:orE (.next ρ') x ρ=.next ρ':=(rfl)
theorem j24{r:Rc}{x:Option af}:orE (.ret r) x ρ=.ret r:=(rfl)
theorem jce{y:af}:orE .no (a3 y) ρ=.err y ρ:=(rfl)
theorem jel:Rr i a5 ρ=.no:=(rfl)
theorem jgx:Cd a5 ρ=.no:=(rfl)
theorem jey:retS a5=.no:=(rfl)
noncomputable def erR(G:af->Option D):Rc->Option af
 |.err x=>if (G (bang x)).isSome=a7 then a3 x else a5
 |_=>a5
noncomputable def erC(Γ:af->List D->Rc)(G:af->Option D)(f:af)(w:Option W):Option af:=match w with
 |some (.a rs)=>erR G (Γ f (rs.map Rk.d))
 |_=>a5
theorem jha:ev Γ G (.fst e) ρ=Uv (ev Γ G e ρ):=(rfl)
theorem j0h{rs:List Rk}{ys:List af}(h:rs.length<=1000)(h2:zj rs=a3 ys):Uv (a3 (.a rs))=a3 (.v (.e (.str (Np dj ys)))):=by unfold Uv;dsimp only;rw[if_pos h,h2];rfl
noncomputable def erK(Γ:af->List D->Rc)(G:af->Option D)(f:af)(x:Option af)(w:Option W):Option af:=match x with
 |some x=>if (G (qm f)).isSome=a7 then a3 x else a5
 |none=>erC Γ G f w
theorem Qu{f:af}:er Γ G (.call f e) ρ=erK Γ G f (er Γ G e ρ) (ev Γ G e ρ):=by
 rw[er];cases er Γ G e ρ with
 |some x=>rfl
 |none =>
  cases h:ev Γ G e ρ with
  |none=>rfl
  |some w =>
   cases w with
   |v _=>rfl
   |i _=>rfl
   |a rs =>show(match Γ f (rs.map Rk.d)with|.err x=>_|_=>_)=erR G (Γ f (rs.map Rk.d));cases Γ f (rs.map Rk.d)<;>rfl
theorem Vx{f:af}{w:Option W}:erK Γ G f a5 w=erC Γ G f w:=(rfl)
theorem j42{f x:af}{w:Option W}(h:(G (qm f)).isSome=a7):erK Γ G f (a3 x) w=a3 x:=if_pos h
noncomputable def erN(a:Option af)(w:Option W)(b:Option af):Option af:=match a with
 |some x=>a3 x
 |none=>match w with
  |some (.v _)=>b
  |_=>a5
theorem Qt{b:Ex}:er Γ G (.cons e b) ρ=erN (er Γ G e ρ) (ev Γ G e ρ) (er Γ G b ρ):=by rw[er];rfl
theorem Nz{x:af}{w:Option W}{b:Option af}:erN (a3 x) w b=a3 x:=(rfl)
theorem vp{r:Rk}{b:Option af}:erN a5 (a3 (.v r)) b=b:=(rfl)
theorem Zk:er Γ G .nil ρ=a5:=(rfl)
theorem Zj:er Γ G (.var i) ρ=a5:=(rfl)
theorem jhg{f:Bf}:er Γ G (.blt f e) ρ=a5:=(rfl)
noncomputable def jeu(w:Option W):Option W:=match w with
 |some (.v x)=>match x.d with
  |.str y=>if (aH y).length<=2000 then a3 (.v (.e (.str (aH y))))else a5
  |_=>a5
 |_=>a5
theorem jh3:ev Γ G (.rpr e) ρ=jeu (ev Γ G e ρ):=(rfl)
theorem jgz:ev Γ G (.upr e) ρ=Ih (ev Γ G e ρ):=(rfl)
theorem jet{y:af}(h:(aH y).length<=2000):jeu (a3 (.v (.e (.str y))))=a3 (.v (.e (.str (aH y)))):=if_pos h
theorem je6{y:af}(h:y.length<=1000):Ih (a3 (.v (.e (.str y))))=a3 (.v (.e (.str (cU y)))):=if_pos h
theorem V8{f:af}{rs:List Rk}:erC Γ G f (a3 (.a rs))=erR G (Γ f (rs.map Rk.d)):=(rfl)
theorem Vw{x:af}(h:(G (bang x)).isSome=a7):erR G (.err x)=a3 x:=if_pos h
theorem j5d{x:af}:run fu Γ G (.raise x e) ρ=Wh x (ev Γ G e ρ) (G (bang x)) ρ:=(rfl)
theorem j5h{x:af}{r:Rk}{d:D}:Wh x (a3 (.v r)) (a3 d) ρ=.err x ρ:=(rfl)
noncomputable def j35(i j:Nat)(G:af->Option D)(o:So):So:=match o with
 |.err x ρ'=>match G (bang x) with
  |some (.lst l)=>.next (((ρ'.set j (.exc x)).set i (.own l)).set j .un)
  |_=>.no
 |o=>o
theorem j83:run fu Γ G (.tryK a i j) ρ=j35 i j G (run fu Γ G a ρ):=(rfl)
theorem j4w{ρ':En}:j35 i j G (.next ρ')=.next ρ':=(rfl)
theorem Oo{x:af}{l:List D}{ρ':En}(h:G (bang x)=a3 (.lst l)):j35 i j G (.err x ρ')=.next (((ρ'.set j (.exc x)).set i (.own l)).set j .un):=by unfold j35;dsimp only;rw[h]
theorem j84:run fu Γ G (.retV i) ρ=Ms ρ[i]?:=(rfl)
theorem jbs:run fu Γ G (.ife c a b) ρ=ifS (truth (ev Γ G c ρ)) (run fu Γ G a) (run fu Γ G b) ρ:=(rfl)
theorem j87:run fu Γ G (.loop is e a) ρ=jap is (ev Γ G e (frz e ρ)) (run fu Γ G a) (frz e ρ):=(rfl)
theorem jbu:run fu Γ G (.app i e) ρ=Cq i ρ[i]? (ev Γ G e ρ) ρ:=(rfl)
theorem jbt:run fu Γ G (.ext i e) ρ=Dz i ρ[i]? (ev Γ G e ρ) ρ:=(rfl)
theorem jee{d:D}:stOf (a3 (.v (.e d)))=a3 d:=(rfl)
theorem j88:run fu Γ G (.keep i) ρ=Nk i ρ[i]? ρ:=(rfl)
theorem j68{l:List D}:Nk i (a3 (.own l)) ρ=.next (ρ.set i (.val (.lst l))):=(rfl)
theorem j85{x:af}:run fu Γ G (.retL x is) ρ=N7 x (Qn ρ is):=(rfl)
theorem jbx{x:af}{ds:List D}:N7 x (a3 ds)=.ret (.val (.fn x ds)):=(rfl)
noncomputable def jhm(s:Option Sv)(v:Option (List D)):Option (List D):=match s,v with
 |some (.val d),a3 ds=>a3 (d::ds)
 |_,_=>a5
theorem j31:Qn ρ []=a3 []:=(rfl)
theorem j11:Qn ρ (i::is)=jhm ρ[i]? (Qn ρ is):=(rfl)
theorem jhl{d:D}{ds:List D}:jhm (a3 (.val d)) (a3 ds)=a3 (d::ds):=(rfl)
theorem j86{f x:af}{a b:Ex}:run fu Γ G (.retC f x a b is) ρ=N8 Γ f x (Qn ρ is) (ev Γ G a ρ) (ev Γ G b ρ):=(rfl)
theorem jby{f x:af}{ds:List D}{d d':D}:N8 Γ f x (a3 ds) (a3 (.v (.e d))) (a3 (.v (.e d')))=Kv (Γ f [d,d',.fn x ds]):=(rfl)
theorem jbz{d:D}(h:noFn d=a7):Kv (.val d)=.ret (.val d):=if_pos h
theorem j5e{x t y:Nat}{it e1 e2:Ex}{ds:List D}{r:List (List Int)×List Int}(hc:x<ρ.length/\t<ρ.length/\y<ρ.length/\x≠t/\x≠y/\t≠y)(hi:ev Γ G it (ρ.set x .un)=a3 (.i ds))(hd:Vu (λρ=>stOf (ev Γ G e1 ρ)) (λρ=>stOf (ev Γ G e2 ρ)) x t y ds (ρ.set x .un) [] []=a3 r) :
  run fu Γ G (.nmake x t y it e1 e2) ρ=.ret (.val (.dct r.1 (r.2.map D.int))):=by rw[j2x,if_pos hc,hi];dsimp only;rw[hd]
end
section
variable{f g:En->So}{ρ:En}{i j:Nat}{d:D}{l m:List D}{r:Rc}{x:Rk}
theorem j5a:Dl (.next ρ) f=f ρ:=(rfl)
theorem Ei:Dl (.ret r) f=.ret r:=(rfl)
theorem j7y{x:af}{ρ':En}:Dl (.err x ρ') f=.err x ρ':=(rfl)
theorem jjy:ifS (a3 a7) f g ρ=f ρ:=(rfl)
theorem jjz:ifS (a3 a4) f g ρ=g ρ:=(rfl)
theorem jek:Rr i (a3 (.v (.o l))) ρ=.next (ρ.set i (.own l)):=(rfl)
theorem jem:Rr i (a3 (.v (.e d))) ρ=.next (ρ.set i (.val d)):=(rfl)
theorem jex:retS (a3 (.v (.o l)))=.ret (.fresh l):=(rfl)
theorem j5g:retS (a3 (.v (.e d)))=.ret (.val d):=(rfl)
theorem jew:retS (a3 (.v (.t d)))=.ret (.val d):=(rfl)
theorem jbw:Ms (a3 (.own l))=.ret (.fresh l):=(rfl)
theorem jbv:Ms (a3 (.val d))=.ret (.val d):=(rfl)
theorem jfz(h:i≠j):j03 i j (a3 (.own l)) ρ=.next ((ρ.set j .un).set i (.own l)):=if_neg h
theorem jgw:Cd (a3 (.v x)) ρ=.next ρ:=(rfl)
theorem Yq:j4c [i] f d ρ=f (ρ.set i (.val d)):=(rfl)
theorem jco{is:List Nat}{ds:List D}:jap is (a3 (.i ds)) f ρ=Qx (j4c is f) ds ρ:=(rfl)
theorem jhy(h:l.length<=1000000)(hd:Z6 d=a7):Cq i (a3 (.own l)) (a3 (.v (.t d))) ρ=.next (ρ.set i (.own (l++[d]))):=by simp[Cq,Rk.st,hd,lt_size h]
theorem jgv(h:l.length+m.length<=1000000):Dz i (a3 (.own l)) (a3 (.v (.o m))) ρ=.next (ρ.set i (.own (l++m))):=by simp[Dz,jm,Jc h]
theorem j2g:fin (.ret r)=r:=(rfl)
theorem jd5{x:af}{ρ':En}:fin (.err x ρ')=.err x:=(rfl)
theorem je{fu:Nat}{G:af->Option D}{T:af->Option Fi}{n:Nat}{f:af}{ds:List D}{F:Fi}(h:T f=a3 F)(hl:ds.length=F.n)(hla:F.lam=a4:=by rfl):evP fu G T (n+1) f ds=fin (run fu (evP fu G T n) G F.body (enter F ds)):=by simp only[evP,h,if_pos hl,hla,Xv,if_false]
theorem j2i{fu:Nat}{G:af->Option D}{T:af->Option Fi}{n:Nat}{f:af}{ds:List D}{F:Fi}(h:T f=a3 F)(hl:ds.length=F.n)(hla:F.lam=a7:=by rfl):evP fu G T (n+1) f ds=j3u (fin (run fu (evP fu G T n) G F.body (enter F ds))):=by simp only[evP,h,if_pos hl,hla,if_true]
theorem jga:j3u (.val d)=.lval d:=(rfl)
end
theorem Uk{f:D->En->So}(W:Nat->En->Prop):∀{ds:List D}{ρ:En}{k:Nat},W k ρ->(∀i d ρ,ds[i]?=a3 d->W (k+i) ρ->∃ρ',f d ρ=.next ρ'/\W (k+i+1) ρ')->∃ρ',Qx f ds ρ=.next ρ'/\W (k+ds.length) ρ'
 |[],ρ,k,h0,_=>⟨ρ,rfl,h0⟩
 |d::ds,ρ,k,h0,hs=>by
  obtain⟨ρ1,e1,w1⟩:=hs 0 d ρ rfl h0;obtain⟨ρ2,e2,w2⟩:=Uk (f:=f) W (ds:=ds) (k:=k+1) w1 λi d' ρ' hi w=>by have:=hs (i+1) d' ρ' (by simpa using hi) (by rw[show k+(i+1)=k+1+i by omega];exact w);rw[show k+(i+1)+1=k+1+i+1 by omega]at this;exact this
  refine⟨ρ2,?_,by rw[xx,show k+(ds.length+1)=k+1+ds.length by omega];exact w2⟩;rw[Qx,e1];exact e2
theorem j8q{f:D->En->So}(W:Nat->En){ds:List D}{ρ:En}(h0:ρ=W 0)(hs:∀i d,ds[i]?=a3 d->f d (W i)=.next (W (i+1))):Qx f ds ρ=.next (W ds.length):=by
 obtain⟨ρ',e,w⟩:=Uk (f:=f) (λi ρ=>ρ=W i) (k:=0) (ds:=ds) (ρ:=W 0) rfl λi d ρ hi w=>⟨W (0+i+1),by rw[w,bY];exact hs i d hi,rfl⟩
 rw[h0,e,w,bY]
theorem Wg{f:D->En->So}{ds:List D}{ρ:En}{g:En->So}{r:Rc}(W:Nat->En->Prop)(h0:W 0 ρ)(hs:∀i d ρ,ds[i]?=a3 d->W i ρ->∃ρ',f d ρ=.next ρ'/\W (i+1) ρ')(hk:∀ρ',W ds.length ρ'->fin (g ρ')=r) :
  fin (Dl (Qx f ds ρ) g)=r:=by
 obtain⟨ρ',e,w⟩:=Uk (f:=f) W (k:=0) (ds:=ds) (ρ:=ρ) h0 λi d ρ hi w=>by rw[bY]at w ⊢;exact hs i d ρ hi w
 rw[e];rw[bY]at w;exact hk ρ' w
theorem j59{f:D->En->So}{ds:List D}{ρ:En}{g:En->So}{Q:En->Prop}(W:Nat->En->Prop)(h0:W 0 ρ)(hs:∀i d ρ,ds[i]?=a3 d->W i ρ->∃ρ',f d ρ=.next ρ'/\W (i+1) ρ')
  (hk:∀ρ',W ds.length ρ'->∃ρ2,g ρ'=.next ρ2/\Q ρ2):∃ρ2,Dl (Qx f ds ρ) g=.next ρ2/\Q ρ2:=by
 obtain⟨ρ',e,w⟩:=Uk (f:=f) W (k:=0) (ds:=ds) (ρ:=ρ) h0 λi d ρ hi w=>by rw[bY]at w ⊢;exact hs i d ρ hi w
 rw[e];rw[bY]at w;exact hk ρ' w
noncomputable def jav(d:Option D):Option W:=d.map λd=>.v (.e d)
noncomputable def j90(i:Option Int):Option W:=i.map λk=>.v (.e (.int k))
noncomputable def jgp(a:Option W):Option W:=match a with
 |some (.v x)=>a3 (.v (.e (.bl x.d.isNon)))
 |_=>a5
noncomputable def ja8(k:Option Bool)(f:En->Option W)(ρ:En):Option W:=match k with
 |some a4=>a3 (.v (.e (.bl a4)))
 |some a7=>blW (truth (f ρ))
 |none=>a5
noncomputable def orW(k:Option Bool)(f:En->Option W)(ρ:En):Option W:=match k with
 |some a7=>a3 (.v (.e (.bl a7)))
 |some a4=>blW (truth (f ρ))
 |none=>a5
noncomputable def jfw(k:Option Bool):Option W:=k.map λk=>.v (.e (.bl (!k)))
noncomputable def stW(a:Option W):Option W:=match a with
 |some (.v x)=>x.st.map λd=>.v (.e d)
 |_=>a5
noncomputable def j8z(k:Option Bool)(f g:En->Option W)(ρ:En):Option W:=match k with
 |some a7=>stW (f ρ)
 |some a4=>stW (g ρ)
 |none=>a5
noncomputable def slW(a:Option W)(l h:Option (Option Int)):Option W:=match a,l,h with
 |some (.v x),a3 l,a3 h=>match x.sq with
  |some (a7,ds)=>a3 (.v (.o (cutD ds l h)))
  |some (a4,ds)=>if HT.sIx ds.length 0 l=0/\HT.sIx ds.length ds.length h=ds.length then a5 else a3 (.v (.e (.tup (cutD ds l h))))
  |none=>match x.d with
   |.str z=>if jm z.length=a7 then a3 (.v (.e (.str (bg z l h))))else a5
   |_=>a5
 |_,_,_=>a5
noncomputable def Ju(is:List Nat)(c e:En->Option W)(ρ:En)(d:D):Option (Option D):=match za is d ρ with
 |none=>a5
 |some ρ2=>match c ρ2 with
  |some (.a [])=>match e ρ2 with
   |some (.v x)=>x.st.map a3
   |_=>a5
  |some (.a [y])=>match y.d with
   |.bl a7=>match e ρ2 with
    |some (.v x)=>x.st.map a3
    |_=>a5
   |.bl a4=>a3 a5
   |_=>a5
  |_=>a5
noncomputable def Ff(is:List Nat)(w:Option W)(c e:En->Option W)(z:Bool)(ρ:En):Option W:=match w with
 |some (.i ds)=>if Wr is ρ=a7/\jm ds.length=a7 then(Jr (Ju is c e ρ) ds).bind λl=>if (z && !jz l)=a7 then a5 else a3 (.v (.o l))else a5
 |_=>a5
section
variable{Γ:af->List D->Rc}{G:af->Option D}{ρ:En}{a b c e:Ex}{op:Bop}{cp:Cop}{x f:af}{i:Nat}{d:D}
theorem jh7:ev Γ G (.lit d) ρ=a3 (.v (.e d)):=(rfl)
theorem jgy:ev Γ G (.var i) ρ=Fv ρ[i]?:=(rfl)
theorem jda:ev Γ G (.glob x) ρ=jav (G x):=(rfl)
theorem jhe:ev Γ G (.bin op a b) ρ=Q7 op (ev Γ G a ρ) (ev Γ G b ρ):=(rfl)
theorem jh5:ev Γ G (.neg a) ρ=j02 (ev Γ G a ρ):=(rfl)
theorem jhc:ev Γ G (.cmp cp a b) ρ=Cg cp (ev Γ G a ρ) (ev Γ G b ρ):=(rfl)
theorem jh9:ev Γ G (.isN a) ρ=jgp (ev Γ G a ρ):=(rfl)
theorem jhf:ev Γ G (.and a b) ρ=ja8 (truth (ev Γ G a ρ)) (ev Γ G b) ρ:=(rfl)
theorem jk7:ev Γ G (.or a b) ρ=orW (truth (ev Γ G a ρ)) (ev Γ G b) ρ:=(rfl)
theorem jh4:ev Γ G (.not a) ρ=jfw (truth (ev Γ G a ρ)):=(rfl)
theorem jh8:ev Γ G (.ite c a b) ρ=j8z (truth (ev Γ G c ρ)) (ev Γ G a) (ev Γ G b) ρ:=(rfl)
theorem j6j:ev Γ G .nil ρ=a3 (.a []):=(rfl)
theorem jdd:ev Γ G (.cons a b) ρ=consW (ev Γ G a ρ) (ev Γ G b ρ):=(rfl)
theorem jh0:ev Γ G (.tup a) ρ=Yt (ev Γ G a ρ):=(rfl)
theorem jh6:ev Γ G (.lst a) ρ=Zd (ev Γ G a ρ):=(rfl)
theorem jk8:ev Γ G (.ix a b) ρ=ixW (ev Γ G a ρ) (ev Γ G b ρ):=(rfl)
theorem jk6:ev Γ G (.sl a b c) ρ=slW (ev Γ G a ρ) (Z3 (ev Γ G b ρ)) (Z3 (ev Γ G c ρ)):=(rfl)
theorem jd9{sep:af}:ev Γ G (.join sep a) ρ=O3 sep (ev Γ G a ρ):=(rfl)
theorem jh1:ev Γ G (.tix a b) ρ=Dj (ev Γ G a ρ) (ev Γ G b ρ):=(rfl)
theorem j9d:ev Γ G (.callV i a) ρ=Wa Γ ρ[i]? (ev Γ G a ρ):=(rfl)
theorem j9u{cs:List D}{u v:D}(h:Jm [u,v]=a7):Wa Γ (a3 (.val (.fn x cs))) (a3 (.a [.e u,.e v]))=(Γ (ju x) (cs++[u,v])).lv:=if_pos h
theorem j9t{cs:List D}{u v w:D}(h:Jm [u,v,w]=a7):Wa Γ (a3 (.val (.fn x cs))) (a3 (.a [.e u,.e v,.e w]))=(Γ (ju x) (cs++[u,v,w])).lv:=if_pos h
theorem jlv:(Rc.lval d).lv=a3 (.v (.e d)):=(rfl)
theorem jdc:ev Γ G (.dget a b) ρ=O5 (ev Γ G a ρ) (ev Γ G b ρ):=(rfl)
theorem j9c:ev Γ G (.dvals a) ρ=Ma (ev Γ G a ρ):=(rfl)
theorem j9j{ks:List (List Int)}{ds:List D}:Ma (a3 (.v (.e (.dct ks ds))))=a3 (.v (.e (.tup ds))):=(rfl)
theorem jd7:ev Γ G (.minT a) ρ=O1 (ev Γ G a ρ):=(rfl)
theorem jdb:ev Γ G (.enum a) ρ=O4 (ev Γ G a ρ):=(rfl)
theorem jdf:ev Γ G (.call f a) ρ=Jx Γ f (ev Γ G a ρ):=(rfl)
theorem jhd{f:Bf}:ev Γ G (.blt f a) ρ=vo f (ev Γ G a ρ):=(rfl)
theorem jd8{m:Mf}:ev Γ G (.meth m a b) ρ=O2 m (ev Γ G a ρ) (ev Γ G b ρ):=(rfl)
theorem jde{is:List Nat}:ev Γ G (.comp is e a c) ρ=Ff is (ev Γ G a (frz a ρ)) (ev Γ G c) (ev Γ G e) (Jp a ρ) (frz a ρ):=(rfl)
theorem jh2:ev Γ G (.seq a) ρ=Ox (ev Γ G a ρ):=(rfl)
theorem j9b:ev Γ G (.range a) ρ=Rw (ev Γ G a ρ):=(rfl)
end
section
variable{x y:Rk}{d:D}{i j k:Int}{l m:List D}{b:Bool}{f g:En->Option W}{ρ:En}{xs:List Rk}{op:Bop}{cp:Cop}
theorem je4:Fv (a3 (.val d))=a3 (.v (.e d)):=(rfl)
theorem je5:Fv (a3 (.own l))=a3 (.v (.w l)):=(rfl)
theorem Dw:jav (a3 d)=a3 (.v (.e d)):=(rfl)
theorem jgq:j90 (a3 i)=a3 (.v (.e (.int i))):=(rfl)
theorem jke:blW (a3 b)=a3 (.v (.e (.bl b))):=(rfl)
theorem jhx:Q7 op (a3 (.v (.e (.int i)))) (a3 (.v (.e (.int j))))=j90 (binI op i j):=by simp only[Q7,U5,Rk.d,j90,rkW];cases binI op i j<;>rfl
theorem ja4:binI .add i j=a3 (i+j):=(rfl)
theorem j9z:binI .sub i j=a3 (i-j):=(rfl)
theorem ja2(h:(-18446744073709551616<i/\i<18446744073709551616)\/(-18446744073709551616<j/\j<18446744073709551616)):binI .mul i j=a3 (i*j):=if_pos h
theorem j7f(h:0<j/\j<18446744073709551616):binI .fdiv i j=a3 (i/j):=if_pos h
theorem ja3(h:0<j):binI .mod i j=a3 (i%j):=if_pos h
theorem ja1(h:0<=j/\j<=1000000/\i.natAbs<18446744073709551616):binI .pow i j=a3 (i^j.toNat):=if_pos h
theorem ja0(h:0<=j/\j<=1000000/\i.natAbs<18446744073709551616):binI .shl i j=a3 (i*2^j.toNat):=if_pos h
theorem jhu(h:l.length+m.length<=1000000):Q7 .add (a3 (.v (.o l))) (a3 (.v (.o m)))=a3 (.v (.o (l++m))):=by simp[Q7,U5,Rk.d,Rk.sq,jm,Jc h,rkW]
theorem jhv(h:l.length+m.length<=1000000):Q7 .add (a3 (.v (.e (.lst l)))) (a3 (.v (.o m)))=a3 (.v (.o (l++m))):=by simp[Q7,U5,Rk.d,Rk.sq,jm,Jc h,rkW]
theorem jht(h:l.length+m.length<=1000000):Q7 .add (a3 (.v (.e (.tup l)))) (a3 (.v (.e (.tup m))))=a3 (.v (.e (.tup (l++m)))):=by simp[Q7,U5,Rk.d,Rk.sq,jm,Jc h,rkW]
theorem jiz(h:-9223372036854775808<=k/\k<9223372036854775808)(h2:l.length*k.toNat<=1000000):Q7 .mul (a3 (.v (.o l))) (a3 (.v (.e (.int k))))=a3 (.v (.o (ah k.toNat l).flatten)):=by simp only[Q7,U5,Rk.d,Rk.sq,Rk.lw];rw[if_pos ⟨h.1,h.2,decide_eq_true (Jc h2)⟩];rfl
theorem jf0(h:1<=k/\k<=1000000):Q7 .mul (a3 (.v (.e (.tup [d])))) (a3 (.v (.e (.int k))))=a3 (.v (.e (.tup (ah k.toNat d)))):=by simp only[Q7,U5,Rk.d,Rk.sq];rw[if_pos ⟨h.1,by omega,rfl,decide_eq_true (Jc (by simp only[xx,Pr];omega))⟩];simp only[rkW,Option.map,List.flatten_replicate_singleton]
theorem jfx:j02 (a3 (.v (.e (.int i))))=a3 (.v (.e (.int (-i)))):=(rfl)
theorem jho:Cg cp (a3 (.v x)) (a3 (.v y))=blW (Zf cp x.d y.d):=(rfl)
theorem d_e:(Rk.e d).d=d:=(rfl)
theorem d_o:(Rk.o l).d=.lst l:=(rfl)
theorem jhp:Zf cp (.int i) (.int j)=cmpI cp i j:=by cases cp<;>rfl
theorem j9n(h:(D.lst l).dep<=90)(h2:(D.lst m).dep<=90):Zf .eq (.lst l) (.lst m)=a3 (v5 l m):=by simp[Zf,h,h2,Fd,j0l]
theorem Br(h:D.depL l<=90)(h2:D.depL m<=90):Zf .ne (.lst l) (.lst m)=a3 (!v5 l m):=by simp[Zf,h,h2]
theorem j76:Zf .eq (.lst []) (.lst [])=a3 (v5 [] []):=j9n (by simp[D.dep,D.depL]) (by simp[D.dep,D.depL])
theorem j6w(h:i<j):cmpI .lt i j=a3 a7:=by simp[cmpI,h]
theorem j6x(h:j<=i):cmpI .lt i j=a3 a4:=by simp[cmpI];omega
theorem j6y(h:i<=j):cmpI .le i j=a3 a7:=by simp[cmpI,h]
theorem j6z(h:j<i):cmpI .le i j=a3 a4:=by simp[cmpI];omega
theorem j70(h:j<i):cmpI .gt i j=a3 a7:=by simp[cmpI,h]
theorem j71(h:i<=j):cmpI .gt i j=a3 a4:=by simp[cmpI];omega
theorem j72(h:j<=i):cmpI .ge i j=a3 a7:=by simp[cmpI,h]
theorem j73(h:i<j):cmpI .ge i j=a3 a4:=by simp[cmpI];omega
theorem j74(h:i=j):cmpI .eq i j=a3 a7:=by simp[cmpI,h]
theorem j75(h:i≠j):cmpI .eq i j=a3 a4:=by simp[cmpI,h]
theorem j6u(h:i≠j):cmpI .ne i j=a3 a7:=by simp[cmpI,h]
theorem j6v(h:i=j):cmpI .ne i j=a3 a4:=by simp[cmpI,h]
theorem jdp:cmpI .gt i j=a3 (decide (j<i)):=(rfl)
theorem Ci:cmpI .eq i j=a3 (decide (i=j)):=(rfl)
theorem jgo:jgp (a3 (.v x))=a3 (.v (.e (.bl x.d.isNon))):=(rfl)
theorem jbe:truth (a3 (.v (.e (.bl b))))=a3 b:=(rfl)
theorem ji0:ja8 (a3 a4) f ρ=a3 (.v (.e (.bl a4))):=(rfl)
theorem jhz:ja8 (a3 a7) f ρ=blW (truth (f ρ)):=(rfl)
theorem jjc:orW (a3 a7) f ρ=a3 (.v (.e (.bl a7))):=(rfl)
theorem jjd:orW (a3 a4) f ρ=blW (truth (f ρ)):=(rfl)
theorem jfv:jfw (a3 b)=a3 (.v (.e (.bl (!b)))):=(rfl)
theorem jiv:stW (a3 (.v (.e d)))=a3 (.v (.e d)):=(rfl)
theorem jgk:j8z (a3 a7) f g ρ=stW (f ρ):=(rfl)
theorem jgl:j8z (a3 a4) f g ρ=stW (g ρ):=(rfl)
theorem jdn{b:Option W}:consW a5 b=a5:=(rfl)
theorem j9l{a:Option W}:consW a a5=a5:=by
 cases a with
 |none=>rfl
 |some w=>cases w<;>rfl
theorem jds{Γ:af->List D->Rc}{f:af}:Jx Γ f a5=a5:=(rfl)
theorem Ce:consW (a3 (.v x)) (a3 (.a xs))=a3 (.a (x::xs)):=(rfl)
theorem j4v(h:v6 xs=a3 l)(hl:l.length<=1000000):Yt (a3 (.a xs))=a3 (.v (.e (.tup l))):=by simp[Yt,h,jm,Jc hl]
theorem Ni(h:v6 xs=a3 l)(hl:l.length<=1000000):Zd (a3 (.a xs))=a3 (.v (.o l)):=by simp[Zd,h,jm,Jc hl]
theorem jea:Yt (a3 (.a []))=a3 (.v (.e (.tup []))):=by simp[Yt,v6,jm]
theorem je9{a:D}:Yt (a3 (.a [.e a]))=a3 (.v (.e (.tup [a]))):=j4v rfl (by simp)
theorem je8{a b:D}:Yt (a3 (.a [.e a,.e b]))=a3 (.v (.e (.tup [a,b]))):=j4v rfl (by simp)
theorem jg6:Zd (a3 (.a []))=a3 (.v (.o [])):=by simp[Zd,v6,jm]
theorem jg5{a:D}:Zd (a3 (.a [.e a]))=a3 (.v (.o [a])):=Ni rfl (by simp)
theorem jg4{a b:D}:Zd (a3 (.a [.e a,.e b]))=a3 (.v (.o [a,b])):=Ni rfl (by simp)
theorem jg3{a b c:D}:Zd (a3 (.a [.e a,.e b,.e c]))=a3 (.v (.o [a,b,c])):=Ni rfl (by simp)
noncomputable def Nt(o:Option D):Option W:=o.map λd=>.v (.e d)
theorem Iw:∀xs:List D,v6 (xs.map Rk.e)=a3 xs
 |[]=>rfl
 |x::xs=>by rw[xu,v6,Iw xs];rfl
theorem jg1(xs:List D)(h:xs.length<=1000000):Zd (a3 (.a (xs.map Rk.e)))=a3 (.v (.o xs)):=by simp[Zd,Iw,jm,Jc h]
theorem jg2{a b c d:D}:Zd (a3 (.a [.e a,.e b,.e c,.e d]))=a3 (.v (.o [a,b,c,d])):=jg1 [a,b,c,d] (by simp)
theorem j2e:Nt (a3 d)=a3 (.v (.e d)):=(rfl)
theorem jgh:ixW (a3 (.v (.e (.lst l)))) (a3 (.v (.e (.int i))))=Nt (atI l i):=(rfl)
theorem jgg:ixW (a3 (.v (.e (.tup l)))) (a3 (.v (.e (.int i))))=Nt (atI l i):=(rfl)
theorem jjv:ixW (a3 (.v (.o l))) (a3 (.v (.e (.int i))))=Nt (atI l i):=(rfl)
theorem jjt:ixW (a3 (.v (.w l))) (a3 (.v (.e (.int i))))=Nt (atI l i):=(rfl)
noncomputable def jhr(c:Option Nat):Option W:=match c with
 |some c=>a3 (.v (.e (.str ⟨#[c]⟩)))
 |none=>a5
theorem jhq{c:Nat}:jhr (a3 c)=a3 (.v (.e (.str ⟨#[c]⟩))):=(rfl)
theorem jju{z:af}(h:z.length<=1000000):ixW (a3 (.v (.e (.str z)))) (a3 (.v (.e (.int i))))=jhr (atI z.cps.toList i):=by simp only[ixW,Rk.sq,Rk.d,jm,Jc h,decide_true,if_true];cases atI z.cps.toList i<;>rfl
theorem jix{z:af}{lo hi:Option Int}(h:z.length<=1000000):slW (a3 (.v (.e (.str z)))) (a3 lo) (a3 hi)=a3 (.v (.e (.str (bg z lo hi)))):=by simp only[slW,Rk.sq,Rk.d,jm,Jc h,decide_true,if_true]
theorem j0u{y z:af}(h:y.length+z.length<=1000000):Q7 .add (a3 (.v (.e (.str y)))) (a3 (.v (.e (.str z))))=a3 (.v (.e (.str (y++z)))):=by simp[Q7,U5,Rk.d,jm,Jc h,rkW]
theorem jjw{k:Bool}:vo .int (a3 (.a [.e (.bl k)]))=a3 (.v (.e (.int (if k then 1 else 0)))):=(rfl)
theorem Qi{ns:List Int}:intsOf (ns.map D.int)=a3 ns:=by
 induction ns with
 |nil=>rfl
 |cons b bs ih=>rw[xu,intsOf,ih];rfl
theorem j37{ns:List af}:strsOf (ns.map D.str)=a3 ns:=by
 induction ns with
 |nil=>rfl
 |cons b bs ih=>rw[xu,strsOf,ih];rfl
theorem jiu{ns:List Int}:vo .sum (a3 (.a [.o (ns.map D.int)]))=a3 (.v (.e (.int ns.sum))):=by simp only[vo,Vb,Rk.d,Qi];rfl
theorem jed{ns:List Int}:vo .sum (a3 (.a [.e (.lst (ns.map D.int))]))=a3 (.v (.e (.int ns.sum))):=by simp only[vo,Vb,Rk.d,Qi];rfl
theorem j2d{sep:af}{ts:List af}(h:fF sep ts=a7):O3 sep (a3 (.v (.o (ts.map D.str))))=a3 (.v (.e (.str (eS sep ts)))):=by simp only[O3,Rk.d,j37,h,if_true]
theorem j9g:O4 (a3 (.v (.e (.lst l))))=a3 (.i (Qj l)):=(rfl)
theorem j9f:O4 (a3 (.v (.e (.tup l))))=a3 (.i (Qj l)):=(rfl)
theorem j9x:Z3 (a3 (.a []))=a3 a5:=(rfl)
theorem j9w:Z3 (a3 (.a [.e (.int i)]))=a3 (a3 i):=(rfl)
variable{lo hi:Option Int}
theorem jei:slW (a3 (.v (.e (.lst l)))) (a3 lo) (a3 hi)=a3 (.v (.o (cutD l lo hi))):=(rfl)
theorem j55(h:¬(HT.sIx l.length 0 lo=0/\HT.sIx l.length l.length hi=l.length)):slW (a3 (.v (.e (.tup l)))) (a3 lo) (a3 hi)=a3 (.v (.e (.tup (cutD l lo hi)))):=if_neg h
variable{Γ:af->List D->Rc}{fn:af}
noncomputable def rcW(r:Rc):Option W:=match r with
 |.val d=>a3 (.v (.e d))
 |.fresh l=>a3 (.v (.o l))
 |_=>a5
theorem jj2{x:af}:rcW (.err x)=a5:=(rfl)
theorem jj0:rcW (.val d)=a3 (.v (.e d)):=(rfl)
theorem jj1:rcW (.fresh l)=a3 (.v (.o l)):=(rfl)
theorem z9(h:v6 xs=a3 l):Jx Γ fn (a3 (.a xs))=rcW (Γ fn l):=by simp only[Jx,h];cases Γ fn l<;>rfl
theorem jdv{a:D}:Jx Γ fn (a3 (.a [.e a]))=rcW (Γ fn [a]):=z9 rfl
theorem jdu{a b:D}:Jx Γ fn (a3 (.a [.e a,.e b]))=rcW (Γ fn [a,b]):=z9 rfl
theorem jdt{a b c:D}:Jx Γ fn (a3 (.a [.e a,.e b,.e c]))=rcW (Γ fn [a,b,c]):=z9 rfl
theorem j9s:Jx Γ fn (a3 (.a [.o l]))=rcW (Γ fn [.lst l]):=z9 rfl
theorem j9r{a:D}:Jx Γ fn (a3 (.a [.o l,.e a]))=rcW (Γ fn [.lst l,a]):=z9 rfl
noncomputable def rcT(r:Rc):Option W:=match r with
 |.val d=>a3 (.v (.t d))
 |.fresh l=>if jz l=a7 then a3 (.v (.o l))else a5
 |_=>a5
theorem jj3:rcT (.val d)=a3 (.v (.t d)):=(rfl)
theorem jdr(h:v6 xs=a5):Jx Γ fn (a3 (.a xs))=rcT (Γ fn (xs.map Rk.d)):=by simp only[Jx,h];cases Γ fn (xs.map Rk.d)<;>rfl
theorem j9q{a b:D}:Jx Γ fn (a3 (.a [.w m,.e a,.e b]))=rcT (Γ fn [.lst m,a,b]):=jdr rfl
theorem jjo:vo .len (a3 (.a [.e (.lst l)]))=a3 (.v (.e (.int l.length))):=(rfl)
theorem jjn:vo .len (a3 (.a [.e (.tup l)]))=a3 (.v (.e (.int l.length))):=(rfl)
theorem jjm:vo .len (a3 (.a [.w l]))=a3 (.v (.e (.int l.length))):=(rfl)
theorem jjf{ns:List Int}(h:ns≠[]):vo .max (a3 (.a [.o (ns.map D.int)]))=a3 (.v (.e (.int (Jj ns)))):=by
 have e:ns.isEmpty=a4:=by cases ns with|nil=>exact absurd rfl h|cons _ _=>rfl
 simp only[vo,Vb,Rk.d,Qi,e,if_true];rfl
theorem j4u{ks:List (List Int)}:Mr (ks.map λk=>D.tup (k.map D.int))=a3 ks:=by
 induction ks with
 |nil=>rfl
 |cons k ks ih=>rw[xu,Mr,ih];simp only[tupI,Qi]
theorem jcl{ks:List (List Int)}{k:List Int}(h:ks[aV (Jv ks) (ks.length-1)]?=a3 k):O1 (a3 (.v (.o (ks.map λk=>D.tup (k.map D.int)))))=a3 (.v (.t (.tup (k.map D.int)))):=by simp only[O1,Rk.d,j4u,h];rfl
theorem j2l{ks:List (List Int)}{ds:List D}{k:List Int}{d:D}(h:vq ks ds k=a3 d):O5 (a3 (.v (.e (.dct ks ds)))) (a3 (.v (.e (.tup (k.map D.int)))))=a3 (.v (.e d)):=by simp only[O5,Rk.d,tupI,Qi,h];rfl
theorem jbc:vo .tuple (a3 (.a [.o l]))=a3 (.v (.e (.tup l))):=(rfl)
theorem jbb:vo .tuple (a3 (.a [.w l]))=a3 (.v (.e (.tup l))):=(rfl)
theorem jcq:vo .list (a3 (.a [.e (.lst l)]))=a3 (.v (.o l)):=(rfl)
theorem jcp:vo .list (a3 (.a [.e (.tup l)]))=a3 (.v (.o l)):=(rfl)
theorem j1l{bs:List Bool}:boolsOf (bs.map D.bl)=a3 bs:=by
 induction bs with
 |nil=>rfl
 |cons b bs ih=>rw[xu,boolsOf,ih];rfl
theorem jkg{bs:List Bool}:vo .all (a3 (.a [.o (bs.map D.bl)]))=a3 (.v (.e (.bl (bs.all id)))):=by simp only[vo,Vb,Rk.d,j1l];rfl
theorem j2q(h:D.depL l<=90)(h2:d.dep<=90):O2 .count (a3 (.v (.w l))) (a3 (.a [.e d]))=a3 (.v (.e (.int (l.countP λe=>deq e d)))):=by simp[O2,j3p,Rk.d,h,h2,rkW]
theorem jbm:Ox (a3 (.v (.e (.lst l))))=a3 (.i l):=(rfl)
theorem jbl:Ox (a3 (.v (.e (.tup l))))=a3 (.i l):=(rfl)
theorem jen:Ox (a3 (.v (.o l)))=a3 (.i l):=(rfl)
theorem j8b(h:-4611686018427387904<=i/\i<4611686018427387904):Rw (a3 (.a [.e (.int i)]))=a3 (.i (upto 0 i.toNat)):=if_pos h
theorem qp{is:List Nat}{c e:En->Option W}{z:Bool}{ds l:List D}(hf:Wr is ρ=a7)(hl:ds.length<=1000000)(h:Jr (Ju is c e ρ) ds=a3 l)(hz:z=a4\/jz l=a7):Ff is (a3 (.i ds)) c e z ρ=a3 (.v (.o l)):=by simp only[Ff,hf,jm,Jc hl,decide_true,and_self,if_true,h,l5];rcases hz with z|z<;>simp[z]
theorem zg{i:Nat}{c e:En->Option W}(hc:c (ρ.set i (.val d))=a3 (.a [])){d':D}(he:e (ρ.set i (.val d))=a3 (.v (.e d'))):Ju [i] c e ρ d=a3 (a3 d'):=by simp[Ju,za,hc,he,Rk.st]
theorem Ij{i:Nat}{c e:En->Option W}{b:Bool}{d':D}(hc:c (ρ.set i (.val d))=a3 (.a [.e (.bl b)]))(he:b=a7->e (ρ.set i (.val d))=a3 (.v (.e d'))):Ju [i] c e ρ d=a3 (if b=a7 then a3 d' else a5):=by
 cases b with
 |true=>simp[Ju,za,hc,he rfl,Rk.st,Rk.d]
 |false=>simp[Ju,za,hc,Rk.d]
theorem jba{i j:Nat}{c e:En->Option W}{a b:D}(hc:c ((ρ.set i (.val a)).set j (.val b))=a3 (.a [])){d':D}(he:e ((ρ.set i (.val a)).set j (.val b))=a3 (.v (.e d'))):Ju [i,j] c e ρ (.tup [a,b])=a3 (a3 d'):=by simp[Ju,za,hc,he,Rk.st]
theorem j7p{i j:Nat}{c e:En->Option W}{a b:D}{k:Bool}{d':D}(hc:c ((ρ.set i (.val a)).set j (.val b))=a3 (.a [.e (.bl k)]))(he:k=a7->e ((ρ.set i (.val a)).set j (.val b))=a3 (.v (.e d'))):Ju [i,j] c e ρ (.tup [a,b])=a3 (if k=a7 then a3 d' else a5):=by
 cases k with
 |true=>simp[Ju,za,hc,he rfl,Rk.st,Rk.d]
 |false=>simp[Ju,za,hc,Rk.d]
theorem Y7{α:Type}{xs:List α}{n:Nat}{x:α}(h:xs[n]?=a3 x):atI xs (n:Int)=a3 x:=jdw h
end
section
theorem jcv:D.isNon .non=a7:=(rfl)
theorem jcx{i:Int}:D.isNon (.int i)=a4:=(rfl)
theorem jcw{l:List D}:D.isNon (.lst l)=a4:=(rfl)
end
section
noncomputable abbrev jn(r:List Int):D:=.tup (r.map .int)
noncomputable abbrev zu(rs:List (List Int)):List D:=rs.map jn
theorem jy{α:Type}{f:D->Option (Option D)}{h g:α->D}{L:List α}(q:∀x∈L,f (h x)=a3 (a3 (g x))):Jr f (L.map h)=a3 (L.map g):=by
 induction L with
 |nil=>rfl
 |cons x L ih=>rw[xu,Jr,q x (xr ..),ih λy hy=>q y (kj _ hy)];rfl
theorem Ye{α:Type}{f:D->Option (Option D)}{h g:α->D}{p:α->Bool}{L:List α}(q:∀x∈L,f (h x)=a3 (if p x=a7 then a3 (g x)else a5)):Jr f (L.map h)=a3 ((L.filter p).map g):=by
 induction L with
 |nil=>rfl
 |cons x L ih =>
  rw[xu,Jr,q x (xr ..),ih λy hy=>q y (kj _ hy)];by_cases z:p x=a7
  .rw[if_pos z,ig z];rfl
  .rw[if_neg z,ij z]
theorem take_snoc{α:Type}{l:List α}{i:Nat}{x:α}(h:l[i]?=a3 x):l.take (i+1)=l.take i++[x]:=by rw[dE,h];rfl
theorem Bl{α β:Type}{f:α->β}{l:List α}{i:Nat}{y:β}(h:(l.map f)[i]?=a3 y):∃x,l[i]?=a3 x/\y=f x:=by
 rw[X7]at h;cases e:l[i]? with
 |none=>rw[e]at h;cases h
 |some x=>rw[e]at h;cases h;exact⟨x,rfl,rfl⟩
end
section
theorem Mg(p:List Int):D.depL (p.map D.int)=0:=by
 induction p with
 |nil=>rfl
 |cons t ts ih=>simp[D.depL,D.dep,ih]
end
section
variable{fu:Nat}{Γ:af->List D->Rc}{G:af->Option D}{ls:List af}{ρ:En}{i j k:Nat}{e c es m:Ex}{f x y:af}{b r:Px}
end
section
variable{Γ:af->List D->Rc}{G:af->Option D}{ρ:En}{a:Ex}
theorem jhb:ev Γ G (.exc a) ρ=ev Γ G a ρ:=(rfl)
end
end L2
end
section
open PySem (Str)
open L2
noncomputable def jk3:=(k8x (k8x (k8x (k8x (k8x (k8x (k8x @jbq @jhb) (k8x @jbo (k8x @jbn @jbr))) (k8x (k8x @j89 (k8x @jbp @j84)) (k8x @jbs (k8x @j87 @jbu)))) (k8x (k8x (k8x @jbt (k8x @j88 @j68)) (k8x @j85 (k8x @jbx @j31))) (k8x (k8x @j11 (k8x @jhl @j86)) (k8x @jby (k8x @j9d @jdc))))) (k8x (k8x (k8x (k8x @j9c @j9j) (k8x @jd7 (k8x @jlv @jga))) (k8x (k8x @jh1 (k8x @jh3 @jgz)) (k8x @jdn (k8x @j9l @jds)))) (k8x (k8x (k8x @j8j (k8x @jha @j24)) (k8x @jce (k8x @jel @jgx))) (k8x (k8x @jey (k8x @V8 @j5d)) (k8x @j5h (k8x @j83 @j4w)))))) (k8x (k8x (k8x (k8x (k8x @j7y @jd5) (k8x @jj2 (k8x @j5a @Ei))) (k8x (k8x @jjy (k8x @jjz @jek)) (k8x @jem (k8x @jex @j5g)))) (k8x (k8x (k8x @jew (k8x @jbw @jbv)) (k8x @jfz (k8x @jgw @jco))) (k8x (k8x @jgv (k8x @j2g @jh7)) (k8x @jgy (k8x @jda @jhe))))) (k8x (k8x (k8x (k8x @jh5 (k8x @jhc @jh9)) (k8x @jhf (k8x @jk7 @jh4))) (k8x (k8x @jh8 (k8x @j6j @jdd)) (k8x @jh0 (k8x @jh6 @jk8)))) (k8x (k8x (k8x @jk6 (k8x @jdf @jhd)) (k8x @jd8 (k8x @jde @jh2))) (k8x (k8x @j9b (k8x @je4 @je5)) (k8x @Dw (k8x @jgq @jke))))))) (k8x (k8x (k8x (k8x (k8x (k8x @jhx @ja4) (k8x @j9z (k8x @ja2 @j7f))) (k8x (k8x @ja3 (k8x @ja1 @ja0)) (k8x @jhu (k8x @jhv @jht)))) (k8x (k8x (k8x @jiz (k8x @jfx @jho)) (k8x @d_e (k8x @d_o @jhp))) (k8x (k8x @j76 (k8x @j6w @j6x)) (k8x @j6y (k8x @j6z @j70))))) (k8x (k8x (k8x (k8x @j71 @j72) (k8x @j73 (k8x @j74 @j75))) (k8x (k8x @j6u (k8x @j6v @jgo)) (k8x @jf0 (k8x @jbe @ji0)))) (k8x (k8x (k8x @jhz (k8x @jjc @jjd)) (k8x @jfv (k8x @jiv @jgk))) (k8x (k8x @jgl (k8x @Ce @jea)) (k8x @je9 (k8x @je8 @jg6)))))) (k8x (k8x (k8x (k8x (k8x @jg5 @jg4) (k8x @jg3 (k8x @jg2 @j2e))) (k8x (k8x @jgh (k8x @jgg @jjv)) (k8x @jjt (k8x @j9x @j9w)))) (k8x (k8x (k8x @jei (k8x @jj0 @jj1)) (k8x @jj3 (k8x @jdv @jdu))) (k8x (k8x @jdt (k8x @j9s @j9r)) (k8x @jjo (k8x @jjn @jjm))))) (k8x (k8x (k8x (k8x @jbc (k8x @jbb @jcq)) (k8x @jcp (k8x @jkg @jbm))) (k8x (k8x @jbl (k8x @jen @j8b)) (k8x @jd9 (k8x @jdb @jee)))) (k8x (k8x (k8x @jhq (k8x @jju @jix)) (k8x @j0u (k8x @jjw @jiu))) (k8x (k8x @jed (k8x @j9g @j9f)) (k8x @jcv (k8x @jcx @jcw))))))))
local macro_rules | `(tactic| walk_at "go")=>`(tactic| try simp (disch:=first | omega | assumption | (simp only [List.length_map,List.length_append,List.length_cons,List.length_nil,List.length_take,List.length_drop,List.length_reverse] <;> omega)) only [jk3,Yz,beq_self_eq_true,frz,Jp,j96,List.getElem?_cons_zero,List.getElem?_cons_succ,List.set_cons_zero,List.set_cons_succ,List.map_cons,List.map_nil,List.cons_append,List.nil_append,List.replicate,List.length_map,List.length_append,List.length_cons,List.length_nil,Bool.not_true,Bool.not_false,bne_self_eq_false,Nat.reduceSub,Nat.reduceAdd,Int.reduceToNat,Int.reducePow])
local macro_rules | `(tactic| ext)=>`(tactic| walk_at "go")
local macro_rules | `(tactic| erw [$r])=>`(tactic| (rw [$r]; ext)) | `(tactic| erw [$r,$rs,*])=>`(tactic| (rw [$r]; ext; erw [$rs,*]))
namespace KL
noncomputable def Za:Sx:=(.seq (.ret (.call "all_choices" (.cons (.comp [1] (.ite (.cmp .eq (.var 1) (.glob "NOT_TOLD")) (.glob "ANSWERS") (.tup (.cons (.var 1) .nil))) (.seq (.var 0)) .nil) .nil))) .nop)
noncomputable def fP_rows_in:Fi:=⟨1,2,Za,a4⟩
noncomputable def Je:Sx:=(.seq (.set 1 (.lst (.cons (.tup .nil) .nil))) (.seq (.loop [2] (.seq (.var 0)) (.seq (.set 3 (.lst .nil)) (.seq (.loop [4] (.seq (.var 1)) (.seq (.ext 3 (.comp [5] (.bin .add (.var 4) (.tup (.cons (.var 5) .nil))) (.seq (.var 2)) .nil)) .nop)) (.seq (.mov 1 3) .nop)))) (.seq (.retV 1) .nop)))
noncomputable def fP_all_choices:Fi:=⟨1,6,Je,a4⟩
noncomputable def Yr:Sx:=(.seq (.ife (.cmp .lt (.var 1) (.blt .len (.cons (.var 0) .nil))) (.seq (.ret (.ix (.var 0) (.var 1))) .nop) .nop) (.seq (.set 2 (.bin .add (.lit (.int 70001)) (.bin .mul (.bin .mul (.lit (.int 911)) (.var 1)) (.var 1)))) (.seq (.ife (.cmp .gt (.blt .len (.cons (.var 0) .nil)) (.lit (.int 0))) (.seq (.set 2 (.bin .add (.var 2) (.bin .mul (.bin .mod (.ix (.var 0) (.lit (.int 0))) (.lit (.int 9973))) (.bin .add (.bin .mul (.lit (.int 3)) (.var 1)) (.lit (.int 1)))))) .nop) .nop) (.seq (.retV 2) .nop))))
noncomputable def fL_cell:Fi:=⟨2,3,Yr,a4⟩
section
variable{G:af->Option D}{T:af->Option Fi}
noncomputable def qb(ns:List Int)(k:Nat):Int:=match ns[k]? with
 |some v=>v
 |none=>match ns with
  |[]=>70001+911*k*k
  |v::_=>70001+911*k*k+v%9973*(3*k+1)
theorem Up {fu n:Nat} (hT:T "_law_cell" = a3 fL_cell) {ns:List Int} {k:Nat} (hk:k<=100):evP fu G T (n+1) "_law_cell" [.lst (ns.map .int),.int k]=.val (.int (qb ns k)):=by
 rw[je (F:=fL_cell) hT rfl];simp only[fL_cell,Yr,enter];by_cases h:k<ns.length
 .have e:atI (ns.map D.int) (k:Int)=a3 (.int ns[k]):=Y7 (by simp[h]);have q:qb ns k=ns[k]:=by simp[qb,h]
  ext;simp only[e,j2e,j5g,j24,Ei,j2g,q]
 .cases ns with
  |nil =>ext;simp[qb]
  |cons v r =>
   have e:atI (D.int v::r.map D.int) 0=a3 (.int v):=by simp[atI,ixN]
   have q:qb (v::r) k=70001+911*k*k+v%9973*(3*k+1):=by unfold qb;rw[ph nofun]
   rw[xu];rw[xx]at h;ext;simp only[e];ext;rw[q]
theorem j7u(f:List Int):step [] f=[]:=rfl
theorem j53(acc:List (List Int))(a f:List Int):step (acc++[a]) f=step acc f++f.map λx=>a++[x]:=by simp[step]
theorem j0r(fs:List (List Int))(f:List Int):qt (fs++[f])=step (qt fs) f:=by simp[qt]
theorem Iv(acc:List (List Int)){f:List Int}{k:Nat}(h:f.length<=k):(step acc f).length<=acc.length*k:=by
 unfold step;induction acc with
 |nil=>simp
 |cons a acc ih =>rw[List.flatMap_cons,X6,xj,xx,lS];omega
theorem j1i{fs:List (List Int)}{k:Nat}(h:∀f∈fs,f.length<=k):(qt fs).length<=k^fs.length:=by
 have go:∀(fs acc:List (List Int)),(∀f∈fs,f.length<=k)->(fs.foldl step acc).length<=acc.length*k^fs.length:=by
  intro fs;induction fs with
  |nil=>intro acc _;simp
  |cons f fs ih =>intro acc hf;have h1:=ih (step acc f) λg hg=>hf g (kj _ hg);have h2:=Iv acc (hf f (xr ..));rw[cq,xx,bZ,fX (k^fs.length) k,<-Nat.mul_assoc];exact Xi h1 (Nat.mul_le_mul_right _ h2)
 have:=go fs [[]] h;simpa [qt]using this
theorem j0s{fs:List (List Int)}{r:List Int}(h:r∈qt fs):r.length=fs.length:=by
 have go:∀(fs acc:List (List Int)) (k:Nat),(∀a∈acc,a.length=k)->∀r∈fs.foldl step acc,r.length=k+fs.length:=by
  intro fs;induction fs with
  |nil=>intro acc k ha r hr;exact ha r hr
  |cons f fs ih =>
   intro acc k ha r hr;have:=ih (step acc f) (k+1) (λa hm=>by
    obtain⟨b,hb,hx⟩:=List.mem_flatMap.mp hm
    obtain⟨x,_,rfl⟩:=Xe.mp hx
    rw[X6,ha b hb];rfl) r hr
   rw[this,xx];omega
 have:=go fs [[]] 0 (λa ha=>by rw[xg.mp ha];rfl) r h;omega
theorem Mi {fu n:Nat} (hT:T "all_choices" = a3 fP_all_choices) {fs:List (List Int)} (hf:∀f∈fs,f.length<=3) (hl:fs.length<=6):evP fu G T (n+1) "all_choices" [.lst (zu fs)]=.fresh (zu (qt fs)):=by
 rw[je (F:=fP_all_choices) hT rfl];simp only[fP_all_choices,Je,enter];ext;have small:∀i,(qt (fs.take i)).length<=729:=λi=>by
  have h:=j1i (fs:=fs.take i) (k:=3) λf hm=>hf f (cS hm);have h2:(fs.take i).length<=6:=by rw[Xl];omega
  exact Xi h (Nat.pow_le_pow_right (by decide) h2)
 refine Wg (λi ρ=>∃s2 s4,ρ=[.val (.lst (zu fs)),.own (zu (qt (fs.take i))),s2,.un,s4,.un]) ⟨.un,.un,by simp[qt,zu,jn]⟩ ?_ ?_
 .rintro i d ρ hi ⟨s2,s4,rfl⟩;obtain⟨f,hfi,rfl⟩:=Bl hi;have hf3:f.length<=3:=hf f (Xm hfi);have sm:=small i;simp only[Yq];ext;refine j59 (λj ρ=>∃s4,ρ=[.val (.lst (zu fs)),.val (.lst (zu (qt (fs.take i)))),.val (jn f),.own (zu (step ((qt (fs.take i)).take j) f)),s4,.un]) ⟨s4,by simp[j7u]⟩ ?_ ?_
  .rintro j d ρ hj ⟨s4,rfl⟩;obtain⟨a,haj,rfl⟩:=Bl hj;have hs:=Iv ((qt (fs.take i)).take j) hf3;have hs2:((qt (fs.take i)).take j).length<=729:=by rw[Xl];omega
   have ha:a.length<=6:=by have:=j0s (Xm haj);rw[Xl]at this;omega
   simp only[Yq];ext;rw[qp (l:=(f.map λx=>jn (a++[x]))) (by rfl) ?_ ?_ (.inl rfl)]
   .ext;refine⟨_,rfl,.val (jn a),?_⟩;rw[take_snoc haj,j53];simp only[zu,Xp,Xc];rfl
   .simp only[xj];omega
   .refine jy λx _=>zg (by ext) ?_;ext;simp
  .rintro ρ' ⟨s4,rfl⟩;ext;refine⟨_,rfl,.val (jn f),s4,?_⟩;rw[take_snoc hfi,j0r,dW]
 .rintro ρ' ⟨s2,s4,rfl⟩;ext;rw[dW]
theorem j99(t:Int):(Vl t).length<=3:=by unfold Vl;split<;>simp
theorem j17 {fu n:Nat} (hT:T "rows_in" = a3 fP_rows_in) (hC:T "all_choices" = a3 fP_all_choices) (gNT:G "NOT_TOLD" = a3 (.int 2)) (gAN:G "ANSWERS" = a3 (.tup [.int 0,.int 1])) {p:List Int} (hp:p.length<=6):evP fu G T (n+2) "rows_in" [jn p]=.fresh (zu (qt (p.map Vl))):=by
 rw[je (F:=fP_rows_in) hT rfl];simp only[fP_rows_in,Za,enter];ext;rw[qp (l:=zu (p.map Vl)) (by rfl) ?_ ?_ (.inl rfl)]
 .ext;rw[Mi hC (λf hf=>by obtain⟨t,_,rfl⟩:=Xe.mp hf;exact j99 t) (by rw[xj];exact hp)];ext
 .rw[xj];omega
 .rw[zu,Xc];refine jy λt _=>zg (by ext) ?_;by_cases h:t=2
  .ext;simp only[gNT];ext;simp only[gAN];ext;simp[Vl,h]
  .ext;simp only[gNT];ext;simp[Vl,h]
theorem Qc(n:Nat):upto 0 n=(aE n).map λ(k:Nat)=>D.int (0+(k:Int)):=rfl
theorem jfd{m:Nat}(h:m<=6):(1:Int)<=2^m/\(2:Int)^m<=64:=by
 have:m=0\/m=1\/m=2\/m=3\/m=4\/m=5\/m=6:=by omega
 rcases this with e|e|e|e|e|e|e<;>subst e<;>decide
theorem j2f{p:List Int}{k:Nat}(h:k<p.length):atI (p.map D.int) (0+(k:Int))=a3 (.int (p.getD k 0)):=by rw[cJ];refine Y7 ?_;rw[X7,kh h,km,kh h];rfl
end
end KL
namespace KV
open PySem
noncomputable def letters:List Nat:=[109,100,107,98,118,113,104,122,99,103,114,110,97,112,120,111,108,115,105,101,102,119,116,121,106,117]
theorem jcn:("mdkbvqhzcgrnapxolsiefwtyju":af).cps.toList=letters:=by decide +kernel
noncomputable def lt(n:Int):Nat:=letters.getD n.toNat 0
noncomputable def sL(l:List Nat):af:=⟨l.toArray⟩
theorem vm{l:List Nat}:(sL l).length=l.length:=by simp[sL,mG]
theorem jep{l m:List Nat}(h:sL l=sL m):l=m:=by have:=congrArg (λz=>z.cps.toList) h;simpa [sL]using this
theorem Z0{l m:List Nat}:sL l++sL m=sL (l++m):=by show(⟨l.toArray++m.toArray⟩:af)=_;simp[sL]
theorem Nm:∀l:List Nat,eS ("":af) (l.map λc=>(⟨#[c]⟩:af))=sL l:=by
 intro l;show mH _ _=_;rw[StrLaws.glued_eq_join];induction l with
 |nil=>rfl
 |cons a r ih =>
  cases r with
  |nil=>rfl
  |cons b r =>
   rw[xu,xu,Str.join,<-xu (f:=λc=>(⟨#[c]⟩:af)),ih]
   .show(⟨(#[a] ++ #[])++(b::r).toArray⟩:af)=⟨(a::b::r).toArray⟩
    simp
   .intro z;cases z
theorem j5c{l:List Nat}:(sL l).cps.toList=l:=by simp[sL]
theorem Nv{k n:Nat}:az a5 (a3 (k:Int)) 1 n=az (a3 ((0:Nat):Int)) (a3 (k:Int)) 1 n:=by
 have e:max (0:Int) (min 0 (n:Int))=0:=by omega
 simp[az,e]
theorem Nx{k n:Nat}:az (a3 (k:Int)) a5 1 n=az (a3 (k:Int)) (a3 (n:Int)) 1 n:=by
 have e:max (0:Int) (min (n:Int) (n:Int))=n:=by omega
 have e2:¬((n:Int)<0):=by omega
 simp[az,e,e2]
theorem Ov{l:List Nat}{a b:Nat}{lo hi:Option Int}(he:az lo hi 1 (sL l).length=az (a3 (a:Int)) (a3 (b:Int)) 1 (sL l).length)(hab:a<=b)(hb:b<=l.length):bg (sL l) lo hi=sL ((l.drop a).take (b-a)):=by
 have hb':b<=(sL l).length:=by rw[vm];exact hb
 have q:=StrLaws.sliced_plain (sL l) hab hb';rw[j5c]at q;have e1:=StrLaws.strSliceIndices_plain hab hb';unfold bg;rw[he];by_cases h:((1:Int)==1&&(az (a3 (a:Int)) (a3 (b:Int)) 1 (sL l).length).length==(sL l).length)=a7
 .rw[if_pos h];rw[e1,vm,xj,Pg]at h;have:b-a=l.length:=by simpa using h
  have ha:a=0:=by omega
  subst ha;rw[this,dn,dW]
 .rw[if_neg h,q];rfl
theorem N5{l:List Nat}{k:Nat}(h:k<=l.length):bg (sL l) a5 (a3 (k:Int))=sL (l.take k):=by rw[Ov (a:=0) (b:=k) Nv (Ti _) h];simp
theorem Wf{l:List Nat}{k:Nat}(h:k<=l.length):bg (sL l) (a3 (k:Int)) a5=sL (l.drop k):=by rw[Ov (a:=k) (b:=l.length) (by rw[Nx,vm]) h (X3 _),Tj (by rw[pq];omega)]
theorem M3 {l:List Nat} (h:l.length<=100):fF ("":af) (l.map λc=>(⟨#[c]⟩:af))=a7:=by
 unfold fF;rw[fU];have e:∀(r:List Nat)(k:Nat),(r.map λc=>(⟨#[c]⟩:af)).foldl (λ(x:Nat) (y:af)=>x+y.length+("":af).length) k=k+r.length:=by
  intro r;induction r with
  |nil=>intro k;rfl
  |cons a r ih =>intro k;rw[xu,cq,ih,xx];show k+1+0+r.length=_;omega
 show cM _=a4;have:=e l 0;rw[List.foldl_toArray];show cM (dm (λ(x:Nat) (y:af)=>x+y.length+("":af).length) 0 _)=a4;rw[this];unfold cM;simp;have:=dh;omega
noncomputable def Vv(c:Int):List Nat:=(aE 8).map λ(k:Nat)=>lt (c/(4+5*(k:Int))%26)
noncomputable def V2(c:Int)(s:Nat):List Nat:=(aE s).map λ(k:Nat)=>lt ((c/32+3*(k:Int)*(k:Int)+(k:Int))%26)
theorem Q5(c:Int):(Vv c).length=8:=by simp[Vv]
theorem zq(c:Int)(s:Nat):(V2 c s).length=s:=by simp[V2]
noncomputable def stN(c:Int)(m:Nat):Nat:=(c/8%(9-(m:Int))).toNat
noncomputable def szN(c:Int):Nat:=(c/4%8).toNat
noncomputable def atN(c:Int):Nat:=(c/512%((szN c:Int)+1)).toNat
noncomputable def wrd(c:Int)(m k:Nat):List Nat :=
 if c%4<2 then(if c%4=0 then(Vv c).take (stN c m+k+1) else(Vv c).drop (8-stN c m-k-1))
 else(V2 c (szN c)).take (atN c)++lt ((c/9+7*(k:Int))%26)::(V2 c (szN c)).drop (atN c)
noncomputable def vh(c:Int)(m:Nat):List af:=(aE m).map λ(k:Nat)=>sL (wrd c m k)
theorem jg0{a b:Int}(ha:0<=a/\a<26)(hb:0<=b/\b<26)(h:lt a=lt b):a=b:=by
 obtain⟨i,rfl⟩:∃i:Nat,a=(i:Int):=⟨a.toNat,by omega⟩
 obtain⟨j,rfl⟩:∃j:Nat,b=(j:Int):=⟨b.toNat,by omega⟩
 have key:∀i j:Fin 26,letters.getD i.val 0=letters.getD j.val 0->i=j:=by decide +kernel
 have:=key ⟨i,by omega⟩ ⟨j,by omega⟩ h;have:=congrArg Fin.val this;simp at this;omega
theorem j38{c:Int}{m:Nat}(h:m<=6):stN c m+m<=8:=by unfold stN;have h1:=Pj (c/8) (show(9-(m:Int))≠0 by omega);have h2:=T3 (c/8) (show(0:Int)<9-(m:Int)by omega);omega
theorem j4g(c:Int):atN c<=szN c/\szN c<=7:=by unfold atN;have h1:=Pj (c/512) (show((szN c:Int)+1)≠0 by omega);have h2:=T3 (c/512) (show(0:Int)<(szN c:Int)+1 by omega);refine⟨by omega,?_⟩;unfold szN;omega
theorem jb7{c:Int}{m k:Nat}(hm:m<=6)(hk:k<m):1<=(wrd c m k).length/\(wrd c m k).length<=8:=by
 have s:=j38 (c:=c) hm;have a:=j4g c;have l8:=Q5 c;have ls:=zq c (szN c);unfold wrd;split
 .split
  .rw[Xl];omega
  .rw[pq];omega
 .rw[X6,xx,Xl,pq];omega
theorem jb8{c:Int}{m i j:Nat}(hm:m<=6)(hi:i<m)(hj:j<m)(h:wrd c m i=wrd c m j):i=j:=by
 have s:=j38 (c:=c) hm;have a:=j4g c;have l8:=Q5 c;have ls:=zq c (szN c);unfold wrd at h;split at h
 .split at h
  .have:=congrArg cT h;rw[Xl,Xl]at this;omega
  .have:=congrArg cT h;rw[pq,pq]at this;omega
 .have h2:=List.append_cancel_left h;have h3:=(List.cons.inj h2).1;have:=jg0 nofun nofun h3;omega
theorem Rj(c:Int)(m:Nat):(vh c m).length=m:=by simp[vh]
theorem Ie{c:Int}{m:Nat}(hm:m<=6):(vh c m).Nodup:=by unfold vh;unfold List.Nodup;rw[jY];exact List.Pairwise.imp_of_mem (λhi hj h e=>h (jb8 hm (Xf.mp hi) (Xf.mp hj) (jep e))) (List.nodup_range (n:=m))
end KV
open PySem (Str)
open L2
namespace KW
open KL KV PySem
noncomputable def Zw:Sx:=(.seq (.set 2 (.lit (.str "mdkbvqhzcgrnapxolsiefwtyju"))) (.seq (.ife (.cmp .lt (.bin .mod (.var 0) (.lit (.int 4))) (.lit (.int 2))) (.seq (.set 3 (.join "" (.comp [4] (.ix (.var 2) (.bin .mod (.bin .fdiv (.var 0) (.bin .add (.lit (.int 4)) (.bin .mul (.lit (.int 5)) (.var 4)))) (.lit (.int 26)))) (.range (.cons (.lit (.int 8)) .nil)) .nil))) (.seq (.set 5 (.bin .mod (.bin .fdiv (.var 0) (.lit (.int 8))) (.bin .sub (.lit (.int 9)) (.var 1)))) (.seq (.ife (.cmp .eq (.bin .mod (.var 0) (.lit (.int 4))) (.lit (.int 0))) (.seq (.ret (.comp [4] (.sl (.var 3) .nil (.cons (.bin .add (.bin .add (.var 5) (.var 4)) (.lit (.int 1))) .nil)) (.range (.cons (.var 1) .nil)) .nil)) .nop) .nop) (.seq (.ret (.comp [4] (.sl (.var 3) (.cons (.bin .sub (.bin .sub (.bin .sub (.lit (.int 8)) (.var 5)) (.var 4)) (.lit (.int 1))) .nil) .nil) (.range (.cons (.var 1) .nil)) .nil)) .nop)))) .nop) (.seq (.set 6 (.bin .mod (.bin .fdiv (.var 0) (.lit (.int 4))) (.lit (.int 8)))) (.seq (.set 7 (.join "" (.comp [4] (.ix (.var 2) (.bin .mod (.bin .add (.bin .add (.bin .fdiv (.var 0) (.lit (.int 32))) (.bin .mul (.bin .mul (.lit (.int 3)) (.var 4)) (.var 4))) (.var 4)) (.lit (.int 26)))) (.range (.cons (.var 6) .nil)) .nil))) (.seq (.set 8 (.bin .mod (.bin .fdiv (.var 0) (.lit (.int 512))) (.bin .add (.var 6) (.lit (.int 1))))) (.seq (.ret (.comp [4] (.bin .add (.bin .add (.sl (.var 7) .nil (.cons (.var 8) .nil)) (.ix (.var 2) (.bin .mod (.bin .add (.bin .fdiv (.var 0) (.lit (.int 9))) (.bin .mul (.lit (.int 7)) (.var 4))) (.lit (.int 26))))) (.sl (.var 7) (.cons (.var 8) .nil) .nil)) (.range (.cons (.var 1) .nil)) .nil)) .nop))))))
noncomputable def fL_words:Fi:=⟨2,9,Zw,a4⟩
noncomputable def Wc:Sx:=(.seq (.set 3 (.comp [4] (.var 4) (.range (.cons (.blt .len (.cons (.var 0) .nil)) .nil)) (.cons (.cmp .eq (.bin .mod (.bin .fdiv (.var 2) (.bin .shl (.lit (.int 1)) (.var 4))) (.lit (.int 2))) (.lit (.int 1))) .nil))) (.seq (.set 5 (.blt .sum (.cons (.comp [4] (.bin .shl (.ix (.var 0) (.var 4)) (.var 4)) (.seq (.var 3)) .nil) .nil))) (.seq (.set 6 (.blt .sum (.cons (.comp [4,7] (.bin .shl (.var 7) (.var 4)) (.enum (.var 0)) .nil) .nil))) (.seq (.ife (.cmp .eq (.var 1) (.lit (.int 1))) (.seq (.ret (.blt .int (.cons (.cmp .gt (.blt .sum (.cons (.var 0) .nil)) (.bin .mod (.bin .fdiv (.var 2) (.lit (.int 64))) (.blt .len (.cons (.var 0) .nil)))) .nil))) .nop) .nop) (.seq (.ife (.cmp .eq (.var 1) (.lit (.int 2))) (.seq (.set 8 (.bin .mod (.bin .mul (.bin .add (.var 6) (.lit (.int 1))) (.bin .add (.lit (.int 1)) (.bin .mod (.var 2) (.lit (.int 1000003))))) (.lit (.int 2147483629)))) (.seq (.ret (.blt .int (.cons (.cmp .eq (.bin .mod (.bin .fdiv (.var 8) (.lit (.int 32))) (.lit (.int 5))) (.lit (.int 0))) .nil))) .nop)) .nop) (.seq (.ife (.cmp .eq (.var 1) (.lit (.int 3))) (.seq (.set 8 (.bin .mul (.bin .add (.bin .add (.bin .mul (.var 5) (.var 5)) (.bin .mul (.lit (.int 17)) (.var 5))) (.lit (.int 69621))) (.bin .add (.lit (.int 1)) (.bin .mod (.var 2) (.lit (.int 1000003)))))) (.seq (.ret (.bin .mod (.bin .fdiv (.bin .mod (.var 8) (.lit (.int 2147483647))) (.lit (.int 16))) (.lit (.int 2)))) .nop)) .nop) (.seq (.ife (.cmp .eq (.var 1) (.lit (.int 4))) (.seq (.ret (.bin .mod (.bin .add (.blt .sum (.cons (.comp [4] (.ix (.var 0) (.var 4)) (.seq (.var 3)) .nil) .nil)) (.bin .fdiv (.var 2) (.lit (.int 64)))) (.lit (.int 2)))) .nop) .nop) (.seq (.set 8 (.bin .mul (.bin .add (.bin .mul (.var 6) (.var 6)) (.lit (.int 48271))) (.bin .add (.bin .add (.bin .mod (.var 2) (.lit (.int 1000003))) (.var 6)) (.lit (.int 1))))) (.seq (.ret (.bin .mod (.bin .fdiv (.bin .mod (.var 8) (.lit (.int 2147483647))) (.lit (.int 64))) (.lit (.int 2)))) .nop)))))))))
noncomputable def fL_bit:Fi:=⟨3,9,Wc,a4⟩
noncomputable def Qw:Sx:=(.seq (.set 3 (.bin .add (.lit (.int 1)) (.bin .mod (.call "_law_cell" (.cons (.var 0) (.cons (.var 1) .nil))) (.var 2)))) (.seq (.set 4 (.call "_law_words" (.cons (.call "_law_cell" (.cons (.var 0) (.cons (.bin .add (.var 1) (.lit (.int 1))) .nil))) (.cons (.var 3) .nil)))) (.seq (.set 5 (.bin .mod (.bin .fdiv (.call "_law_cell" (.cons (.var 0) (.cons (.var 1) .nil))) (.var 2)) (.lit (.int 5)))) (.seq (.set 6 (.lst .nil)) (.seq (.loop [7] (.range (.cons (.bin .shl (.lit (.int 1)) (.var 3)) .nil)) (.seq (.set 8 (.comp [9] (.bin .mod (.bin .fdiv (.var 7) (.bin .shl (.lit (.int 1)) (.bin .sub (.bin .sub (.var 3) (.var 9)) (.lit (.int 1))))) (.lit (.int 2))) (.range (.cons (.var 3) .nil)) .nil)) (.seq (.app 6 (.call "_law_bit" (.cons (.var 8) (.cons (.var 5) (.cons (.call "_law_cell" (.cons (.var 0) (.cons (.bin .add (.var 1) (.lit (.int 2))) .nil))) .nil))))) .nop))) (.seq (.ret (.tup (.cons (.blt .tuple (.cons (.var 4) .nil)) (.cons (.blt .tuple (.cons (.var 6) .nil)) .nil)))) .nop))))))
noncomputable def fL_question:Fi:=⟨3,10,Qw,a4⟩
section
variable{G:af->Option D}{T:af->Option Fi}
theorem j3r {n:Int} (h:0<=n/\n<26):atI ("mdkbvqhzcgrnapxolsiefwtyju":af).cps.toList n=a3 (lt n):=by
 obtain⟨k,rfl⟩:∃k:Nat,n=(k:Int):=⟨n.toNat,by omega⟩
 have hk:k<letters.length:=by show k<26;omega
 rw[jcn];refine Y7 ?_;unfold lt;rw[kh hk,Xh,km,kh hk];rfl
theorem jas:("mdkbvqhzcgrnapxolsiefwtyju":af).length<=1000000:=by decide +kernel
theorem j7n {fu n m:Nat} (hT:T "_law_words" = a3 fL_words) {c:Int} (h:¬c%4<2) (hm:m<=10):evP fu G T (n+1) "_law_words" [.int c,.int m]=.fresh ((vh c m).map D.str):=by
 rw[je (F:=fL_words) hT rfl];simp only[fL_words,Zw,enter];have ll:=jas;have a:=j4g c;obtain⟨s,hs⟩:∃s:Nat,s=szN c:=⟨_,rfl⟩
 have es:c/4%8=(s:Int):=by rw[hs];unfold szN;omega
 obtain⟨q,hq⟩:∃q:Nat,q=atN c:=⟨_,rfl⟩
 have eq:c/512%((s:Int)+1)=(q:Int):=by rw[hq];unfold atN;have:=Pj (c/512) (show((s:Int)+1)≠0 by omega);rw[<-hs];omega
 ext;rw[es,qp (l:=((V2 c s).map λx=>(⟨#[x]⟩:af)).map D.str) (by rfl) (by rw[zp];omega) ?_ (.inl rfl)];rotate_left
 .rw[Xh,Qc,V2,Xc,Xc];refine jy λk hk'=>zg (by ext) ?_;have hk:=Xf.mp hk';ext;rw[j3r nofun];ext;simp
 rw[j2d (M3 (by rw[zq];omega)),Nm];have lg:(sL (V2 c s)).length=s:=by rw[vm,zq]
 ext;rw[eq,qp (l:=(vh c m).map D.str) (by rfl) (by rw[zp];omega) ?_ (.inl rfl)]
 .ext
 .rw[Xh,Qc,vh,Xc];refine jy λk hk'=>zg (by ext) ?_;have hk:=Xf.mp hk';ext;rw[j3r nofun];ext;rw[N5 (by rw[zq];omega),Wf (by rw[zq];omega)];have e1:(⟨#[lt ((c/9+7*(0+(k:Int)))%26)]⟩:af)=sL [lt ((c/9+7*(0+(k:Int)))%26)]:=rfl;have l1:(sL ((V2 c s).take q)).length=q:=by rw[vm,Xl,zq];omega
  have l2:(sL ((V2 c s).drop q)).length=s-q:=by rw[vm,pq,zq]
  have l3:(sL [lt ((c/9+7*(0+(k:Int)))%26)]).length=1:=rfl;have l4:(sL ((V2 c s).take q)++sL [lt ((c/9+7*(0+(k:Int)))%26)]).length=q+1:=by rw[Z0,vm,X6,Xl,zq,xx,Pr];omega
  rw[e1];ext;rw[Z0,Z0];simp only[eM,wrd,h,if_false,<-hs,<-hq,Tw,List.singleton_append,cJ]
theorem j2z {fu n m:Nat} (hT:T "_law_words" = a3 fL_words) {c:Int} (hm:1<=m/\m<=6):evP fu G T (n+1) "_law_words" [.int c,.int m]=.fresh ((vh c m).map D.str):=by
 by_cases h:c%4<2
 .rw[je (F:=fL_words) hT rfl];simp only[fL_words,Zw,enter];have ll:=jas;ext;rw[qp (l:=((Vv c).map λx=>(⟨#[x]⟩:af)).map D.str) (by rfl) (by rw[zp];decide) ?_ (.inl rfl)];rotate_left
  .rw[Qc,Vv,Xc,Xc];refine jy λk hk'=>zg (by ext) ?_;have hk:=Xf.mp hk';ext;rw[j3r nofun];ext;simp
  rw[j2d (M3 (by rw[Q5];decide)),Nm];have st:=j38 (c:=c) hm.2;obtain⟨s,hs⟩:∃s:Nat,s=stN c m:=⟨_,rfl⟩
  have es:c/8%(9-(m:Int))=(s:Int):=by rw[hs];unfold stN;have:=Pj (c/8) (show(9-(m:Int))≠0 by omega);omega
  have lg:(sL (Vv c)).length=8:=by rw[vm,Q5]
  by_cases h0:c%4=0
  .ext;rw[es,qp (l:=(vh c m).map D.str) (by rfl) (by rw[zp];omega) ?_ (.inl rfl)]
   .ext
   .rw[Xh,Qc,vh,Xc];refine jy λk hk'=>zg (by ext) ?_;have hk:=Xf.mp hk';ext;have e:(s:Int)+(0+(k:Int))+1=((s+k+1:Nat):Int):=by omega
    have hh:wrd c m k=(Vv c).take (stN c m+k+1):=by unfold wrd;rw[if_pos h,if_pos h0]
    rw[e,N5 (by rw[Q5];omega)];simp only[eM,hh,hs]
  .ext;rw[es,qp (l:=(vh c m).map D.str) (by rfl) (by rw[zp];omega) ?_ (.inl rfl)]
   .ext
   .rw[Xh,Qc,vh,Xc];refine jy λk hk'=>zg (by ext) ?_;have hk:=Xf.mp hk';ext;have e:8-(s:Int)-(0+(k:Int))-1=((8-s-k-1:Nat):Int):=by omega
    have hh:wrd c m k=(Vv c).drop (8-stN c m-k-1):=by unfold wrd;rw[if_pos h,if_neg h0]
    rw[e,Wf (by rw[Q5];omega)];simp only[eM,hh,hs]
 .exact j7n hT h nofun
theorem Ir:∀{l:List Int},(∀x∈l,0<=x/\x<=32)->0<=l.sum/\l.sum<=32*(l.length:Int)
 |[],_=>by simp
 |a::r,h=>by have h1:=h a (xr ..);have h2:=Ir (l:=r) λx hx=>h x (kj _ hx);rw[List.sum_cons,xx];omega
theorem p2k{k:Nat}(h:k<=5):0<(2:Int)^k/\(2:Int)^k<=32:=by
 have:k=0\/k=1\/k=2\/k=3\/k=4\/k=5:=by omega
 rcases this with e|e|e|e|e|e<;>subst e<;>decide
noncomputable def Yh(row:List Int)(c:Int):List Nat:=(aE row.length).filter λ(k:Nat)=>decide (c/(1*2^(0+(k:Int)).toNat)%2=1)
noncomputable def Um(row:List Int)(c:Int):List Int:=(Yh row c).map λ(k:Nat)=>row.getD k 0*2^(0+(k:Int)).toNat
noncomputable def byL(row:List Int):List Int:=row.zipIdx.map λp=>p.1*2^((p.2:Nat):Int).toNat
theorem t0k(k:Nat):(0+(k:Int)).toNat=k:=by omega
theorem j4b{row:List Int}(h01:∀x∈row,x=0\/x=1)(k:Nat):row.getD k 0=0\/row.getD k 0=1:=by
 rw[km];cases h:row[k]? with
 |none=>exact .inl rfl
 |some v=>exact h01 v (Xm h)
theorem jcs{row:List Int}{c:Int}(h01:∀x∈row,x=0\/x=1)(hl:row.length<=6):0<=(Um row c).sum/\(Um row c).sum<=192:=by
 have h:=Ir (l:=Um row c) λx hx=>by
  obtain⟨k,hk,rfl⟩:=Xe.mp hx;have hk2:=Xf.mp (Xz.mp hk).1;have p:=p2k (k:=k) nofun
  rw[t0k];rcases j4b h01 k with e|e<;>rw[e]<;>omega
 have l:(Um row c).length<=6:=by unfold Um Yh;rw[xj];exact Xi (Tq _ _) (by rw[Pg];exact hl)
 omega
theorem jkc{row:List Int}(h01:∀x∈row,x=0\/x=1)(hl:row.length<=6):0<=(byL row).sum/\(byL row).sum<=192:=by
 have h:=Ir (l:=byL row) λx hx=>by
  obtain⟨p,hp,rfl⟩:=Xe.mp hx;obtain⟨a,k⟩:=p;have hm:=kF hp;have p:=p2k (k:=k) nofun
  show 0<=a*2^((k:Nat):Int).toNat/\a*2^((k:Nat):Int).toNat<=32;rw[Xh];have:=h01 a (by rw[hm.2.2];exact Xy _);rcases this with e|e<;>rw[e]<;>omega
 have l:(byL row).length<=6:=by unfold byL;rw[xj,dk];exact hl
 omega
theorem jhw {fu n:Nat} (hT:T "_law_bit" = a3 fL_bit) {row:List Int} {kd c:Int} (h01:∀x∈row,x=0\/x=1) (hl:1<=row.length/\row.length<=6):∃b:Int,(b=0\/b=1)/\evP fu G T (n+1) "_law_bit" [.lst (row.map D.int),.int kd,.int c]=.val (.int b):=by
 rw[je (F:=fL_bit) hT rfl];simp only[fL_bit,Wc,enter];have kb:=jcs (c:=c) h01 hl.2;have bb:=jkc h01 hl.2;have sl:(Yh row c).length<=6:=by unfold Yh;exact Xi (Tq _ _) (by rw[Pg];exact hl.2)
 have get:∀k:Nat,k∈Yh row c->atI (row.map D.int) (0+(k:Int))=a3 (.int (row.getD k 0)):=λk hk=>j2f (Xf.mp (Xz.mp hk).1);ext;rw[qp (l:=(Yh row c).map λ(k:Nat)=>D.int (0+(k:Int))) (by rfl) (by rw[zp];omega) ?_ (.inl rfl)];rotate_left
 .rw[Xh,Qc,Yh];refine Ye λk hk'=>?_;have hk:=Xf.mp hk';have p:0<(2:Int)^(0+(k:Int)).toNat/\(2:Int)^(0+(k:Int)).toNat<=32:=by rw[t0k];exact p2k nofun
  refine Ij ?_ λ_=>?_
  .ext;simp only[Ci];ext
  .ext
 ext;rw[qp (l:=(Um row c).map D.int) (by rfl) (by rw[xj];omega) ?_ (.inr (Qs _))];rotate_left
 .rw[Um,Xc];refine jy λk hk'=>zg (by ext) ?_;have b:=j4b h01 k;have hk:=Xf.mp (Xz.mp hk').1;ext;rw[get k hk'];ext;rfl
 ext;rw[qp (l:=(byL row).map D.int) (by rfl) (by simp only[Qj,xj,dk];omega) ?_ (.inl rfl)];rotate_left
 .rw[byL,Xc,Qj,List.zipIdx_map,Xc];refine jy λq hq=>?_;obtain⟨a,k⟩:=q;have hm:=kF hq;have h1:=h01 a (by rw[hm.2.2];exact Xy _);show Ju _ _ _ _ (D.tup [.int (k:Int),.int a])=_;refine jba (by ext) ?_;ext;rfl
 ext;generalize (Um row c).sum=kept at *;generalize (byL row).sum=byr at *;by_cases k1:kd=1
 .refine⟨if decide (c/64%(row.length:Int)<row.sum)=a7 then 1 else 0,by split<;>simp,?_⟩;ext;simp only[jdp];ext
 .by_cases k2:kd=2
  .refine⟨if decide ((byr+1)*(1+c%1000003)%2147483629/32%5=0)=a7 then 1 else 0,by split<;>simp,?_⟩;ext;simp only[Ci];ext
  .by_cases k3:kd=3
   .refine⟨(kept*kept+17*kept+69621)*(1+c%1000003)%2147483647/16%2,by omega,?_⟩;ext
   .by_cases k4:kd=4
    .refine⟨(((Yh row c).map λ(k:Nat)=>row.getD k 0).sum+c/64)%2,by omega,?_⟩;ext;rw[qp (l:=((Yh row c).map λ(k:Nat)=>row.getD k 0).map D.int) (by rfl) (by rw[xj];omega) ?_ (.inr (Qs _))]
     .ext
     .rw[Xc];refine jy λk hk'=>zg (by ext) ?_;ext;rw[get k hk'];ext;rfl
    .refine⟨(byr*byr+48271)*(c%1000003+byr+1)%2147483647/64%2,by omega,?_⟩;ext
noncomputable def Cm(fu:Nat)(G:af->Option D)(T:af->Option Fi)(n:Nat)(row:List Int)(kd c:Int):Int:=match evP fu G T (n+1) "_law_bit" [.lst (row.map D.int),.int kd,.int c] with
 |.val (.int b)=>b
 |_=>0
theorem j0x {fu n:Nat} (hT:T "_law_bit" = a3 fL_bit) {row:List Int} {kd c:Int} (h01:∀x∈row,x=0\/x=1) (hl:1<=row.length/\row.length<=6):(Cm fu G T n row kd c=0\/Cm fu G T n row kd c=1)/\evP fu G T (n+1) "_law_bit" [.lst (row.map D.int),.int kd,.int c]=.val (.int (Cm fu G T n row kd c)):=by obtain⟨b,hb,e⟩:=jhw (fu:=fu) (n:=n) (G:=G) hT h01 hl (kd:=kd) (c:=c);unfold Cm;rw[e];exact⟨hb,rfl⟩
theorem jay(m:Nat)(z:Int):∀x∈jk 2 m z,x=0\/x=1:=by
 intro x hx;obtain⟨i,hi⟩:=List.mem_iff_getElem?.mp hx;have hl:i<m:=by have:=(Xa.mp hi).1;rw[vg]at this;exact this
 rw[Vq 2 hl]at hi;cases hi;omega
noncomputable def Yj(ns:List Int)(a most:Nat):Nat:=(1+qb ns a%(most:Int)).toNat
noncomputable def U7(fu:Nat)(G:af->Option D)(T:af->Option Fi)(n:Nat)(ns:List Int)(a most:Nat):List Int :=
 (aE (2^Yj ns a most)).map λ(k:Nat)=>Cm fu G T n (jk 2 (Yj ns a most) (k:Int)) (qb ns a/(most:Int)%5) (qb ns (a+2))
theorem Dq{ns:List Int}{a most:Nat}(h:1<=most/\most<=6):1<=Yj ns a most/\Yj ns a most<=most:=by unfold Yj;have h1:=Pj (qb ns a) (show(most:Int)≠0 by omega);have h2:=T3 (qb ns a) (show(0:Int)<most by omega);omega
theorem jdx {fu n:Nat} (hB:T "_law_bit" = a3 fL_bit) {ns:List Int} {a most:Nat} (hm:1<=most/\most<=6):∀x∈U7 fu G T n ns a most,x=0\/x=1:=by intro x hx;obtain⟨k,_,rfl⟩:=Xe.mp hx;have mb:=Dq (ns:=ns) (a:=a) hm;exact(j0x hB (jay _ _) (by rw[vg];omega)).1
theorem Km {fu n:Nat} (hC:T "_law_cell" = a3 fL_cell) (hW:T "_law_words" = a3 fL_words) (hB:T "_law_bit" = a3 fL_bit) (hT:T "_law_question" = a3 fL_question) {ns:List Int} {a most:Nat} (ha:a<=50) (hm:1<=most/\most<=6) :
  evP fu G T (n+2) "_law_question" [.lst (ns.map D.int),.int a,.int most]=.val (.tup [.tup ((vh (qb ns (a+1)) (Yj ns a most)).map D.str),.tup ((U7 fu G T n ns a most).map D.int)]):=by
 rw[je (F:=fL_question) hT rfl];simp only[fL_question,Qw,enter];have mb:=Dq (ns:=ns) (a:=a) hm;obtain⟨m,em⟩:∃m:Nat,m=Yj ns a most:=⟨_,rfl⟩
 have em2:1+qb ns a%(most:Int)=(m:Int):=by rw[em];unfold Yj;have h1:=Pj (qb ns a) (show(most:Int)≠0 by omega);omega
 rw[<-em]at mb;have p2:=jfd (m:=m) nofun
 have pc:((2^m:Nat):Int)=(2:Int)^m:=by simp
 have e3:(1*2^m:Int).toNat=2^m:=by rw[iY,<-pc];exact Xh _
 have c0:evP fu G T (n+1) "_law_cell" [.lst (ns.map D.int),.int a]=.val (.int (qb ns a)):=Up hC nofun
 have c1:evP fu G T (n+1) "_law_cell" [.lst (ns.map D.int),.int ((a:Int)+1)]=.val (.int (qb ns (a+1))):=Up hC (k:=a+1) nofun
 have c2:evP fu G T (n+1) "_law_cell" [.lst (ns.map D.int),.int ((a:Int)+2)]=.val (.int (qb ns (a+2))):=Up hC (k:=a+2) nofun
 have wl:(vh (qb ns (a+1)) m).length=m:=Rj _ _;ext;rw[c0];ext;rw[em2,c1];ext;erw[j2z hW nofun,c0,Xh];rw[e3];rw[j8q (λi=>[.val (.lst (ns.map D.int)),.val (.int a),.val (.int most),.val (.int m),.own ((vh (qb ns (a+1)) m).map D.str),.val (.int (qb ns a/(most:Int)%5)),.own (((U7 fu G T n ns a most).take i).map D.int),if i=0 then .un else .val (.int ((i:Int)-1)),if i=0 then .un else .own ((jk 2 m ((i:Int)-1)).map D.int),.un]) (by simp)]
 .ext;rw[zp,Tj (by simp[U7,<-em]),<-em]
 .intro i d hi;obtain⟨h1,rfl⟩:=Ig hi;have hz:=jay m (0+(i:Int));have hlz:=vg 2 m (0+(i:Int));obtain⟨hb,eb⟩:=j0x (fu:=fu) (n:=n) (G:=G) hB hz nofun (kd:=qb ns a/(most:Int)%5) (c:=qb ns (a+2))
  have lt64:2^m<=64:=by omega
  have al:(U7 fu G T n ns a most).length=2^m:=by simp[U7,<-em]
  have ag:(U7 fu G T n ns a most)[i]?=a3 (Cm fu G T n (jk 2 m (0+(i:Int))) (qb ns a/(most:Int)%5) (qb ns (a+2))):=by unfold U7;rw[<-em,X7,Th h1,cJ];rfl
  simp only[Yq];ext;rw[qp (l:=(jk 2 m (0+(i:Int))).map D.int) (by rfl) (by rw[zp];omega) ?_ (.inl rfl)];rotate_left
  .have ed:jk 2 m (0+(i:Int))=(aE m).map λ(k:Nat)=>(0+(i:Int))/2^(m-k-1)%2:=by
    refine cG λk=>?_;by_cases hk:k<m
    .rw[Vq 2 hk,X7,Th hk];rfl
    .rw[ph (by rw[vg];omega),ph (by simp;omega)]
   rw[Xh,Qc,ed,Xc];refine jy λk hk'=>zg (by ext) ?_;have hk:=Xf.mp hk';have et:((m:Int)-(0+(k:Int))-1).toNat=m-k-1:=by omega
   have p:=p2k (k:=m-k-1) nofun
   rw[<-et]at p;ext;rw[et,iY];rfl
  ext;rw[c2];ext;rw[j9q,eb];ext;rw[jhy (by simp only[xj,Xl];omega) rfl];ext;rw[dE,ag];simp
end
end KW
section
namespace K27
open PySem PySem.Spec PyProof.Rows L2
noncomputable def top(i:Nat):aP:=PySem.Challenge.pw_leastasks_k27_prices_refused.main.body.getD i (.Pass ⟨0,0,0,0⟩)
noncomputable def Zo:Sx:=(.seq (.ret (.call "number_of" (.cons (.var 0) (.cons (.blt .len (.cons (.glob "ANSWERS") .nil)) .nil)))) .nop)
noncomputable def Yb:Fi:=⟨1,1,Zo,a4⟩
noncomputable def Za:Sx:=(.seq (.ret (.call "all_choices" (.cons (.comp [1] (.ite (.cmp .eq (.var 1) (.glob "NOT_TOLD")) (.glob "ANSWERS") (.tup (.cons (.var 1) .nil))) (.seq (.var 0)) .nil) .nil))) .nop)
noncomputable def fP_rows_in:Fi:=⟨1,2,Za,a4⟩
noncomputable def Vz:Sx:=(.seq (.ret (.call "all_choices" (.cons (.comp [1] (.ite (.cmp .eq (.var 1) (.glob "NOT_TOLD")) (.glob "TELLINGS") (.tup (.cons (.var 1) .nil))) (.seq (.var 0)) .nil) .nil))) .nop)
noncomputable def Uw:Fi:=⟨1,2,Vz,a4⟩
noncomputable def Js:Sx:=(.seq (.ife (.or (.cmp .lt (.var 1) (.lit (.int 0))) (.or (.cmp .ge (.var 1) (.blt .len (.cons (.var 0) .nil))) (.cmp .ne (.ix (.var 0) (.var 1)) (.glob "NOT_TOLD")))) (.seq (.raise "NoAsk" (.fst (.cons (.lit (.str "nothing can be asked at spot ")) (.cons (.var 1) (.cons (.lit (.str " of ")) (.cons (.var 0) .nil)))))) .nop) .nop) (.seq (.ret (.bin .add (.bin .add (.sl (.var 0) .nil (.cons (.var 1) .nil)) (.tup (.cons (.var 2) .nil))) (.sl (.var 0) (.cons (.bin .add (.var 1) (.lit (.int 1))) .nil) .nil))) .nop))
noncomputable def Jq:Fi:=⟨3,3,Js,a4⟩
noncomputable def Je:Sx:=(.seq (.set 1 (.lst (.cons (.tup .nil) .nil))) (.seq (.loop [2] (.seq (.var 0)) (.seq (.set 3 (.lst .nil)) (.seq (.loop [4] (.seq (.var 1)) (.seq (.ext 3 (.comp [5] (.bin .add (.var 4) (.tup (.cons (.var 5) .nil))) (.seq (.var 2)) .nil)) .nop)) (.seq (.mov 1 3) .nop)))) (.seq (.retV 1) .nop)))
noncomputable def fP_all_choices:Fi:=⟨1,6,Je,a4⟩
noncomputable def Vd:Sx:=(.seq (.set 2 (.lit (.int 0))) (.seq (.loop [3] (.seq (.var 0)) (.seq (.set 2 (.bin .add (.bin .mul (.var 2) (.var 1)) (.var 3))) .nop)) (.seq (.retV 2) .nop)))
noncomputable def Yx:Fi:=⟨2,4,Vd,a4⟩
noncomputable def Ve:Sx:=(.seq (.ret (.ix (.ix (.var 0) (.lit (.int 1))) (.call "row_number" (.cons (.var 1) .nil)))) .nop)
noncomputable def Yy:Fi:=⟨2,2,Ve,a4⟩
noncomputable def Zn:Sx:=(.seq (.set 2 (.call "counted_in" (.cons (.var 0) (.cons (.var 1) .nil)))) (.seq (.ife (.cmp .eq (.ix (.var 2) (.lit (.int 1))) (.lit (.int 0))) (.seq (.ret (.lit (.int 0))) .nop) .nop) (.seq (.ife (.cmp .eq (.ix (.var 2) (.lit (.int 0))) (.lit (.int 0))) (.seq (.ret (.lit (.int 1))) .nop) .nop) (.seq (.ret (.lit (.non))) .nop))))
noncomputable def Y9:Fi:=⟨2,3,Zn,a4⟩
noncomputable def Zr:Sx:=(.seq (.set 2 (.comp [3] (.call "answer_to" (.cons (.var 0) (.cons (.var 3) .nil))) (.seq (.call "rows_in" (.cons (.var 1) .nil))) .nil)) (.seq (.ret (.tup (.cons (.meth .count (.var 2) (.cons (.lit (.int 0)) .nil)) (.cons (.meth .count (.var 2) (.cons (.lit (.int 1)) .nil)) .nil)))) .nop))
noncomputable def Yd:Fi:=⟨2,4,Zr,a4⟩
noncomputable def Y0:Sx:=(.seq (.ret (.bin .mul (.tup (.cons (.glob "NOT_TOLD") .nil)) (.blt .len (.cons (.ix (.var 0) (.lit (.int 0))) .nil)))) .nop)
noncomputable def Ux:Fi:=⟨1,1,Y0,a4⟩
noncomputable def Vc:Sx:=(.seq (.ife (.cmp .notin (.var 1) (.ix (.var 0) (.lit (.int 0)))) (.seq (.raise "NoPlace" (.fst (.cons (.rpr (.var 1)) (.cons (.lit (.str " is no place of the question")) .nil)))) .nop) .nop) (.seq (.ret (.tix (.ix (.var 0) (.lit (.int 0))) (.var 1))) .nop))
noncomputable def V6:Fi:=⟨2,2,Vc,a4⟩
noncomputable def Ym:Sx:=(.seq (.ret (.tup (.cons (.lit (.str "tell")) (.cons (.var 0) .nil)))) .nop)
noncomputable def Ws:Fi:=⟨1,1,Ym,a4⟩
noncomputable def Uq:Sx:=(.seq (.ret (.tup (.cons (.lit (.str "ask")) (.cons (.var 0) (.cons (.var 1) (.cons (.var 2) .nil)))))) .nop)
noncomputable def M8:Fi:=⟨3,3,Uq,a4⟩
noncomputable def Jd:Sx:=(.seq (.ife (.isN (.var 1)) (.seq (.ret (.bin .mul (.lst (.cons (.lit (.int 1)) .nil)) (.var 0))) .nop) .nop) (.seq (.ife (.or (.cmp .ne (.blt .len (.cons (.var 1) .nil)) (.var 0)) (.not (.call "all_between" (.cons (.var 1) (.cons (.glob "LEAST_PRICE") .nil))))) (.seq (.raise "WrongPrices" (.fst (.cons (.lit (.str "prices are ")) (.cons (.var 0) (.cons (.lit (.str " numbers from ")) (.cons (.glob "LEAST_PRICE") (.cons (.lit (.str " to ")) (.cons (.glob "GREATEST_NUMBER") .nil)))))))) .nop) .nop) (.seq (.ret (.blt .list (.cons (.var 1) .nil))) .nop)))
noncomputable def v9:Fi:=⟨2,2,Jd,a4⟩
noncomputable def Zc:Sx:=(.seq (.ret (.blt .all (.cons (.comp [2] (.and (.cmp .ge (.var 2) (.var 1)) (.cmp .le (.var 2) (.glob "GREATEST_NUMBER"))) (.seq (.var 0)) .nil) .nil))) .nop)
noncomputable def Vn:Fi:=⟨2,3,Zc,a4⟩
noncomputable def Q8:Sx:=(.seq (.ret (.call "least_table" (.cons (.var 0) (.cons (.call "worst_cost_of_ask" (.cons (.var 0) (.cons (.var 1) .nil))) .nil)))) .nop)
noncomputable def Q6:Fi:=⟨2,2,Q8,a4⟩
noncomputable def Qp:Sx:=(.seq (.ret (.call "least_plan" (.cons (.var 0) (.cons (.call "worst_cost_of_ask" (.cons (.var 0) (.cons (.var 1) .nil))) .nil)))) .nop)
noncomputable def Qo:Fi:=⟨2,2,Qp,a4⟩
noncomputable def J0:Sx:=(.seq (.set 4 (.call "spot_of" (.cons (.var 0) (.cons (.var 2) .nil)))) (.seq (.set 5 (.call "least_numbers" (.cons (.var 1) (.cons (.var 0) (.cons (.call "worst_cost_of_ask" (.cons (.var 0) (.cons (.var 3) .nil))) .nil))))) (.seq (.set 6 (.call "numbers_behind" (.cons (.var 5) (.cons (.var 1) (.cons (.var 4) .nil))))) (.seq (.ret (.ite (.cmp .gt (.ix (.var 6) (.lit (.int 0))) (.ix (.var 6) (.lit (.int 1)))) (.lit (.int 0)) (.lit (.int 1)))) .nop))))
noncomputable def zf:Fi:=⟨4,7,J0,a4⟩
noncomputable def zx:Sx:=(.seq (.set 2 (.call "prices_told" (.cons (.blt .len (.cons (.ix (.var 0) (.lit (.int 0))) .nil)) (.cons (.var 1) .nil)))) (.seq (.keep 2) (.seq (.retL "worst_cost_of_ask" [2]) .nop)))
noncomputable def zr:Fi:=⟨2,3,zx,a4⟩
noncomputable def Zb:Sx:=(.seq (.ret (.dvals (.call "least_numbers" (.cons (.call "all_open" (.cons (.var 0) .nil)) (.cons (.var 0) (.cons (.var 1) .nil)))))) .nop)
noncomputable def Vm:Fi:=⟨2,2,Zb,a4⟩
noncomputable def Zq:Sx:=(.seq (.set 2 (.call "all_open" (.cons (.var 0) .nil))) (.seq (.ret (.call "least_plan_at" (.cons (.var 2) (.cons (.var 0) (.cons (.var 1) (.cons (.call "least_numbers" (.cons (.var 2) (.cons (.var 0) (.cons (.var 1) .nil)))) .nil)))))) .nop))
noncomputable def Yc:Fi:=⟨2,3,Zq,a4⟩
noncomputable def Ql:Sx:=(.seq (.retC "numbers_within" "least_numbers" (.var 0) (.var 1) [2]) .nop)
noncomputable def Zv:Fi:=⟨3,3,Ql,a4⟩
noncomputable def Jy:Sx:=(.nmake 3 4 5 (.seq (.call "parts_in" (.cons (.var 0) .nil))) (.not (.isN (.call "settled_by" (.cons (.var 1) (.cons (.var 4) .nil))))) (.ite (.var 5) (.lit (.int 0)) (.callV 2 (.cons (.var 3) (.cons (.var 4) .nil)))))
noncomputable def Ze:Fi:=⟨3,6,Jy,a4⟩
noncomputable def Ji:Sx:=(.seq (.set 4 (.call "settled_by" (.cons (.var 1) (.cons (.var 0) .nil)))) (.seq (.ife (.not (.isN (.var 4))) (.seq (.ret (.call "telling" (.cons (.var 4) .nil))) .nop) .nop) (.seq (.set 5 (.ix (.call "cheapest_ask" (.cons (.var 3) (.cons (.var 0) (.cons (.var 2) .nil)))) (.lit (.int 1)))) (.seq (.set 6 (.call "least_plan_at" (.cons (.call "told_further" (.cons (.var 0) (.cons (.var 5) (.cons (.lit (.int 0)) .nil)))) (.cons (.var 1) (.cons (.var 2) (.cons (.var 3) .nil)))))) (.seq (.set 7 (.call "least_plan_at" (.cons (.call "told_further" (.cons (.var 0) (.cons (.var 5) (.cons (.lit (.int 1)) .nil)))) (.cons (.var 1) (.cons (.var 2) (.cons (.var 3) .nil)))))) (.seq (.ret (.call "asking" (.cons (.ix (.ix (.var 1) (.lit (.int 0))) (.var 5)) (.cons (.var 6) (.cons (.var 7) .nil))))) .nop))))))
noncomputable def Jh:Fi:=⟨4,8,Ji,a4⟩
noncomputable def Qy:Sx:=(.seq (.ret (.minT (.comp [3,4] (.tup (.cons (.callV 2 (.cons (.var 0) (.cons (.var 1) (.cons (.var 3) .nil)))) (.cons (.var 3) .nil))) (.enum (.var 1)) (.cons (.cmp .eq (.var 4) (.glob "NOT_TOLD")) .nil)))) .nop)
noncomputable def V7:Fi:=⟨3,5,Qy,a4⟩
noncomputable def J8:Sx:=(.seq (.ret (.exc (.comp [3] (.dget (.var 0) (.call "told_further" (.cons (.var 1) (.cons (.var 2) (.cons (.var 3) .nil))))) (.seq (.glob "ANSWERS")) .nil))) .nop)
noncomputable def J6:Fi:=⟨3,4,J8,a4⟩
noncomputable def Yr:Sx:=(.seq (.ife (.cmp .lt (.var 1) (.blt .len (.cons (.var 0) .nil))) (.seq (.ret (.ix (.var 0) (.var 1))) .nop) .nop) (.seq (.set 2 (.bin .add (.lit (.int 70001)) (.bin .mul (.bin .mul (.lit (.int 911)) (.var 1)) (.var 1)))) (.seq (.ife (.cmp .gt (.blt .len (.cons (.var 0) .nil)) (.lit (.int 0))) (.seq (.set 2 (.bin .add (.var 2) (.bin .mul (.bin .mod (.ix (.var 0) (.lit (.int 0))) (.lit (.int 9973))) (.bin .add (.bin .mul (.lit (.int 3)) (.var 1)) (.lit (.int 1)))))) .nop) .nop) (.seq (.retV 2) .nop))))
noncomputable def fL_cell:Fi:=⟨2,3,Yr,a4⟩
noncomputable def Zw:Sx:=(.seq (.set 2 (.lit (.str "mdkbvqhzcgrnapxolsiefwtyju"))) (.seq (.ife (.cmp .lt (.bin .mod (.var 0) (.lit (.int 4))) (.lit (.int 2))) (.seq (.set 3 (.join "" (.comp [4] (.ix (.var 2) (.bin .mod (.bin .fdiv (.var 0) (.bin .add (.lit (.int 4)) (.bin .mul (.lit (.int 5)) (.var 4)))) (.lit (.int 26)))) (.range (.cons (.lit (.int 8)) .nil)) .nil))) (.seq (.set 5 (.bin .mod (.bin .fdiv (.var 0) (.lit (.int 8))) (.bin .sub (.lit (.int 9)) (.var 1)))) (.seq (.ife (.cmp .eq (.bin .mod (.var 0) (.lit (.int 4))) (.lit (.int 0))) (.seq (.ret (.comp [4] (.sl (.var 3) .nil (.cons (.bin .add (.bin .add (.var 5) (.var 4)) (.lit (.int 1))) .nil)) (.range (.cons (.var 1) .nil)) .nil)) .nop) .nop) (.seq (.ret (.comp [4] (.sl (.var 3) (.cons (.bin .sub (.bin .sub (.bin .sub (.lit (.int 8)) (.var 5)) (.var 4)) (.lit (.int 1))) .nil) .nil) (.range (.cons (.var 1) .nil)) .nil)) .nop)))) .nop) (.seq (.set 6 (.bin .mod (.bin .fdiv (.var 0) (.lit (.int 4))) (.lit (.int 8)))) (.seq (.set 7 (.join "" (.comp [4] (.ix (.var 2) (.bin .mod (.bin .add (.bin .add (.bin .fdiv (.var 0) (.lit (.int 32))) (.bin .mul (.bin .mul (.lit (.int 3)) (.var 4)) (.var 4))) (.var 4)) (.lit (.int 26)))) (.range (.cons (.var 6) .nil)) .nil))) (.seq (.set 8 (.bin .mod (.bin .fdiv (.var 0) (.lit (.int 512))) (.bin .add (.var 6) (.lit (.int 1))))) (.seq (.ret (.comp [4] (.bin .add (.bin .add (.sl (.var 7) .nil (.cons (.var 8) .nil)) (.ix (.var 2) (.bin .mod (.bin .add (.bin .fdiv (.var 0) (.lit (.int 9))) (.bin .mul (.lit (.int 7)) (.var 4))) (.lit (.int 26))))) (.sl (.var 7) (.cons (.var 8) .nil) .nil)) (.range (.cons (.var 1) .nil)) .nil)) .nop))))))
noncomputable def fL_words:Fi:=⟨2,9,Zw,a4⟩
noncomputable def Wc:Sx:=(.seq (.set 3 (.comp [4] (.var 4) (.range (.cons (.blt .len (.cons (.var 0) .nil)) .nil)) (.cons (.cmp .eq (.bin .mod (.bin .fdiv (.var 2) (.bin .shl (.lit (.int 1)) (.var 4))) (.lit (.int 2))) (.lit (.int 1))) .nil))) (.seq (.set 5 (.blt .sum (.cons (.comp [4] (.bin .shl (.ix (.var 0) (.var 4)) (.var 4)) (.seq (.var 3)) .nil) .nil))) (.seq (.set 6 (.blt .sum (.cons (.comp [4,7] (.bin .shl (.var 7) (.var 4)) (.enum (.var 0)) .nil) .nil))) (.seq (.ife (.cmp .eq (.var 1) (.lit (.int 1))) (.seq (.ret (.blt .int (.cons (.cmp .gt (.blt .sum (.cons (.var 0) .nil)) (.bin .mod (.bin .fdiv (.var 2) (.lit (.int 64))) (.blt .len (.cons (.var 0) .nil)))) .nil))) .nop) .nop) (.seq (.ife (.cmp .eq (.var 1) (.lit (.int 2))) (.seq (.set 8 (.bin .mod (.bin .mul (.bin .add (.var 6) (.lit (.int 1))) (.bin .add (.lit (.int 1)) (.bin .mod (.var 2) (.lit (.int 1000003))))) (.lit (.int 2147483629)))) (.seq (.ret (.blt .int (.cons (.cmp .eq (.bin .mod (.bin .fdiv (.var 8) (.lit (.int 32))) (.lit (.int 5))) (.lit (.int 0))) .nil))) .nop)) .nop) (.seq (.ife (.cmp .eq (.var 1) (.lit (.int 3))) (.seq (.set 8 (.bin .mul (.bin .add (.bin .add (.bin .mul (.var 5) (.var 5)) (.bin .mul (.lit (.int 17)) (.var 5))) (.lit (.int 69621))) (.bin .add (.lit (.int 1)) (.bin .mod (.var 2) (.lit (.int 1000003)))))) (.seq (.ret (.bin .mod (.bin .fdiv (.bin .mod (.var 8) (.lit (.int 2147483647))) (.lit (.int 16))) (.lit (.int 2)))) .nop)) .nop) (.seq (.ife (.cmp .eq (.var 1) (.lit (.int 4))) (.seq (.ret (.bin .mod (.bin .add (.blt .sum (.cons (.comp [4] (.ix (.var 0) (.var 4)) (.seq (.var 3)) .nil) .nil)) (.bin .fdiv (.var 2) (.lit (.int 64)))) (.lit (.int 2)))) .nop) .nop) (.seq (.set 8 (.bin .mul (.bin .add (.bin .mul (.var 6) (.var 6)) (.lit (.int 48271))) (.bin .add (.bin .add (.bin .mod (.var 2) (.lit (.int 1000003))) (.var 6)) (.lit (.int 1))))) (.seq (.ret (.bin .mod (.bin .fdiv (.bin .mod (.var 8) (.lit (.int 2147483647))) (.lit (.int 64))) (.lit (.int 2)))) .nop)))))))))
noncomputable def fL_bit:Fi:=⟨3,9,Wc,a4⟩
noncomputable def Qw:Sx:=(.seq (.set 3 (.bin .add (.lit (.int 1)) (.bin .mod (.call "_law_cell" (.cons (.var 0) (.cons (.var 1) .nil))) (.var 2)))) (.seq (.set 4 (.call "_law_words" (.cons (.call "_law_cell" (.cons (.var 0) (.cons (.bin .add (.var 1) (.lit (.int 1))) .nil))) (.cons (.var 3) .nil)))) (.seq (.set 5 (.bin .mod (.bin .fdiv (.call "_law_cell" (.cons (.var 0) (.cons (.var 1) .nil))) (.var 2)) (.lit (.int 5)))) (.seq (.set 6 (.lst .nil)) (.seq (.loop [7] (.range (.cons (.bin .shl (.lit (.int 1)) (.var 3)) .nil)) (.seq (.set 8 (.comp [9] (.bin .mod (.bin .fdiv (.var 7) (.bin .shl (.lit (.int 1)) (.bin .sub (.bin .sub (.var 3) (.var 9)) (.lit (.int 1))))) (.lit (.int 2))) (.range (.cons (.var 3) .nil)) .nil)) (.seq (.app 6 (.call "_law_bit" (.cons (.var 8) (.cons (.var 5) (.cons (.call "_law_cell" (.cons (.var 0) (.cons (.bin .add (.var 1) (.lit (.int 2))) .nil))) .nil))))) .nop))) (.seq (.ret (.tup (.cons (.blt .tuple (.cons (.var 4) .nil)) (.cons (.blt .tuple (.cons (.var 6) .nil)) .nil)))) .nop))))))
noncomputable def fL_question:Fi:=⟨3,10,Qw,a4⟩
noncomputable def U6:Sx:=(.seq (.set 1 (.lst .nil)) (.seq (.ife (.isx 0 ["NoAsk"]) (.seq (.app 1 (.lit (.str "NoAsk"))) .nop) .nop) (.seq (.ife (.isx 0 ["NoPlace"]) (.seq (.app 1 (.lit (.str "NoPlace"))) .nop) .nop) (.seq (.ife (.isx 0 ["NoPlan","NoText"]) (.seq (.app 1 (.lit (.str "NoPlan or NoText"))) .nop) .nop) (.seq (.ife (.isx 0 ["NoWord"]) (.seq (.app 1 (.lit (.str "NoWord"))) .nop) .nop) (.seq (.ife (.isx 0 ["Twice"]) (.seq (.app 1 (.lit (.str "Twice"))) .nop) .nop) (.seq (.ife (.isx 0 ["Unlike"]) (.seq (.app 1 (.lit (.str "Unlike"))) .nop) .nop) (.seq (.ife (.isx 0 ["WrongAnswers"]) (.seq (.app 1 (.lit (.str "WrongAnswers"))) .nop) .nop) (.seq (.ife (.isx 0 ["WrongPrices"]) (.seq (.app 1 (.lit (.str "WrongPrices"))) .nop) .nop) (.seq (.ife (.isx 0 ["WrongWeights"]) (.seq (.app 1 (.lit (.str "WrongWeights"))) .nop) .nop) (.seq (.ife (.isx 0 ["WrongSize"]) (.seq (.app 1 (.lit (.str "WrongSize"))) .nop) .nop) (.seq (.ife (.not (.isx 0 ["ValueError"])) (.seq (.app 1 (.lit (.str "no ValueError"))) .nop) .nop) (.seq (.retV 1) .nop)))))))))))))
noncomputable def j0i:Fi:=⟨1,2,U6,a4⟩
noncomputable def Yn:Sx:=(.seq (.set 2 (.bin .mod (.bin .fdiv (.var 1) (.lit (.int 5))) (.blt .len (.cons (.var 0) .nil)))) (.seq (.ife (.cmp .eq (.bin .mod (.var 1) (.lit (.int 5))) (.lit (.int 0))) (.seq (.ret (.bin .add (.var 0) (.lst (.cons (.bin .add (.lit (.int 1)) (.bin .mod (.bin .fdiv (.var 1) (.lit (.int 5))) (.lit (.int 9)))) .nil)))) .nop) .nop) (.seq (.ife (.cmp .eq (.bin .mod (.var 1) (.lit (.int 5))) (.lit (.int 1))) (.seq (.ret (.bin .add (.sl (.var 0) .nil (.cons (.var 2) .nil)) (.sl (.var 0) (.cons (.bin .add (.var 2) (.lit (.int 1))) .nil) .nil))) .nop) .nop) (.seq (.ife (.cmp .eq (.bin .mod (.var 1) (.lit (.int 5))) (.lit (.int 2))) (.seq (.ret (.lst .nil)) .nop) .nop) (.seq (.set 3 (.bin .mod (.bin .fdiv (.var 1) (.lit (.int 64))) (.bin .pow (.lit (.int 10)) (.lit (.int 9))))) (.seq (.ret (.bin .add (.bin .add (.sl (.var 0) .nil (.cons (.var 2) .nil)) (.lst (.cons (.ix (.lst (.cons (.lit (.int 0)) (.cons (.bin .sub (.neg (.lit (.int 1))) (.var 3)) (.cons (.lit (.int 1000001)) (.cons (.bin .add (.lit (.int 1000001)) (.var 3)) .nil))))) (.bin .mod (.bin .fdiv (.var 1) (.lit (.int 32))) (.lit (.int 4)))) .nil))) (.sl (.var 0) (.cons (.bin .add (.var 2) (.lit (.int 1))) .nil) .nil))) .nop))))))
noncomputable def Wt:Fi:=⟨2,4,Yn,a4⟩
noncomputable def Jb:Sx:=(.seq (.set 5 (.lst .nil)) (.seq (.tryK (.seq (.ife (.cmp .eq (.var 4) (.lit (.int 0))) (.seq (.expr (.call "worst_table" (.cons (.var 0) (.cons (.var 3) .nil)))) .nop) (.seq (.ife (.cmp .eq (.var 4) (.lit (.int 1))) (.seq (.expr (.call "worst_plan" (.cons (.var 0) (.cons (.var 3) .nil)))) .nop) (.seq (.expr (.call "foe_answer" (.cons (.var 0) (.cons (.var 1) (.cons (.var 2) (.cons (.var 3) .nil)))))) .nop)) .nop)) .nop) 5 6) (.seq (.retV 5) .nop)))
noncomputable def qz:Fi:=⟨5,7,Jb,a4⟩
noncomputable def Y4:Sx:=(.seq (.set 2 (.ix (.var 0) (.bin .mod (.var 1) (.blt .len (.cons (.var 0) .nil))))) (.seq (.set 3 (.lst (.cons (.bin .add (.var 2) (.lit (.str "q"))) (.cons (.sl (.var 2) (.cons (.lit (.int 1)) .nil) .nil) (.cons (.sl (.var 2) .nil (.cons (.neg (.lit (.int 1))) .nil)) (.cons (.bin .add (.lit (.str "q")) (.var 2)) (.cons (.upr (.var 2)) (.cons (.lit (.str "")) (.cons (.lit (.str "a")) (.cons (.lit (.str "b")) (.cons (.lit (.str "c")) (.cons (.lit (.str "d")) (.cons (.lit (.str "e")) .nil))))))))))))) (.seq (.set 3 (.comp [4] (.var 4) (.seq (.var 3)) (.cons (.cmp .notin (.var 4) (.var 0)) .nil))) (.seq (.ret (.ix (.var 3) (.bin .mod (.bin .fdiv (.var 1) (.lit (.int 7))) (.blt .len (.cons (.var 3) .nil))))) .nop))))
noncomputable def Uy:Fi:=⟨2,5,Y4,a4⟩
noncomputable def j4f:Sx:=(.seq (.set 1 (.call "_law_question" (.cons (.var 0) (.cons (.lit (.int 0)) (.cons (.lit (.int 4)) .nil))))) (.seq (.set 2 (.blt .len (.cons (.ix (.var 1) (.lit (.int 0))) .nil))) (.seq (.set 3 (.call "_law_cell" (.cons (.var 0) (.cons (.lit (.int 3)) .nil)))) (.seq (.set 4 (.comp [5] (.bin .add (.lit (.int 1)) (.bin .mod (.bin .fdiv (.var 3) (.bin .add (.lit (.int 3)) (.var 5))) (.lit (.int 9)))) (.range (.cons (.var 2) .nil)) .nil)) (.seq (.keep 4) (.seq (.set 6 (.call "_law_spoiled" (.cons (.var 4) (.cons (.call "_law_cell" (.cons (.var 0) (.cons (.lit (.int 4)) .nil))) .nil)))) (.seq (.keep 6) (.seq (.set 7 (.bin .mod (.bin .fdiv (.var 3) (.lit (.int 7))) (.var 2))) (.seq (.set 8 (.blt .tuple (.cons (.comp [5] (.ix (.lst (.cons (.lit (.int 2)) (.cons (.bin .mod (.bin .fdiv (.var 3) (.lit (.int 64))) (.lit (.int 2))) .nil))) (.blt .int (.cons (.and (.cmp .eq (.var 5) (.var 7)) (.cmp .eq (.bin .mod (.var 3) (.lit (.int 2))) (.lit (.int 1)))) .nil))) (.range (.cons (.var 2) .nil)) .nil) .nil))) (.seq (.set 9 (.ix (.ix (.var 1) (.lit (.int 0))) (.var 7))) (.seq (.set 10 (.blt .list (.cons (.var 6) .nil))) (.seq (.keep 10) (.seq (.loop [11] (.range (.cons (.lit (.int 3)) .nil)) (.seq (.ife (.or (.cmp .ne (.call "_law_refused" (.cons (.var 1) (.cons (.var 8) (.cons (.var 9) (.cons (.var 10) (.cons (.var 11) .nil)))))) (.lst (.cons (.lit (.str "WrongPrices")) .nil))) (.cmp .ne (.var 10) (.var 6))) (.seq (.ret (.lit (.bl a4))) .nop) .nop) .nop)) (.seq (.set 12 (.call "_law_stranger" (.cons (.blt .list (.cons (.ix (.var 1) (.lit (.int 0))) .nil)) (.cons (.call "_law_cell" (.cons (.var 0) (.cons (.lit (.int 5)) .nil))) .nil)))) (.seq (.loop [13] (.seq (.lst (.cons (.var 6) (.cons (.var 4) (.cons (.lit (.non)) .nil))))) (.seq (.ife (.cmp .ne (.call "_law_refused" (.cons (.var 1) (.cons (.var 8) (.cons (.var 12) (.cons (.var 13) (.cons (.lit (.int 2)) .nil)))))) (.lst (.cons (.lit (.str "NoPlace")) .nil))) (.seq (.ret (.lit (.bl a4))) .nop) .nop) .nop)) (.seq (.set 14 (.ix (.lst (.cons (.lst .nil) (.cons (.lst (.cons (.lit (.str "NoAsk")) .nil)) .nil))) (.bin .mod (.var 3) (.lit (.int 2))))) (.seq (.ife (.or (.cmp .ne (.call "_law_refused" (.cons (.var 1) (.cons (.var 8) (.cons (.var 9) (.cons (.var 4) (.cons (.lit (.int 2)) .nil)))))) (.var 14)) (.cmp .ne (.call "_law_refused" (.cons (.var 1) (.cons (.var 8) (.cons (.var 9) (.cons (.lit (.non)) (.cons (.lit (.int 2)) .nil)))))) (.var 14))) (.seq (.ret (.lit (.bl a4))) .nop) .nop) (.seq (.ret (.and (.cmp .eq (.call "_law_refused" (.cons (.var 1) (.cons (.var 8) (.cons (.var 9) (.cons (.var 4) (.cons (.lit (.int 0)) .nil)))))) (.lst .nil)) (.cmp .eq (.call "_law_refused" (.cons (.var 1) (.cons (.var 8) (.cons (.var 9) (.cons (.var 4) (.cons (.lit (.int 1)) .nil)))))) (.lst .nil)))) .nop))))))))))))))))))
noncomputable def j41:Fi:=⟨1,15,j4f,a4⟩
noncomputable def Ja:Ex:=(.bin .add (.ix (.var 0) (.var 3)) (.blt .max (.cons (.call "numbers_behind" (.cons (.var 1) (.cons (.var 2) (.cons (.var 3) .nil)))) .nil)))
noncomputable def Qh:Fi:=⟨4,4,.ret Ja,a7⟩
noncomputable def Qk:Ex:=(.ix (.call "cheapest_ask" (.cons (.var 1) (.cons (.var 2) (.cons (.var 0) .nil)))) (.lit (.int 0)))
noncomputable def Zu:Fi:=⟨3,3,.ret Qk,a7⟩
noncomputable def tbl:List (af×Fi):=("row_number",Yb)::("rows_in",fP_rows_in)::("parts_in",Uw)::("told_further",Jq)::("all_choices",fP_all_choices)::("number_of",Yx)::("answer_to",Yy)::("settled_by",Y9)::("counted_in",Yd)::("all_open",Ux)::("spot_of",V6)::("telling",Ws)::("asking",M8)::("prices_told",v9)::("all_between",Vn)::("worst_table",Q6)::("worst_plan",Qo)::("foe_answer",zf)::("worst_cost_of_ask",zr)::("least_table",Vm)::("least_plan",Yc)::("least_numbers",Zv)::("numbers_within",Ze)::("least_plan_at",Jh)::("cheapest_ask",V7)::("numbers_behind",J6)::("_law_cell",fL_cell)::("_law_words",fL_words)::("_law_bit",fL_bit)::("_law_question",fL_question)::("_law_kinds",j0i)::("_law_spoiled",Wt)::("_law_refused",qz)::("_law_stranger",Uy)::("law",j41)::("worst_cost_of_ask.<locals>.<lambda>",Qh)::("least_numbers.<locals>.<lambda>",Zu)::[]
noncomputable def T(x:af):Option Fi:=tbl.lookup x
noncomputable def gs:List (af×D):=[("ANSWERS",.tup [.int 0,.int 1]),("NOT_TOLD",.int 2),("TELLINGS",.tup [.int 0,.int 1,.int 2]),("LEAST_PRICE",.int 1),("GREATEST_NUMBER",.int 1000000)]
noncomputable def xs:List (af×List D):=[("WrongSize",[.str "WrongSize"]),("NoAsk",[.str "NoAsk"]),("NoWord",[.str "NoWord"]),("Twice",[.str "Twice"]),("WrongAnswers",[.str "WrongAnswers"]),("Unlike",[.str "Unlike"]),("NoPlace",[.str "NoPlace"]),("NoText",[.str "NoPlan or NoText"]),("WrongPrices",[.str "WrongPrices"]),("WrongWeights",[.str "WrongWeights"]),("NoPlan",[.str "NoPlan or NoText"])]
noncomputable def qs:List af:=["least_table","least_plan","least_numbers"]
noncomputable abbrev G:af->Option D:=Gof gs a7 xs qs
end K27
end
section
open PySem PySem.Spec PyProof.Rows L2
local macro_rules | `(tactic| walk_at "vis")=>`(tactic| first | exact Or.inl rfl | exact Or.inr (Or.inl rfl) | exact Or.inr (Or.inr rfl))
local macro_rules | `(tactic| walk_at "loc")=>`(tactic| first | exact Or.inl rfl | exact Or.inr rfl)
local macro_rules | `(tactic| walk_at "cap")=>`(tactic| repeat (first | exact rfl | refine ⟨_,_,rfl,by rfl,by rfl,by rfl,by rfl,?_⟩))
local macro_rules | `(tactic| walk_at "ts")=>`(tactic| first
 |exact Tr.int|exact Tr.bl|exact Tr.non|exact Tr.str
 |exact Tr.var (by rfl) (by walk_at "vis") (by decide) (by decide)|exact Tr.glob (by rfl) (by decide) (by decide)
 |refine Tr.bin ?_ ?_|refine Tr.neg ?_|refine Tr.cmp (by rfl) ?_ ?_|refine Tr.bcmp (by rfl) ?_ ?_|refine Tr.isN ?_|refine Tr.bisN ?_|refine Tr.isNN ?_|refine Tr.bisNN ?_
 |refine Tr.and ?_ ?_|refine Tr.or ?_ ?_|refine Tr.one ?_|refine Tr.not ?_
 |refine Tr.wand ?_ ?_|refine Tr.wor ?_ ?_|refine Tr.wand1 ?_|refine Tr.wor1 ?_|refine Tr.bw ?_|refine Tr.bnot ?_
 |refine Tr.ite ?_ ?_ ?_|exact Tr.nil|refine Tr.cons (by rfl) ?_ ?_|refine Tr.tup ?_|refine Tr.lst ?_
 |refine Tr.ix (by intro _ _;rfl) ?_ ?_|exact Tr.oN|refine Tr.oS ?_|refine Tr.sl ?_ ?_ ?_
 |refine Tr.max (by rfl) (by rfl) ?_|refine Tr.max1 (by rfl) (by rfl) ?_
 |refine Tr.call (by rfl) (by decide) (by rfl) (by rfl) ?_
 |refine Tr.callV (by rfl) (by walk_at "vis") (by decide) (by decide) (by rfl) (by rfl) ?_|refine Tr.dget (by intro _ _;rfl) ?_ ?_|refine Tr.dvals (by rfl) (by rfl) (by rfl) (by rfl) (by rfl) ?_|refine Tr.minT (by rfl) (by rfl) (by rfl) ?_
 |refine Tr.tix (by rfl) (by rfl) (by rfl) (by rfl) ?_ ?_|refine Tr.upr (by rfl) (by rfl) ?_|refine Tr.len (by rfl) ?_|refine Tr.all (by rfl) (by rfl) ?_|refine Tr.tuple (by rfl) ?_|refine Tr.list (by rfl) ?_
 |refine Tr.sum (by rfl) (by rfl) ?_|refine Tr.intc (by rfl) ?_|refine Tr.join (by rfl) (by rfl) (by rfl) (by rfl) ?_|refine Tr.enum (by rfl) (by rfl) ?_
 |refine Tr.count (by rfl) (by rfl) (by rfl) ?_ ?_
 |refine Tr.isi1 (by decide) (by decide +kernel) (by rfl) (by rfl) (by decide) (by decide) (by rfl) ?_
 |refine Tr.isi2 (by decide) (by decide) (by decide +kernel) (by decide +kernel) (by rfl) (by rfl) (by rfl) (by decide) (by decide) (by decide) (by decide) (by rfl) ?_
 |exact Tr.c0|refine Tr.c1 ?_
 |refine Tr.exc (by rfl) (by rfl) (by rfl) (by rfl) (by rfl) (by intro _;rfl) ?_ ?_
 |refine Tr.comp1 (by rfl) (by rfl) (by rfl) (by rfl) (by rfl) (by intro _;rfl) ?_ ?_ ?_
 |refine Tr.comp2 (by rfl) (by decide) (by rfl) (by rfl) (by rfl) (by rfl) (by rfl) (by rfl) (by intro _;rfl) ?_ ?_ ?_
 |refine Tr.seq ?_|refine Tr.range (by rfl) ?_
 |exact Tr.p0|refine Tr.pC ?_|refine Tr.pR ?_ ?_|refine Tr.pF (by rfl) ?_ ?_|refine Tr.fst ?_
 |exact Tr.isxV (by rfl) (by walk_at "vis") (by decide) (by decide) (by rfl) (by rfl) (by rfl)
 |exact Tr.isx1 (by decide) (by decide) (by rfl) (by walk_at "vis") (by decide) (by decide) (by rfl) (by rfl) (by decide) (by rfl)
 |exact Tr.isx2 (by decide) (by decide) (by decide) (by decide) (by rfl) (by walk_at "vis") (by decide) (by decide) (by rfl) (by rfl) (by rfl) (by decide) (by decide) (by rfl)
 |refine Tr.bval (by intro _;rfl) ?_
 |refine Ts.nmake (by rfl) (by rfl) (by rfl) (by rfl) (by walk_at "loc") (by walk_at "loc") (by walk_at "loc") (by exact aX rfl) (by exact aX rfl) (by exact aX rfl) (by decide) (by decide) (by decide) (by decide) (by rfl) (by rfl) (by rfl) (by intro _;rfl) ?_ ?_ ?_
 |exact Ts.retL (by decide) (by rfl) (by rfl) (by rfl) (Eq.trans (by assumption) rfl) (by rfl) (by decide +kernel) (by walk_at "cap")
 |refine Ts.retC (by decide) (by rfl) (by rfl) (by rfl) (Eq.trans (by assumption) rfl) (by rfl) (by decide +kernel) (by walk_at "cap") (by rfl) (by decide) (by rfl) (by rfl) (by rfl) (by rfl) ?_ ?_
 |refine' Ts.lend (by rfl) (by decide) (by rfl) (by rfl) (by walk_at "loc") (by walk_at "loc") (by exact aX rfl) (by exact aX rfl) (by intro _;rfl) (by rfl) (by rfl) (by rfl) (by walk_at "vis") (by decide) (by decide) (by rfl) (by rfl) ?_ ?_|refine' Ts.lent (by rfl) (by walk_at "loc") (by walk_at "vis") (by exact aX rfl) (by decide) (by decide) (by rfl) (by rfl) (by rfl) ?_ ?_ ?_ ?_ ?_|refine TMt.set (by rfl) (by walk_at "loc") (by rfl) (by exact aX rfl) ?_ ?_|refine TMt.ife ?_ ?_ ?_ ?_|exact TMt.nil|exact TMs.nil|exact TMs.fail|refine TMs.set (by rfl) (by walk_at "loc") (by rfl) (by exact aX rfl) ?_ ?_|refine TMs.ife ?_ ?_ ?_ ?_|exact⟨rfl,rfl,rfl,λ_ _=>rfl⟩
 |exact Ts.nil|refine Ts.fgt ?_|refine Ts.keep ?_|refine Ts.cons ?_ ?_|exact Ts.pass|exact Ts.doc|exact Ts.fail
 |exact Ts.mov (by rfl) (by rfl) (by walk_at "loc") (by exact aX rfl) (by walk_at "vis") (by decide) (by decide)
 |refine Ts.setC1 (by rfl) (by rfl) (by walk_at "loc") (by exact aX rfl) (by rfl) (by rfl) (by rfl) (by rfl) (by rfl) (by intro _;rfl) ?_ ?_ ?_
 |refine Ts.setC2 (by rfl) (by rfl) (by walk_at "loc") (by exact aX rfl) (by rfl) (by decide) (by rfl) (by rfl) (by rfl) (by rfl) (by rfl) (by rfl) (by intro _;rfl) ?_ ?_ ?_
 |refine Ts.set (by rfl) (by walk_at "loc") (by rfl) (by exact aX rfl) ?_
 |exact Ts.retV (by rfl) (by walk_at "vis") (by decide) (by decide)|refine Ts.ret ?_
 |refine Ts.ife ?_ ?_ ?_|refine Ts.for1 (by rfl) (by rfl) (by walk_at "loc") (by exact aX rfl) (by intro _;rfl) ?_ ?_
 |refine Ts.app (by rfl) (by walk_at "vis") (by decide) (by decide) (by rfl) (by rfl) (by rfl) (by rfl) ?_
 |refine Ts.ext (by rfl) (by walk_at "vis") (by decide) (by decide) (by rfl) (by rfl) (by rfl) (by rfl) ?_
 |refine Ts.raise (by rfl) (by rfl) (by decide) (by rfl) ?_
 |refine Ts.tryK (by rfl) (by rfl) (by rfl) (by rfl) (by rfl) (by rfl) (by rfl) (by decide) (by decide) (by rfl) (by walk_at "loc") (by exact aX rfl) (by exact aX rfl) (by rfl) (by rfl) (by rfl) ?_
 |refine Ts.expr (by rfl) ?_
 |exact MP.nop|refine MP.keep (by decide) ?_
 |refine MP.setC (by decide) (by rfl) (by rfl) (by walk_at "loc") (by exact aX rfl) (by rfl) (by rfl) (by rfl) (by rfl) (by rfl) (by intro _;rfl) ?_ ?_ ?_ ?_
 |refine MP.set (by decide) (by rfl) (by walk_at "loc") (by rfl) (by exact aX rfl) ?_ ?_
 |refine MP.ret ?_|refine MP.ifRet ?_ ?_ ?_
 |refine MP.ifAll (by rfl) (by rfl) (by decide) (by rfl) (by rfl) (by walk_at "vis") (by decide) (by decide) (by exact⟨_,rfl⟩) (by intro _;rfl) ?_ ?_
 |refine MP.ifRai (by rfl) (by rfl) (by decide) (by rfl) ?_ ?_ ?_
 |refine MP.takeIf (by decide) (by rfl) (by walk_at "vis") (by decide) (by decide) (by exact⟨_,rfl⟩) (by rfl) (by walk_at "loc") (by rfl) (by exact aX rfl) ?_ ?_ ?_
 |refine MP.take (by decide) (by rfl) (by walk_at "vis") (by decide) (by decide) (by exact⟨_,rfl⟩) (by rfl) (by walk_at "loc") (by rfl) (by exact aX rfl) ?_
 |refine MP.takeE (by rfl) (by walk_at "vis") (by decide) (by decide) (by exact⟨_,rfl⟩) (by rfl) ?_
 |refine MP.callS (by decide) (by exact⟨_,_,_,_,rfl,by rfl,by walk_at "vis",by decide,by decide,by rfl,by decide,by rfl,by rfl⟩) (by rfl) (by walk_at "loc") (by rfl) (by exact aX rfl) ?_ ?_
 |refine MP.ifCal (by exact⟨_,_,_,_,rfl,by rfl,by walk_at "vis",by decide,by decide,by rfl,by decide,by rfl,by rfl⟩) ?_ ?_ ?_
 |refine MP.appC (by decide) (by exact⟨_,_,_,_,rfl,by rfl,by walk_at "vis",by decide,by decide,by rfl,by decide,by rfl,by rfl⟩) (by rfl) (by walk_at "vis") (by decide) (by decide) (by rfl) (by rfl) (by rfl) (by rfl) (by rfl) ?_ ?_
 |refine MP.whlA (by rfl) (by walk_at "vis") (by decide) (by decide) (by exact⟨_,rfl⟩) ?_ ?_
 |intro C s H fp pn xe
 |intro C s H fp pn
 |intro pn xe)
local macro_rules | `(tactic| walk_at "bnd")=>`(tactic| (intro _ _ _ _ _ _ us hl; first | (obtain ⟨_,e⟩:=us1 hl; subst e; rfl) | (obtain ⟨_,_,e⟩:=us2 hl; subst e; rfl) | (obtain ⟨_,_,_,e⟩:=us3 hl; subst e; rfl) | (obtain ⟨_,_,_,_,e⟩:=us4 hl; subst e; rfl) | (obtain ⟨_,_,_,_,_,e⟩:=us5 hl; subst e; rfl)))
local macro_rules | `(tactic| walk_at "bnk")=>`(tactic| (intro _ _ _ _ _ _ _ _ _ _ hK td; refine ⟨fun us hl=>?_,fun us hl=>?_,fun us v hl=>?_⟩; (first | (obtain ⟨_,e⟩:=us1 hl; subst e; exact PySem.W.binds_K hK rfl td rfl rfl rfl) | (obtain ⟨_,_,e⟩:=us2 hl; subst e; exact PySem.W.binds_K hK rfl td rfl rfl rfl) | (obtain ⟨_,_,_,e⟩:=us3 hl; subst e; exact PySem.W.binds_K hK rfl td rfl rfl rfl) | (obtain ⟨_,_,_,_,e⟩:=us4 hl; subst e; exact PySem.W.binds_K hK rfl td rfl rfl rfl)); (first | (obtain ⟨_,e⟩:=us1 (Nat.succ.inj hl); subst e; exact PySem.W.binds_K hK rfl td rfl rfl rfl) | (obtain ⟨_,_,e⟩:=us2 (Nat.succ.inj hl); subst e; exact PySem.W.binds_K hK rfl td rfl rfl rfl) | (obtain ⟨_,_,_,e⟩:=us3 (Nat.succ.inj hl); subst e; exact PySem.W.binds_K hK rfl td rfl rfl rfl) | (obtain ⟨_,_,_,_,e⟩:=us4 (Nat.succ.inj hl); subst e; exact PySem.W.binds_K hK rfl td rfl rfl rfl)); (first | (obtain ⟨_,e⟩:=us1 (Nat.succ.inj hl); subst e; exact PySem.W.binds_K hK rfl td rfl rfl rfl) | (obtain ⟨_,_,e⟩:=us2 (Nat.succ.inj hl); subst e; exact PySem.W.binds_K hK rfl td rfl rfl rfl) | (obtain ⟨_,_,_,e⟩:=us3 (Nat.succ.inj hl); subst e; exact PySem.W.binds_K hK rfl td rfl rfl rfl) | (obtain ⟨_,_,_,_,e⟩:=us4 (Nat.succ.inj hl); subst e; exact PySem.W.binds_K hK rfl td rfl rfl rfl))))
local macro_rules | `(tactic| walk_at "sc")=>`(tactic| exact ⟨rfl,rfl,rfl,by decide +kernel,rfl,by decide +kernel,by decide +kernel⟩)
local macro_rules | `(tactic| walk_at "lk")=>`(tactic| first | walk_at "sc" | walk_at "bnd" | decide)
local macro_rules | `(tactic| walk_at "scl")=>`(tactic| exact ⟨rfl,rfl,rfl,by decide +kernel,rfl,by decide +kernel,by decide +kernel,by decide +kernel,jcr⟩)
local macro_rules | `(tactic| walk_at "bndl")=>`(tactic| (intro _ _ _ _ us hl; first | (obtain ⟨_,_,e⟩:=us2 hl; subst e; rfl) | (obtain ⟨_,_,_,e⟩:=us3 hl; subst e; rfl)))
namespace K27
section
variable{P:au}{w:aA}{K:k8y}{mg:k91}{base:aD}
theorem De:TrT P w K mg base "row_number" ["row"] (top 17) Zo:=by
 intro f cdv A outer s H E xe;unfold Zo
 repeat' (walk_at "ts")
theorem j14:TrT P w K mg base "rows_in" ["part","told"] (top 18) Za:=by
 intro f cdv A outer s H E xe;unfold Za
 repeat' (walk_at "ts")
theorem Il:TrT P w K mg base "parts_in" ["part","told"] (top 19) Vz:=by
 intro f cdv A outer s H E xe;unfold Vz
 repeat' (walk_at "ts")
theorem Oq:TrT P w K mg base "told_further" ["part","spot","answer"] (top 20) Js:=by
 intro f cdv A outer s H E xe;unfold Js
 repeat' (walk_at "ts")
theorem Bx:TrT P w K mg base "all_choices" ["figures_by_spot","chosen","figures","longer","ahead","figure"] (top 21) Je:=by
 intro f cdv A outer s H E xe;unfold Je
 repeat' (walk_at "ts")
theorem Kf:TrT P w K mg base "number_of" ["figures","base","number","figure"] (top 22) Vd:=by
 intro f cdv A outer s H E xe;unfold Vd
 repeat' (walk_at "ts")
theorem Kg:TrT P w K mg base "answer_to" ["question","row"] (top 24) Ve:=by
 intro f cdv A outer s H E xe;unfold Ve
 repeat' (walk_at "ts")
theorem Dc:TrT P w K mg base "settled_by" ["question","part","counted"] (top 25) Zn:=by
 intro f cdv A outer s H E xe;unfold Zn
 repeat' (walk_at "ts")
theorem Dh:TrT P w K mg base "counted_in" ["question","part","answers","row"] (top 26) Zr:=by
 intro f cdv A outer s H E xe;unfold Zr
 repeat' (walk_at "ts")
theorem Im:TrT P w K mg base "all_open" ["question"] (top 27) Y0:=by
 intro f cdv A outer s H E xe;unfold Y0
 repeat' (walk_at "ts")
theorem j13:TrT P w K mg base "spot_of" ["question","place"] (top 28) Vc:=by
 intro f cdv A outer s H E xe;unfold Vc
 repeat' (walk_at "ts")
theorem j12:TrT P w K mg base "telling" ["answer"] (top 32) Ym:=by
 intro f cdv A outer s H E xe;unfold Ym
 repeat' (walk_at "ts")
theorem j36:TrT P w K mg base "asking" ["place","if_no","if_yes"] (top 33) Uq:=by
 intro f cdv A outer s H E xe;unfold Uq
 repeat' (walk_at "ts")
theorem Bv:TrT P w K mg base "prices_told" ["many","prices"] (top 34) Jd:=by
 intro f cdv A outer s H E xe;unfold Jd
 repeat' (walk_at "ts")
theorem By:TrT P w K mg base "all_between" ["numbers","least","number"] (top 35) Zc:=by
 intro f cdv A outer s H E xe;unfold Zc
 repeat' (walk_at "ts")
theorem Bu:TrT P w K mg base "worst_table" ["question","prices"] (top 37) Q8:=by
 intro f cdv A outer s H E xe;unfold Q8
 repeat' (walk_at "ts")
theorem Fy:TrT P w K mg base "worst_plan" ["question","prices"] (top 38) Qp:=by
 intro f cdv A outer s H E xe;unfold Qp
 repeat' (walk_at "ts")
theorem Dg:TrT P w K mg base "foe_answer" ["question","part","place","prices","spot","numbers","behind"] (top 39) J0:=by
 intro f cdv A outer s H E xe;unfold J0
 repeat' (walk_at "ts")
theorem W3 (hl:Z7 K "worst_cost_of_ask" = Bj (jd (top 40))):TrT P w K mg base "worst_cost_of_ask" ["question","prices","price_at"] (top 40) zx:=by
 intro f cdv A outer s H E xe;unfold zx
 repeat' (walk_at "ts")
theorem Bw:TrT P w K mg base "least_table" ["question","cost_of_ask"] (top 41) Zb:=by
 intro f cdv A outer s H E xe;unfold Zb
 repeat' (walk_at "ts")
theorem Df:TrT P w K mg base "least_plan" ["question","cost_of_ask","part"] (top 42) Zq:=by
 intro f cdv A outer s H E xe;unfold Zq
 repeat' (walk_at "ts")
theorem Oa (hl:Z7 K "least_numbers" = Bj (jd (top 43))):TrT P w K mg base "least_numbers" ["whole_part","question","cost_of_ask"] (top 43) Ql:=by
 intro f cdv A outer s H E xe;unfold Ql
 repeat' (walk_at "ts")
theorem Ro:TrT P w K mg base "numbers_within" ["whole_part","question","number_unsettled","numbers","part","settled"] (top 44) Jy:=by
 intro f cdv A outer s H E xe;unfold Jy
 repeat' (walk_at "ts")
theorem O9:TrT P w K mg base "least_plan_at" ["part","question","cost_of_ask","numbers","settled","spot","if_no","if_yes"] (top 45) Ji:=by
 intro f cdv A outer s H E xe;unfold Ji
 repeat' (walk_at "ts")
theorem Ot:TrT P w K mg base "cheapest_ask" ["numbers","part","cost_of_ask","spot","told"] (top 46) Qy:=by
 intro f cdv A outer s H E xe;unfold Qy
 repeat' (walk_at "ts")
theorem Rp:TrT P w K mg base "numbers_behind" ["numbers","part","spot","answer"] (top 47) J8:=by
 intro f cdv A outer s H E xe;unfold J8
 repeat' (walk_at "ts")
theorem j7s:TrT P w K mg base "_law_cell" ["_law_script","_law_k","_law_spare"] (top 49) Yr:=by
 intro f cdv A outer s H E xe;unfold Yr
 repeat' (walk_at "ts")
theorem j4x:TrT P w K mg base "_law_words" ["_law_cell_here","_law_many","_law_letters","_law_long","_law_k","_law_start","_law_size","_law_stem","_law_at"] (top 50) Zw:=by
 intro f cdv A outer s H E xe;unfold Zw
 repeat' (walk_at "ts")
theorem jbf:TrT P w K mg base "_law_bit" ["_law_row","_law_kind","_law_cell_here","_law_some","_law_k","_law_kept","_law_by_row","_law_one","_law_mixed"] (top 51) Wc:=by
 intro f cdv A outer s H E xe;unfold Wc
 repeat' (walk_at "ts")
theorem Ip:TrT P w K mg base "_law_question" ["_law_script","_law_at","_law_most","_law_many","_law_places","_law_kind","_law_answers","_law_number","_law_row","_law_k"] (top 52) Qw:=by
 intro f cdv A outer s H E xe;unfold Qw
 repeat' (walk_at "ts")
theorem j4y:TrT P w K mg base "_law_kinds" ["_law_e","_law_some"] (top 54) U6:=by
 intro f cdv A outer s H E xe;unfold U6
 repeat' (walk_at "ts")
theorem j4z:TrH P w K mg base "_law_kinds" ["_law_e","_law_some"] (top 54) U6:=by
 intro f cdv A outer s H;unfold U6
 repeat' (walk_at "ts")
theorem j15:TrT P w K mg base "_law_spoiled" ["_law_prices","_law_cell_here","_law_at","_law_far"] (top 55) Yn:=by
 intro f cdv A outer s H E xe;unfold Yn
 repeat' (walk_at "ts")
theorem j16:TrT P w K mg base "_law_refused" ["_law_question_here","_law_part","_law_place","_law_prices","_law_way","_law_kinds_here","_law_e"] (top 56) Jb:=by
 intro f cdv A outer s H E xe;unfold Jb
 repeat' (walk_at "ts")
theorem Io:TrT P w K mg base "_law_stranger" ["_law_places","_law_cell_here","_law_one","_law_some","_law_text"] (top 57) Y4:=by
 intro f cdv A outer s H E xe;unfold Y4
 repeat' (walk_at "ts")
theorem jae:TrT P w K mg base "law" ["_law_script","_law_question_here","_law_many","_law_cell_here","_law_good","_law_k","_law_bad","_law_spot","_law_part","_law_place","_law_handed","_law_way","_law_strange","_law_prices","_law_due"] (top 58) j4f:=by
 intro f cdv A outer s H E xe;unfold j4f
 repeat' (walk_at "ts")
theorem W4:TrL P w K mg base "worst_cost_of_ask" ["price_at","numbers","part","spot"] (lamT (top 40)) Ja:=by
 intro a c cl A outer s H;unfold Ja
 repeat' (walk_at "ts")
theorem Oc:TrL P w K mg base "least_numbers" ["cost_of_ask","numbers","part"] (lamT (top 43)) Qk:=by
 intro a c cl A outer s H;unfold Qk
 repeat' (walk_at "ts")
end
set_option maxHeartbeats 0 in
theorem head {l:dF} {w:aA} {K:k8y} {h:aD} {mg:k91} {fa:aa} (X:K.In h) (Gn:h.Ns ak mg) (hfa:mg "law" = a3 (.ref fa))
  (h0:Lf K "row_number" (top 17))
  (h1:Lf K "rows_in" (top 18))
  (h2:Lf K "parts_in" (top 19))
  (h3:Lf K "told_further" (top 20))
  (h4:Lf K "all_choices" (top 21))
  (h5:Lf K "number_of" (top 22))
  (h6:Lf K "answer_to" (top 24))
  (h7:Lf K "settled_by" (top 25))
  (h8:Lf K "counted_in" (top 26))
  (h9:Lf K "all_open" (top 27))
  (h10:Lf K "spot_of" (top 28))
  (h11:Lf K "telling" (top 32))
  (h12:Lf K "asking" (top 33))
  (h13:Lf K "prices_told" (top 34))
  (h14:Lf K "all_between" (top 35))
  (h15:Lfd K "worst_table" (top 37))
  (h16:Lfd K "worst_plan" (top 38))
  (h17:Lfd K "foe_answer" (top 39))
  (h18:Lf K "worst_cost_of_ask" (top 40))
  (h19:Lf K "least_table" (top 41))
  (h20:Lf K "least_plan" (top 42))
  (h21:Lf K "least_numbers" (top 43))
  (h22:Lf K "numbers_within" (top 44))
  (h23:Lf K "least_plan_at" (top 45))
  (h24:Lf K "cheapest_ask" (top 46))
  (h25:Lf K "numbers_behind" (top 47))
  (h26:Lf K "_law_cell" (top 49))
  (h27:Lf K "_law_words" (top 50))
  (h28:Lf K "_law_bit" (top 51))
  (h29:Lf K "_law_question" (top 52))
  (h30:Lf K "_law_kinds" (top 54))
  (h31:Lf K "_law_spoiled" (top 55))
  (h32:Lf K "_law_refused" (top 56))
  (h33:Lf K "_law_stranger" (top 57))
  (h34:Lf K "law" (top 58))
  (bz:bOk K=a7) {ts:List aa} (tz:tOk K ts=a7)
  {gt1:iq} {gt2:iq} {ga0:aa} {ga0n:Nat} {ga0s:Array (Option a8)} {gt3:iq} {gt5:iq} {gt6:iq} {gt7:iq} {ga4:aa} {ga4n:Nat} {ga4s:Array (Option a8)} {gt8:iq} {gt9:iq}
  (ga0l:K.lookup ga0=a3 ⟨.type "tuple",a5,.seq #[.int 0 gt1,.int 1 gt2] ga0n,ga0s⟩) (gn0:dz K ak "ANSWERS" = a3 (a3 (.ref ga0))) (gn1:dz K ak "NOT_TOLD" = a3 (a3 (.int 2 gt3))) (ga4l:K.lookup ga4=a3 ⟨.type "tuple",a5,.seq #[.int 0 gt5,.int 1 gt6,.int 2 gt7] ga4n,ga4s⟩) (gn2:dz K ak "TELLINGS" = a3 (a3 (.ref ga4))) (gn3:dz K ak "LEAST_PRICE" = a3 (a3 (.int 1 gt8))) (gn4:dz K ak "GREATEST_NUMBER" = a3 (a3 (.int 1000000 gt9)))
  (exa:Z8 K=a7)
  (xz:xOk K=a7)
  {fu n:Nat} (hlaw:∀ns:List Int,ns.length<=63->evP fu G T (n+1) "law" [.lst (ns.map D.int)]=.val (.bl a7)) :
  ∃fd:aG,(∀(s:ae)(v:a8),dD s fd ⟨[v],[]⟩ [("_law_script",v)])/\∀base:aD,K.In base->base.Ns ak mg->FnOk l.prog w K mg base CX0 (lv (n+1)) fa fd ["_law_script"] (Ku K):=by
 have hL:=h34;obtain⟨f,oc,od,kV,dc,pm,an,cd,ct,sl,a,lk,c,k⟩:=hL;have e:=hfa.symm.trans (cK X Gn a);cases e;refine⟨PySem.W.fnOf "law" "law" (qg (top 58)) (jd (top 58)) (j0 (top 58)) .none kV dc pm an cd ct,λs v=>.of_eq rfl,λbase hKb hNb=>?_⟩;have hT:∀x F,T x=a3 F->LkF l.prog w K mg base x F:=λx F hx=>by
  have all:∀p∈tbl,LkF l.prog w K mg base p.1 p.2:=by
   intro p hp;simp only[tbl,xm,T4,or_false]at hp;rcases hp with rfl|rfl|rfl|rfl|rfl|rfl|rfl|rfl|rfl|rfl|rfl|rfl|rfl|rfl|rfl|rfl|rfl|rfl|rfl|rfl|rfl|rfl|rfl|rfl|rfl|rfl|rfl|rfl|rfl|rfl|rfl|rfl|rfl|rfl|rfl|rfl|rfl
   .refine lkF (q9 h0 X Gn De ["row"] ?_ rfl rfl ?_ ?_) rfl ?_ ?_<;>walk_at "lk"
   .refine lkF (q9 h1 X Gn j14 ["part"] ?_ rfl rfl ?_ ?_) rfl ?_ ?_<;>walk_at "lk"
   .refine lkF (q9 h2 X Gn Il ["part"] ?_ rfl rfl ?_ ?_) rfl ?_ ?_<;>walk_at "lk"
   .refine lkF (q9 h3 X Gn Oq ["part","spot","answer"] ?_ rfl rfl ?_ ?_) rfl ?_ ?_<;>walk_at "lk"
   .refine lkF (q9 h4 X Gn Bx ["figures_by_spot"] ?_ rfl rfl ?_ ?_) rfl ?_ ?_<;>walk_at "lk"
   .refine lkF (q9 h5 X Gn Kf ["figures","base"] ?_ rfl rfl ?_ ?_) rfl ?_ ?_<;>walk_at "lk"
   .refine lkF (q9 h6 X Gn Kg ["question","row"] ?_ rfl rfl ?_ ?_) rfl ?_ ?_<;>walk_at "lk"
   .refine lkF (q9 h7 X Gn Dc ["question","part"] ?_ rfl rfl ?_ ?_) rfl ?_ ?_<;>walk_at "lk"
   .refine lkF (q9 h8 X Gn Dh ["question","part"] ?_ rfl rfl ?_ ?_) rfl ?_ ?_<;>walk_at "lk"
   .refine lkF (q9 h9 X Gn Im ["question"] ?_ rfl rfl ?_ ?_) rfl ?_ ?_<;>walk_at "lk"
   .refine lkF (q9 h10 X Gn j13 ["question","place"] ?_ rfl rfl ?_ ?_) rfl ?_ ?_<;>walk_at "lk"
   .refine lkF (q9 h11 X Gn j12 ["answer"] ?_ rfl rfl ?_ ?_) rfl ?_ ?_<;>walk_at "lk"
   .refine lkF (q9 h12 X Gn j36 ["place","if_no","if_yes"] ?_ rfl rfl ?_ ?_) rfl ?_ ?_<;>walk_at "lk"
   .refine lkF (q9 h13 X Gn Bv ["many","prices"] ?_ rfl rfl ?_ ?_) rfl ?_ ?_<;>walk_at "lk"
   .refine lkF (q9 h14 X Gn By ["numbers","least"] ?_ rfl rfl ?_ ?_) rfl ?_ ?_<;>walk_at "lk"
   .exact lkF (j06 h15 X Gn Bu ["question","prices"] (by walk_at "sc") rfl rfl (by decide) (by walk_at "bnk")) rfl (by decide) (by decide)
   .exact lkF (j06 h16 X Gn Fy ["question","prices"] (by walk_at "sc") rfl rfl (by decide) (by walk_at "bnk")) rfl (by decide) (by decide)
   .exact lkF (j06 h17 X Gn Dg ["question","part","place","prices"] (by walk_at "sc") rfl rfl (by decide) (by walk_at "bnk")) rfl (by decide) (by decide)
   .refine lkF (q9 h18 X Gn (W3 (Wo h18)) ["question","prices"] ?_ rfl rfl ?_ ?_) rfl ?_ ?_<;>walk_at "lk"
   .refine lkF (q9 h19 X Gn Bw ["question","cost_of_ask"] ?_ rfl rfl ?_ ?_) rfl ?_ ?_<;>walk_at "lk"
   .refine lkF (q9 h20 X Gn Df ["question","cost_of_ask"] ?_ rfl rfl ?_ ?_) rfl ?_ ?_<;>walk_at "lk"
   .refine lkF (q9 h21 X Gn (Oa (Wo h21)) ["whole_part","question","cost_of_ask"] ?_ rfl rfl ?_ ?_) rfl ?_ ?_<;>walk_at "lk"
   .refine lkF (q9 h22 X Gn Ro ["whole_part","question","number_unsettled"] ?_ rfl rfl ?_ ?_) rfl ?_ ?_<;>walk_at "lk"
   .refine lkF (q9 h23 X Gn O9 ["part","question","cost_of_ask","numbers"] ?_ rfl rfl ?_ ?_) rfl ?_ ?_<;>walk_at "lk"
   .refine lkF (q9 h24 X Gn Ot ["numbers","part","cost_of_ask"] ?_ rfl rfl ?_ ?_) rfl ?_ ?_<;>walk_at "lk"
   .refine lkF (q9 h25 X Gn Rp ["numbers","part","spot"] ?_ rfl rfl ?_ ?_) rfl ?_ ?_<;>walk_at "lk"
   .refine lkF (q9 h26 X Gn j7s ["_law_script","_law_k"] ?_ rfl rfl ?_ ?_) rfl ?_ ?_<;>walk_at "lk"
   .refine lkF (q9 h27 X Gn j4x ["_law_cell_here","_law_many"] ?_ rfl rfl ?_ ?_) rfl ?_ ?_<;>walk_at "lk"
   .refine lkF (q9 h28 X Gn jbf ["_law_row","_law_kind","_law_cell_here"] ?_ rfl rfl ?_ ?_) rfl ?_ ?_<;>walk_at "lk"
   .refine lkF (q9 h29 X Gn Ip ["_law_script","_law_at","_law_most"] ?_ rfl rfl ?_ ?_) rfl ?_ ?_<;>walk_at "lk"
   .refine lkF (q9 h30 X Gn j4y ["_law_e"] ?_ rfl rfl ?_ ?_) rfl ?_ ?_<;>walk_at "lk"
   .refine lkF (q9 h31 X Gn j15 ["_law_prices","_law_cell_here"] ?_ rfl rfl ?_ ?_) rfl ?_ ?_<;>walk_at "lk"
   .refine lkF (q9 h32 X Gn j16 ["_law_question_here","_law_part","_law_place","_law_prices","_law_way"] ?_ rfl rfl ?_ ?_) rfl ?_ ?_<;>walk_at "lk"
   .refine lkF (q9 h33 X Gn Io ["_law_places","_law_cell_here"] ?_ rfl rfl ?_ ?_) rfl ?_ ?_<;>walk_at "lk"
   .refine lkF (q9 h34 X Gn jae ["_law_script"] ?_ rfl rfl ?_ ?_) rfl ?_ ?_<;>walk_at "lk"
   .exact j66 (by decide +kernel) (Wo h18) rfl W4 ["numbers","part","spot"] (by walk_at "scl") rfl rfl rfl rfl (by walk_at "bndl")
   .exact j66 (by decide +kernel) (Wo h21) rfl Oc ["numbers","part"] (by walk_at "scl") rfl rfl rfl rfl (by walk_at "bndl")
  exact all (x,F) (lookup_mem hx)
 have bt:=jkd X Gn bz;have gl:∀x d,gs.lookup x=a3 d->∃u v,mg x=a3 u/\RelV v u/\∀H,Enc K H d v:=by
  intro x d hx;have hm:=lookup_mem hx;simp only[gs,xm,T4,or_false,Prod.mk.injEq]at hm;rcases hm with ⟨e1,e2⟩|⟨e1,e2⟩|⟨e1,e2⟩|⟨e1,e2⟩|⟨e1,e2⟩
  .subst e1 e2;exact⟨.ref ga0,.ref ga0,cK X Gn gn0,rfl,λH=>⟨ga0,[.int 0,.int 1],rfl,.inr ⟨_,_,_,ga0l,rfl,rfl,rfl,(by show 2<=aq;decide),(.cons ⟨_,rfl⟩ (.cons ⟨_,rfl⟩ .nil))⟩,⟨_,_,rfl,rfl,⟨_,_,rfl,rfl,rfl⟩⟩⟩⟩
  .subst e1 e2;exact⟨.int 2 gt3,.int 2,cK X Gn gn1,⟨_,rfl⟩,λ_=>rfl⟩
  .subst e1 e2;exact⟨.ref ga4,.ref ga4,cK X Gn gn2,rfl,λH=>⟨ga4,[.int 0,.int 1,.int 2],rfl,.inr ⟨_,_,_,ga4l,rfl,rfl,rfl,(by show 3<=aq;decide),(.cons ⟨_,rfl⟩ (.cons ⟨_,rfl⟩ (.cons ⟨_,rfl⟩ .nil)))⟩,⟨_,_,rfl,rfl,⟨_,_,rfl,rfl,⟨_,_,rfl,rfl,rfl⟩⟩⟩⟩⟩
  .subst e1 e2;exact⟨.int 1 gt8,.int 1,cK X Gn gn3,⟨_,rfl⟩,λ_=>rfl⟩
  .subst e1 e2;exact⟨.int 1000000 gt9,.int 1000000,cK X Gn gn4,⟨_,rfl⟩,λ_=>rfl⟩
 have qn:∀f∈qs,∃fa,mg f=a3 (.ref fa)/\PySem.W.keepIn K (.ref fa)=a7:=by
  intro f hf;simp only[qs,xm,T4,or_false]at hf;rcases hf with rfl|rfl|rfl
  .exact j3f h19 X Gn
  .exact j3f h20 X Gn
  .exact j3f h21 X Gn
 have el:=jka xz;have L:LkH l.prog w K mg base "_law_kinds" j0i:=jg7 h30 X Gn j4z (by walk_at "sc") (by decide) rfl (by walk_at "bnd");have tb:Tb l.prog w K mg base G:=jim bt gl exa (λp hp=>by
  have hp:p.1∈jq:=by
   simp only[xs,xm,T4,or_false]at hp
   rcases hp with rfl|rfl|rfl|rfl|rfl|rfl|rfl|rfl|rfl|rfl|rfl<;>decide
  exact⟨hp,el _ hp⟩
  ) (λ_=>el) hKb hNb qn (λp hp=>by
  simp only[xs,xm,T4,or_false]at hp
  rcases hp with rfl|rfl|rfl|rfl|rfl|rfl|rfl|rfl|rfl|rfl|rfl
  all_goals exact j1c (fu:=0) L bt exa el hKb hNb (by rfl) (by rfl)) (jji tz X Gn)
 exact jg8 hT tb (F:=j41) (by rfl) rfl hfa (W9 lk c k) _ (by walk_at "sc") rfl rfl (jae _) hlaw
end K27
end
open PySem (Str sizeLine argBest)
open L2
namespace K27
open KL KW KV
theorem jau:T "_law_cell" = a3 KL.fL_cell:=by rfl
theorem j0e:T "all_choices" = a3 KL.fP_all_choices:=by rfl
theorem jd0:T "rows_in" = a3 KL.fP_rows_in:=by rfl
theorem jgt:T "_law_bit" = a3 KW.fL_bit:=by rfl
theorem gN:G "NOT_TOLD" = a3 (.int 2):=by rfl
theorem gA:G "ANSWERS" = a3 (.tup [.int 0,.int 1]):=by rfl
theorem gT:G "TELLINGS" = a3 (.tup [.int 0,.int 1,.int 2]):=by rfl
theorem Vq{b:Int}:∀{m i:Nat}{z:Int},i<m->(jk b m z)[i]?=a3 (z/b^(m-1-i)%b)
 |m+1,0,z,_=>by rw[jk,ie];simp
 |m+1,i+1,z,h=>by rw[jk,cA,Vq nofun];congr 3;congr 1;omega
theorem j1a {fu n m:Nat} {z b:Int} (hm:m<=6) (hb:b=2\/b=3) (hz:0<=z/\z<b^m):evP fu G T (n+1) "number_of" [.tup ((jk b m z).map .int),.int b]=.val (.int z):=by
 rw[je (F:=Yx) (by rfl) rfl];simp only[Yx,Vd,enter];ext;have z0:z/b^m=0:=Tn hz.1 hz.2;refine Wg (λi ρ=>∃s3,ρ=[.val (.tup ((jk b m z).map .int)),.val (.int b),.val (.int (z/b^(m-i))),s3]) ⟨.un,by rw[lT,z0]⟩ ?_ ?_
 .rintro i d ρ hi ⟨s3,rfl⟩;obtain⟨v,hv,rfl⟩:=Bl hi;have hlt:i<m:=by have:=(Xa.mp hv).1;rw[vg]at this;exact this
  rw[Vq hlt]at hv;cases hv;simp only[Yq];ext;refine⟨_,rfl,?_⟩;have e1:m-i=(m-1-i)+1:=by omega
  have e2:m-(i+1)=m-1-i:=by omega
  have e3:z/b^(m-i)*b+z/b^(m-1-i)%b=z/b^(m-(i+1)):=by rw[e1,e2,<-j9i z b nofun,fZ];exact Int.mul_ediv_add_emod _ _
  rw[e3];exact⟨_,rfl⟩
 .rintro ρ' ⟨s3,rfl⟩;ext;simp[vg]
theorem j5f {n m:Nat} {z:Int} (h:1<=m/\m<=6) (hz:0<=z/\z<2^m):evP 1000 G T (n+2) "row_number" [jn (jk 2 m z)]=.val (.int z):=by
 rw[je (F:=Yb) (by rfl) rfl];simp only[Yb,Zo,enter];ext;simp only[gA];ext;have e:evP 1000 G T (n+1) "number_of" [jn (jk 2 m z),.int 2]=.val (.int z):=j1a h.2 (.inl rfl) hz;have e2:(((0+1+1:Nat):Int))=2:=rfl
 first|rw[e]|(rw[e2,e])
 ext
noncomputable def qD(ws:List af)(a:List Int):D:=.tup [.tup (ws.map D.str),.tup (a.map D.int)]
theorem j3z{p:List Int}{k:Nat}(h:k<p.length):atI (p.map D.int) (k:Int)=a3 (.int (p.getD k 0)):=by
 have:=j2f h
 rwa [cJ]at this
theorem j1o {n m k:Nat} {ws:List af} {a:List Int} (hm:1<=m/\m<=6) (ha:a.length=2^m) (hk:k<2^m):evP 1000 G T (n+3) "answer_to" [qD ws a,jn (jk 2 m (k:Int))]=.val (.int (a.getD k 0)):=by
 rw[je (F:=Yy) (by rfl) rfl];simp only[Yy,Ve,enter,qD];have pc:((2^m:Nat):Int)=(2:Int)^m:=by simp
 have i1:atI [D.tup (ws.map D.str),.tup (a.map D.int)] 1=a3 (.tup (a.map D.int)):=rfl;ext;erw[i1,j5f (n:=n) hm nofun,j3z nofun]
theorem j6s{l:List D}{k:Nat}(h:k<=l.length):cutD l a5 (a3 (k:Int))=l.take k:=by unfold cutD;rw[HT.sIx_none,HT.sIx_nat,dn,lT,kQ h]
theorem j6r{l:List D}{k:Nat}(h:k<=l.length):cutD l (a3 (k:Int)) a5=l.drop k:=by unfold cutD;rw[HT.sIx_none,HT.sIx_nat,kQ h,Tj (by rw[pq];omega)]
noncomputable def inL(p:List Int)(m:Nat):List Nat:=(aE (2^m)).filter λ(k:Nat)=>fits p (jk 2 m (k:Int))
noncomputable def cnt(a p:List Int)(m:Nat)(v:Int):Nat:=(inL p m).countP λ(k:Nat)=>a.getD k 0==v
theorem Bk{p:List Int}{m:Nat}(hp:p.length=m)(hp3:∀t∈p,0<=t/\t<3):qt (p.map Vl)=(inL p m).map λ(k:Nat)=>jk 2 m (k:Int):=by rw[Yl,<-M7 hp3,hp,<-El,kI];rfl
theorem jcz{p:List Int}{m:Nat}(hp:p.length=m)(hp3:∀t∈p,0<=t/\t<3):1<=(inL p m).length/\(inL p m).length<=2^m:=by
 have h1:=congrArg cT (Bk hp hp3);rw[Yl,Yv,xj]at h1;constructor
 .rw[<-h1];exact Nat.one_le_two_pow
 .unfold inL;exact Xi (Tq _ _) (by rw[Pg];exact X3 _)
theorem j2r{a:List Int}(h01:∀x∈a,x=0\/x=1):∀L:List Nat,(L.countP λ(k:Nat)=>a.getD k 0==0)+(L.countP λ(k:Nat)=>a.getD k 0==1)=L.length
 |[]=>rfl
 |k::L=>by
  have ih:=j2r h01 L;rw[tu,tu,xx]
  try dsimp only
  rcases j4b h01 k with e|e
  .rw[e,if_pos (by decide),if_neg (by decide)];omega
  .rw[e,if_neg (by decide),if_pos (by decide)];omega
theorem j0o {n m:Nat} {ws:List af} {a p:List Int} (hm:1<=m/\m<=6) (ha:a.length=2^m) (hp:p.length=m) (hp3:∀t∈p,0<=t/\t<3):evP 1000 G T (n+4) "counted_in" [qD ws a,jn p]=.val (.tup [.int (cnt a p m 0),.int (cnt a p m 1)]):=by
 rw[je (F:=Yd) (by rfl) rfl];simp only[Yd,Zr,enter];have ri:evP 1000 G T (n+3) "rows_in" [jn p]=.fresh (zu (qt (p.map Vl))):=j17 (n:=n+1) jd0 j0e gN gA nofun
 have as1:∀k:Nat,k<2^m->evP 1000 G T (n+3) "answer_to" [qD ws a,jn (jk 2 m (k:Int))]=.val (.int (a.getD k 0)):=λk hk=>j1o hm ha hk;have l:=jcz hp hp3;have p2:=jfd hm.2;have pc:((2^m:Nat):Int)=(2:Int)^m:=by simp
 have cn:∀v:Int,(((inL p m).map λ(k:Nat)=>D.int (a.getD k 0)).countP λe=>deq e (.int v))=cnt a p m v:=λv=>by rw[kJ];rfl
 have dp:D.depL ((inL p m).map λ(k:Nat)=>D.int (a.getD k 0))<=90:=by
  have:=D.depL_of (ds:=(inL p m).map λ(k:Nat)=>D.int (a.getD k 0)) (n:=0) λd hd=>by obtain⟨x,_,rfl⟩:=Xe.mp hd;simp[D.dep]
  omega
 ext;rw[ri,Bk hp hp3];ext;rw[qp (l:=(inL p m).map λ(k:Nat)=>D.int (a.getD k 0)) (by rfl) (by simp only[zu,xj];omega) ?_ (.inl rfl)];rotate_left
 .rw[zu,Xc];refine jy λk hk'=>zg (by ext) ?_;have hk:=Xf.mp (Xz.mp hk').1;ext;rw[eM,as1 k hk];ext
 ext;rw[j2q dp (by simp[D.dep]),j2q dp (by simp[D.dep]),cn,cn];ext
theorem Ef {n m:Nat} {ws:List af} {a p:List Int} (hm:1<=m/\m<=6) (ha:a.length=2^m) (hp:p.length=m) (hp3:∀t∈p,0<=t/\t<3):evP 1000 G T (n+5) "settled_by" [qD ws a,jn p]=.val (if cnt a p m 1=0 then .int 0 else if cnt a p m 0=0 then .int 1 else .non):=by
 rw[je (F:=Y9) (by rfl) rfl];simp only[Y9,Zn,enter];have i0:∀x y:D,atI [x,y] 0=a3 x:=λ_ _=>rfl;have i1:∀x y:D,atI [x,y] 1=a3 y:=λ_ _=>rfl;have c:=j0o (n:=n) (ws:=ws) hm ha hp hp3;ext;rw[c];ext;rw[i1];by_cases h1:cnt a p m 1=0
 .ext;rw[if_pos h1]
 .rw[if_neg h1];ext;rw[i0];by_cases h0:cnt a p m 0=0
  .ext;rw[if_pos h0]
  .ext;rw[if_neg h0]
noncomputable def Eh(c0 c1:Nat):D:=if c1=0 then .int 0 else if c0=0 then .int 1 else .non
theorem Ru {n m:Nat} {ws:List af} {a p:List Int} (hm:1<=m/\m<=6) (ha:a.length=2^m) (hp:p.length=m) (hp3:∀t∈p,0<=t/\t<3):evP 1000 G T (n+5) "settled_by" [.tup [.tup (ws.map D.str),.tup (a.map D.int)],jn p]=.val (Eh (cnt a p m 0) (cnt a p m 1)):=Ef hm ha hp hp3
noncomputable def Zh(m:Nat):List (List Int):=(aE (3^m)).map λn=>jk 3 m ((n:Nat):Int)
theorem j19(m:Nat):Zh (m+1)=(Zh m).map (0 :: ·)++(Zh m).map (1 :: ·)++(Zh m).map (2 :: ·):=by
 have e:3^(m+1)=3^m+3^m+3^m:=by rw[bZ];omega
 have pc:((3^m:Nat):Int)=(3:Int)^m:=by simp
 have hp:(3:Int)^m≠0:=fY (cB (by decide));have key:∀(c n:Nat),c<3->n<3^m->jk 3 (m+1) (((n:Nat):Int)+3^m*(c:Int))=(c:Int)::jk 3 m (n:Int):=λc n hc hn=>by
  rw[jk,Wv (by decide) _ _ (X3 m)];congr 1;have h0:(n:Int)/3^m=0:=Tn nofun (by rw[<-pc];omega)
  rw[cP _ _ hp,h0,cJ];omega
 unfold Zh;rw[e,gO,gO,Xp,Xp,Xc,Xc,Xc,Xc,Xc];congr 1
 .congr 1
  .apply T7;intro n hn;have:=key 0 n (by decide) (Xf.mp hn);simpa using this
  .apply T7;intro n hn;have:=key 1 n (by decide) (Xf.mp hn);show jk 3 (m+1) ((3^m+n:Nat):Int)=1::jk 3 m (n:Int);rw[show((3^m+n:Nat):Int)=(n:Int)+3^m*((1:Nat):Int)by rw[d6,pc];omega,this];rfl
 .apply T7;intro n hn;have:=key 2 n (by decide) (Xf.mp hn);show jk 3 (m+1) ((3^m+3^m+n:Nat):Int)=2::jk 3 m (n:Int);rw[show((3^m+3^m+n:Nat):Int)=(n:Int)+3^m*((2:Nat):Int)by rw[d6,d6,pc];omega,this];rfl
theorem jlt{m:Nat}(h:m<=6):1<=3^m/\3^m<=729:=by
 have:m=0\/m=1\/m=2\/m=3\/m=4\/m=5\/m=6:=by omega
 rcases this with e|e|e|e|e|e|e<;>subst e<;>decide
theorem Lj:∀{m:Nat}{p:List Int},p.length=m->(∀t∈p,0<=t/\t<3)->p∈Zh m
 |0,p,h,_=>by have:p=[]:=List.length_eq_zero_iff.mp h;subst this;decide
 |m+1,[],h,_=>by cases h
 |m+1,t::p,h,h3=>by
  have ih:=Lj (m:=m) (p:=p) (by simpa using h) λx hx=>h3 x (kj _ hx);have ht:=h3 t (xr ..);rw[j19];have:t=0\/t=1\/t=2:=by omega
  rcases this with e|e|e<;>subst e
  .exact Xr _ (Xr _ (Xe.mpr ⟨p,ih,rfl⟩))
  .exact Xr _ (Xd _ (Xe.mpr ⟨p,ih,rfl⟩))
  .exact Xd _ (Xe.mpr ⟨p,ih,rfl⟩)
theorem j6k(p:List Int):Qj (p.map D.int)=(aE p.length).map λ(s:Nat)=>D.tup [.int (s:Int),.int (p.getD s 0)]:=by
 refine cG λi=>?_;rw[Ls,X7,X7];by_cases h:i<p.length
 .rw[Th h,kh h];simp[h]
 .rw[ph nofun,ph (by simp;omega)];rfl
noncomputable def stD(a p:List Int)(m:Nat):D:=Eh (cnt a p m 0) (cnt a p m 1)
theorem Uc {n s:Nat} {p:List Int} {v:Int} (hl:p.length<=6) (hs:s<p.length) (h2:p.getD s 0=2):evP 1000 G T (n+1) "told_further" [jn p,.int s,.int v]=.val (jn (p.set s v)):=by
 rw[je (F:=Jq) (by rfl) rfl];simp only[Jq,Js,enter];have gi:=j3z hs;rw[h2]at gi;have lp:(p.map D.int).length=p.length:=xj ..;have w1:¬(HT.sIx (p.map D.int).length 0 a5=0/\HT.sIx (p.map D.int).length (p.map D.int).length (a3 (s:Int))=(p.map D.int).length):=by rw[HT.sIx_nat,lp];omega
 have e1:(s:Int)+1=((s+1:Nat):Int):=by omega
 have w2:¬(HT.sIx (p.map D.int).length 0 (a3 ((s+1:Nat):Int))=0/\HT.sIx (p.map D.int).length (p.map D.int).length a5=(p.map D.int).length):=by rw[HT.sIx_nat,lp];omega
 ext;rw[gi];ext;simp only[gN];ext;rw[j55 w1,e1,j55 w2,j6s nofun,j6r nofun];ext;rw[jn,fM,if_pos hs];simp
theorem V3{p:List Int}{m s:Nat}{v:Int}(hp:p.length=m)(hp3:∀t∈p,0<=t/\t<3)(hv:v=0\/v=1):(p.set s v).length=m/\∀t∈p.set s v,0<=t/\t<3:=by
 refine⟨by rw[cX];exact hp,λt ht=>?_⟩;rcases List.mem_or_eq_of_mem_set ht with h|h
 .exact hp3 t h
 .rw[h];omega
theorem jdo{a p:List Int}{m:Nat}(h01:∀x∈a,x=0\/x=1)(hp:p.length=m)(hp3:∀t∈p,0<=t/\t<3):cnt a p m 0+cnt a p m 1=2^(p.countP λt=>t==2):=by have h:=j2r h01 (inL p m);have h1:=congrArg cT (Bk hp hp3);rw[Yl,Yv,xj]at h1;unfold cnt;omega
theorem Lz{p:List Int}{s:Nat}{v:Int}(hs:s<p.length)(h2:p.getD s 0=2)(hv:v=0\/v=1):((p.set s v).countP λt=>t==2)+1=p.countP λt=>t==2:=by
 have g:p[s]=2:=by rw[km,kh hs]at h2;exact h2
 have e:p=p.take s++2::p.drop (s+1):=by have:=iI s p;rw[c7 hs,g]at this;exact this.symm
 rw[fM,if_pos hs]
 conv=>rhs;rw[e]
 rw[jG,jG,tu,tu];have hv2:(v==2)=a4:=by rcases hv with h|h<;>subst h<;>rfl
 simp[hv2]
 try omega
noncomputable def Jl(p:List Int)(m:Nat):List Nat:=(aE m).filter λ(k:Nat)=>decide (p.getD k 0=2)
theorem Eu:∀(p:List Int),(Jl p p.length).length=p.countP λt=>t==2:=by
 intro p;unfold Jl;rw[<-List.countP_eq_length_filter];have:∀(p:List Int),(aE p.length).countP (λ(k:Nat)=>decide (p.getD k 0=2))=p.countP λt=>t==2:=by
  intro p;induction p with
  |nil=>rfl
  |cons t ts ih =>
   rw[xx,cF,tu,kJ,tu,<-ih];congr 1
   try simp only[fb]
   try (by_cases h:t=2<;>simp[h])
 exact this p
noncomputable def Jw(t:Int):List Int:=if t=2 then[0,1,2] else[t]
theorem Et {n:Nat} {p:List Int} (hp:p.length<=6):evP 1000 G T (n+2) "parts_in" [jn p]=.fresh (zu (qt (p.map Jw))):=by
 rw[je (F:=Uw) (by rfl) rfl];simp only[Uw,Vz,enter];ext;rw[qp (l:=zu (p.map Jw)) (by rfl) ?_ ?_ (.inl rfl)]
 .ext;rw[Mi j0e (λf hf=>by obtain⟨t,_,rfl⟩:=Xe.mp hf;unfold Jw;split<;>simp) (by rw[xj];exact hp)];ext
 .rw[xj];omega
 .rw[zu,Xc];refine jy λt _=>zg (by ext) ?_;by_cases h:t=2
  .ext;simp only[gN];ext;simp only[gT];ext;simp[Jw,h]
  .ext;simp only[gN];ext;simp[Jw,h]
theorem Ol{n s:Nat}{p:List Int}{ks:List (List Int)}{ns:List Int}{x y:Int}(hl:p.length<=6)(hs:s<p.length)(h2:p.getD s 0=2)(hx:vq ks (ns.map D.int) (p.set s 0)=a3 (.int x))(hy:vq ks (ns.map D.int) (p.set s 1)=a3 (.int y)) :
  evP 1000 G T (n+2) "numbers_behind" [.dct ks (ns.map D.int),jn p,.int s]=.fresh ([x,y].map D.int):=by
 have t0:=Uc (n:=n) (v:=0) hl hs h2;have t1:=Uc (n:=n) (v:=1) hl hs h2;simp only[jn]at t0 t1 ⊢;rw[je (F:=J6) (by rfl) rfl];simp only[J6,J8,enter];ext;simp only[gA];ext;rw[qp (l:=[x,y].map D.int) (by rfl) (by decide) ?_ (.inr (Qs _))]
 .ext
 .rw[Jr,zg (d':=.int x) (by ext) (by ext;rw[t0];ext;rw[j2l hx])];rw[Jr,zg (d':=.int y) (by ext) (by ext;rw[t1];ext;rw[j2l hy])];rfl
theorem j6t{n s:Nat}{p pr:List Int}{ks:List (List Int)}{ns:List Int}{x y:Int}(hl:p.length<=6)(hs:s<p.length)(hr:s<pr.length)(h2:p.getD s 0=2)(hx:vq ks (ns.map D.int) (p.set s 0)=a3 (.int x))(hy:vq ks (ns.map D.int) (p.set s 1)=a3 (.int y)) :
  evP 1000 G T (n+3) (ju "worst_cost_of_ask") [.lst (pr.map D.int),.dct ks (ns.map D.int),jn p,.int s]=.lval (.int (pr.getD s 0+Jj [x,y])):=by
 have b:=Ol (n:=n) hl hs h2 hx hy;have g:=j3z hr;rw[j2i (F:=Qh) (by rfl) rfl];simp only[Qh,Ja,enter];ext;rw[g,b];ext;rw[show([D.int x,D.int y]:List D)=[x,y].map D.int from rfl,jjf (by simp)];ext
theorem j1n(l:List (List Int))(h:∀k∈l,k.length=2):∀k,k<l.length->aV (Jv l) k<=k/\∀j,j<=k->(l.getD (aV (Jv l) k) []).getD 0 0<=(l.getD j []).getD 0 0:=by
 have two:∀i,i<l.length->∃a b,l.getD i []=[a,b]:=λi hi=>by
  have e:l.getD i []=l[i]:=by rw[km,kh hi];rfl
  have hm:=h _ (Xy hi);rw[e]
  match l[i],hm with|[a,b],_=>exact⟨a,b,rfl⟩
 intro k;induction k with
 |zero=>exact λ_=>⟨X3 _,λj hj=>by rw[Nat.le_zero.mp hj];exact gv _⟩
 |succ k ih =>
  intro hk;obtain⟨h1,h2⟩:=ih nofun
  obtain⟨a,b,e1⟩:=two (k+1) hk;obtain⟨c,d,e2⟩:=two (aV (Jv l) k) nofun
  rw[aV];cases z:Jv l (k+1) (aV (Jv l) k) with
  |true =>
   rw[if_pos rfl];refine⟨X3 _,λj hj=>?_⟩;have z:HT.lexLt (l.getD (k+1) []) (l.getD (aV (Jv l) k) [])=a7:=z;rw[e1,e2]at z;have z:a<=c:=by
    rw[HT.lexLt]at z;by_cases q:a=c
    .omega
    .rw[if_neg q]at z;have:=of_decide_eq_true z;omega
   rcases eC j (k+1)with q|q
   .have:=h2 j nofun
    rw[e2]at this;rw[e1];exact Int.le_trans z this
   .rw[show j=k+1 by omega];exact gv _
  |false =>
   rw[if_neg xf];refine⟨by omega,λj hj=>?_⟩;have z:HT.lexLt (l.getD (k+1) []) (l.getD (aV (Jv l) k) [])=a4:=z;rw[e1,e2]at z;have z:c<=a:=by
    rw[HT.lexLt]at z;by_cases q:a=c
    .omega
    .rw[if_neg q]at z;have:=of_decide_eq_false z;omega
   rcases eC j (k+1)with q|q
   .exact h2 j nofun
   .rw[show j=k+1 by omega,e1,e2];exact z
theorem Wn:∀l:List Int,Jm (l.map D.int)=a7
 |[]=>rfl
 |_::l=>by rw[xu,Jm,Wn l];rfl
theorem Bh(ks:List (List Int))(ns:List Int):noFn (.dct ks (ns.map D.int))=a7:=by rw[noFn,Wn]
theorem j00(l:List Int):noFn (.tup (l.map D.int))=a7:=by rw[noFn,Wn]
theorem at0(a b:D):atI [a,b] 0=a3 a:=rfl
theorem at1(a b:D):atI [a,b] 1=a3 b:=rfl
theorem Rn{n:Nat}{p pr:List Int}{ks:List (List Int)}{ns:List Int}{V0 V1:Nat->Int}(hl:p.length<=6)(hr:pr.length=p.length)(ho:Jl p p.length≠[])
  (hx:∀s,s<p.length->p.getD s 0=2->vq ks (ns.map D.int) (p.set s 0)=a3 (.int (V0 s))/\vq ks (ns.map D.int) (p.set s 1)=a3 (.int (V1 s))) :
  ∃s:Nat,s∈Jl p p.length/\V4 ((Jl p p.length).map λs=>pr.getD s 0+Jj [V0 s,V1 s])=pr.getD s 0+Jj [V0 s,V1 s]/\evP 1000 G T (n+4) "cheapest_ask" [.dct ks (ns.map D.int),jn p,.fn "worst_cost_of_ask" [.lst (pr.map D.int)]]=.val (.tup [.int (V4 ((Jl p p.length).map λs=>pr.getD s 0+Jj [V0 s,V1 s])),.int (s:Int)]):=by
 let kk:List (List Int):=(Jl p p.length).map λ(s:Nat)=>[pr.getD s 0+Jj [V0 s,V1 s],(s:Int)]
 have kl:kk.length=(Jl p p.length).length:=xj ..;have kp:0<(Jl p p.length).length:=List.length_pos_iff.mpr ho;obtain⟨b1,b2⟩:=j1n kk (λk hk=>by obtain⟨s,_,e⟩:=Xe.mp hk;rw[<-e];rfl) (kk.length-1) nofun
 have hi:aV (Jv kk) (kk.length-1)<kk.length:=by omega
 have hk:kk[aV (Jv kk) (kk.length-1)]?=a3 (kk.getD (aV (Jv kk) (kk.length-1)) []):=by rw[km,kh hi];rfl
 obtain⟨s0,hs0,e0⟩:=Xe.mp (Xm hk);have at':∀{t:Nat},t∈Jl p p.length->t<p.length/\p.getD t 0=2:=λ{t} ht=>by obtain⟨h1,h2⟩:=Xz.mp ht;exact⟨Xf.mp h1,of_decide_eq_true h2⟩
 have mn:V4 ((Jl p p.length).map λs=>pr.getD s 0+Jj [V0 s,V1 s])=pr.getD s0 0+Jj [V0 s0,V1 s0]:=by
  refine j2b (Xe.mpr ⟨s0,hs0,rfl⟩) λc hc=>?_;obtain⟨t,ht,rfl⟩:=Xe.mp hc;obtain⟨j,hj,ej⟩:=Te.mp ht;have q:=b2 j nofun
  rw[<-e0]at q;have e1:kk.getD j []=[pr.getD t 0+Jj [V0 t,V1 t],(t:Int)]:=by rw[km,X7,kh hj,ej];rfl
  rw[e1]at q;exact q
 refine⟨s0,hs0,mn,?_⟩;rw[mn,je (F:=V7) (by rfl) rfl];simp only[V7,Qy,enter,jn];ext;rw[qp (l:=kk.map λk=>D.tup (k.map D.int)) (by rfl) (by unfold Qj;rw[xj,dk,xj];omega) ?_ (.inl rfl)];rotate_left
 .rw[j6k,Xc];refine Ye λs hs'=>?_;have hs:=Xf.mp hs';refine j7p ?_ λhb=>?_
  .ext;simp only[gN];ext;simp only[Ci];ext
  .have h2:p.getD s 0=2:=of_decide_eq_true hb;obtain⟨h0,h1⟩:=hx s hs h2;have c:=j6t (n:=n) (pr:=pr) hl hs nofun h2 h0 h1;simp only[jn]at c;ext;rw[j9t (by rw[Jm,Bh,Jm,j00];rfl)];simp only[cO,cW];rw[c];ext;rfl
 ext;rw[jcl hk,<-e0];ext
theorem j67{n:Nat}{p pr:List Int}{ks:List (List Int)}{ns:List Int}{V0 V1:Nat->Int}(hl:p.length<=6)(hr:pr.length=p.length)(ho:Jl p p.length≠[])
  (hx:∀s,s<p.length->p.getD s 0=2->vq ks (ns.map D.int) (p.set s 0)=a3 (.int (V0 s))/\vq ks (ns.map D.int) (p.set s 1)=a3 (.int (V1 s))) :
  evP 1000 G T (n+5) (ju "least_numbers") [.fn "worst_cost_of_ask" [.lst (pr.map D.int)],.dct ks (ns.map D.int),jn p]=.lval (.int (V4 ((Jl p p.length).map λs=>pr.getD s 0+Jj [V0 s,V1 s]))):=by
 obtain⟨s,_,_,e⟩:=Rn (n:=n) hl hr ho hx;rw[j2i (F:=Zu) (by rfl) rfl];simp only[Zu,Qk,enter];ext;erw[e,at0]
noncomputable def qw:List Int->Int
 |[]=>0
 |d::ds=>d*3^ds.length+qw ds
theorem W2:∀{p:List Int},(∀t∈p,0<=t/\t<3)->0<=qw p/\qw p<3^p.length
 |[],_=>⟨by decide,by decide⟩
 |d::ds,h=>by
  obtain⟨h1,h2⟩:=W2 (p:=ds) λt ht=>h t (kj _ ht);have hd:=h d xr;have hp:(0:Int)<3^ds.length:=cB (by decide);rw[qw,xx,iJ];have:d=0\/d=1\/d=2:=by omega
  rcases this with e|e|e<;>subst e<;>exact⟨by omega,by omega⟩
theorem Bo:∀{p:List Int},(∀t∈p,0<=t/\t<3)->jk 3 p.length (qw p)=p
 |[],_=>rfl
 |d::ds,h=>by have h':∀t∈ds,0<=t/\t<3:=λt ht=>h t (kj _ ht);obtain⟨h1,h2⟩:=W2 h';have hd:=h d xr;have hp:(3:Int)^ds.length≠0:=fY (cB (by decide));rw[qw,xx,show d*3^ds.length+qw ds=qw ds+3^ds.length*d by rw[fZ,iK],jk,Wv (by decide) _ _ (X3 _),Bo h'];congr 1;rw[cP _ _ hp,Tn h1 h2,cJ];omega
theorem Om(i:Nat):∀m:Nat,qw (jk 3 m (i:Int))=((i%3^m:Nat):Int)
 |0=>by rw[Nat.pow_zero,Nat.mod_one];rfl
 |m+1=>by
  have pc:((3^m:Nat):Int)=(3:Int)^m:=by simp
  have e:((i/3^m%3:Nat):Int)=(i:Int)/3^m%3:=by rw[Int.natCast_emod,Int.natCast_ediv,pc];rfl
  rw[jk,qw,vg,Om i m,bZ,Nat.mod_mul,d6,eJ,e,pc,fZ,iK]
theorem Fw:∀{p:List Int}{s:Nat}{c:Int},s<p.length->qw (p.set s c)=qw p+(c-p.getD s 0)*3^(p.length-1-s)
 |d::ds,0,c,_=>by rw[t7,qw,qw,xx,fb,show ds.length+1-1-0=ds.length by omega,Int.sub_mul];omega
 |d::ds,s+1,c,h=>by have:=Fw (p:=ds) (s:=s) (c:=c) (by simpa using h);rw[t8,qw,qw,cX,xx,iX,this,show ds.length+1-1-(s+1)=ds.length-1-s by omega];omega
theorem Di{m i s:Nat}{c:Nat}(hi:i<3^m)(hs:s<m)(h2:(jk 3 m (i:Int)).getD s 0=2)(hc:c=0\/c=1):(2-c)*3^(m-1-s)<=i/\(jk 3 m (i:Int)).set s (c:Int)=jk 3 m ((i-(2-c)*3^(m-1-s):Nat):Int):=by
 have hl:(jk 3 m (i:Int)).length=m:=vg 3 m _;have h3:∀t∈(jk 3 m (i:Int)).set s (c:Int),0<=t/\t<3:=(V3 hl (λt ht=>Fb (by decide) ht) nofun).2;have l2:((jk 3 m (i:Int)).set s (c:Int)).length=m:=by rw[cX];exact hl
 have v:=Fw (p:=jk 3 m (i:Int)) (c:=(c:Int)) (hl▸hs);rw[Om,kE hi,h2,hl]at v;obtain⟨b1,b2⟩:=W2 h3;have d:=Bo h3;rw[l2]at d;have pc:((3^(m-1-s):Nat):Int)=(3:Int)^(m-1-s):=by simp
 have le:(2-c)*3^(m-1-s)<=i:=by
  have:(((2-c)*3^(m-1-s):Nat):Int)=(2-(c:Int))*3^(m-1-s):=by rw[eJ,pc];congr 1;omega
  have e2:((c:Int)-2)*3^(m-1-s) = -((2-(c:Int))*3^(m-1-s)):=by rw[<-mD];congr 1;omega
  omega
 refine⟨le,?_⟩;rw[<-d,v];congr 1;rw[Int.natCast_sub le,eJ,pc];have e2:((c:Int)-2)*3^(m-1-s) = -((2-(c:Int))*3^(m-1-s)):=by rw[<-mD];congr 1;omega
 have e3:((2-c:Nat):Int)=2-(c:Int):=by omega
 rw[e2,e3];omega
noncomputable def stepV(pr:List Int)(m:Nat)(t:List Int)(i:Nat):Int:=V4 ((Jl (jk 3 m (i:Int)) m).map λs=>pr.getD s 0+Jj [t.getD (i-2*3^(m-1-s)) 0,t.getD (i-1*3^(m-1-s)) 0])
noncomputable def Vh(pr:List Int)(m:Nat)(op:List Int->Bool):Nat->List Int
 |0=>[]
 |i+1=>Vh pr m op i++[if op (jk 3 m (i:Int))=a7 then stepV pr m (Vh pr m op i) i else 0]
theorem We(pr:List Int)(m:Nat)(op:List Int->Bool):∀i,(Vh pr m op i).length=i
 |0=>rfl
 |i+1=>by rw[Vh,X6,We pr m op i];rfl
noncomputable def opB(a:List Int)(m:Nat)(p:List Int):Bool:=(stD a p m).isNon
theorem Do{a p:List Int}{m:Nat}(h01:∀x∈a,x=0\/x=1)(hp:p.length=m)(hp3:∀t∈p,0<=t/\t<3)(h:opB a m p=a7):Jl p m≠[]:=λe=>by
 subst hp;have o:=Eu p;rw[e]at o;have c:=jdo (a:=a) h01 rfl hp3;rw[<-o]at c;unfold opB stD Eh at h;have c:cnt a p p.length 0+cnt a p p.length 1=1:=c;split at h
 .cases h
 .split at h
  .cases h
  .omega
theorem gGN:G "GREATEST_NUMBER" = a3 (.int 1000000):=by rfl
theorem gLP:G "LEAST_PRICE" = a3 (.int 1):=by rfl
noncomputable def btw(least x:Int):Bool:=decide (least<=x)&&decide (x<=1000000)
theorem Ml {n:Nat} {l:List Int} {least:Int} (hl:l.length<=1000):evP 1000 G T (n+1) "all_between" [.lst (l.map D.int),.int least]=.val (.bl (l.all (btw least))):=by
 rw[je (F:=Vn) (by rfl) rfl];simp only[Vn,Zc,enter];ext;rw[qp (l:=(l.map (btw least)).map D.bl) (by rfl) (by rw[xj];omega) ?_ (.inl rfl)]
 .ext;rw[fR];rfl
 .rw[Xc];refine jy λx _=>zg (by ext) ?_;by_cases h1:least<=x
  .by_cases h2:x<=1000000
   .ext;simp only[gGN];ext;simp[btw,h1,h2]
   .ext;simp only[gGN];ext;simp[btw,h1,h2]
  .ext;simp[btw,h1]
theorem rep1(k:Nat):(ah k [D.int 1]).flatten=(ah k (1:Int)).map D.int:=by
 induction k with
 |zero=>rfl
 |succ k ih=>rw[Pn,Tg,ih];rfl
theorem j5i {n m:Nat} (hm:m<=6):evP 1000 G T (n+1) "prices_told" [.int m,.non]=.fresh ((ah m (1:Int)).map D.int):=by rw[je (F:=v9) (by rfl) rfl];simp only[v9,Jd,enter];ext;rw[Xh,rep1]
theorem Bb {n m:Nat} {pr:List Int} (hl:pr.length=m) (hm:m<=6) (h:pr.all (btw 1)=a7):evP 1000 G T (n+2) "prices_told" [.int m,.lst (pr.map D.int)]=.fresh (pr.map D.int):=by rw[je (F:=v9) (by rfl) rfl];simp only[v9,Jd,enter];ext;simp only[gLP];ext;rw[Ml nofun,h];ext
theorem Mp {n m:Nat} {ws:List af} {a:List Int} (hm:1<=m/\m<=6) (hw:ws.length=m):evP 1000 G T (n+1) "all_open" [qD ws a]=.val (jn (ah m 2)):=by
 rw[je (F:=Ux) (by rfl) rfl];simp only[Ux,Y0,enter,qD];ext;simp only[gN];ext;rw[at0];ext;rw[hw]
 first|rfl|simp[jn]
noncomputable def tab(pr a:List Int)(m:Nat):List Int:=Vh pr m (opB a m) (3^m)
theorem Vy {n m:Nat} {ws:List af} {a pr:List Int} {d:D} (hw:ws.length=m) (hp:evP 1000 G T (n+1) "prices_told" [.int m,d]=.fresh (pr.map D.int)) :
  evP 1000 G T (n+2) "worst_cost_of_ask" [qD ws a,d]=.val (.fn "worst_cost_of_ask" [.lst (pr.map D.int)]):=by
 rw[je (F:=zr) (by rfl) rfl];simp only[zr,zx,enter,qD];ext;rw[at0];ext;rw[hw,hp];ext
theorem j95{l l':List Int}{j:Nat}(h:j<l.length):(l++l').getD j 0=l.getD j 0:=by rw[km,km,Pa h]
theorem Ou{pr:List Int}{m:Nat}{op:List Int->Bool}{i j:Nat}(hj:j<i):∀{N:Nat},i<=N->(Vh pr m op N).getD j 0=(Vh pr m op i).getD j 0:=by
 intro N hN;induction N with
 |zero=>omega
 |succ N ih =>
  by_cases e:i=N+1
  .rw[e]
  .rw[Vh,j95 (by rw[We];omega)];exact ih nofun
theorem j1r{pr:List Int}{m:Nat}{op:List Int->Bool}{j N:Nat}(hN:N<=3^m)(h:j<N):(Vh pr m op N).getD j 0=if op (jk 3 m (j:Int))=a7 then stepV pr m (Vh pr m op N) j else 0:=by
 rw[Ou (i:=j+1) nofun nofun,Vh,km,bR (by rw[We];exact X3 _),We,Nat.sub_self];show(if _ then _ else _)=_;have e:stepV pr m (Vh pr m op j) j=stepV pr m (Vh pr m op N) j:=by unfold stepV;congr 1;apply T7;intro s hs;obtain⟨q1,q2⟩:=Xz.mp hs;have hs':=Xf.mp q1;have h2:(jk 3 m (j:Int)).getD s 0=2:=of_decide_eq_true q2;obtain⟨l0,_⟩:=Di (c:=0) (by omega:j<3^m) hs' h2 (.inl rfl);obtain⟨l1,_⟩:=Di (c:=1) (by omega:j<3^m) hs' h2 (.inr rfl);have w:0<3^(m-1-s):=jW (by simp);rw[Ou (i:=j) (j:=j-2*3^(m-1-s)) (N:=N) nofun nofun,Ou (i:=j) (j:=j-1*3^(m-1-s)) (N:=N) nofun nofun]
 rw[e]
set_option genInjectivity true in
inductive Pl where
 |tell (b:Int)
 |ask (p:af) (n y:Pl)
noncomputable def pD:Pl->D
 |.tell b=>.tup [.str "tell",.int b]
 |.ask p n y=>.tup [.str "ask",.str p,pD n,pD y]
noncomputable def Wp(pr a:List Int)(m:Nat)(p:List Int):Int:=(tab pr a m).getD (qw p).toNat 0
def Cy(ws:List af)(pr a:List Int)(m:Nat):Pl->List Int->Prop
 |.tell b,p=>stD a p m=.int b
 |.ask w n y,p=>opB a m p=a7/\∃s,s∈Jl p m/\ws[s]?=a3 w/\Wp pr a m p=pr.getD s 0+Jj [Wp pr a m (p.set s 0),Wp pr a m (p.set s 1)]/\Cy ws pr a m n (p.set s 0)/\Cy ws pr a m y (p.set s 1)
theorem j3w{p:List Int}{m:Nat}(hp:p.length=m)(hp3:∀t∈p,0<=t/\t<3):(qw p).toNat<3^m/\p=jk 3 m ((qw p).toNat:Int):=by
 obtain⟨b1,b2⟩:=W2 hp3;have pc:((3^m:Nat):Int)=(3:Int)^m:=by simp
 rw[hp,<-pc]at b2;refine⟨by omega,?_⟩;rw[jI b1,<-hp];exact(Bo hp3).symm
theorem jaz{p pr a:List Int}{m s c:Nat}(hp:p.length=m)(hp3:∀t∈p,0<=t/\t<3)(hs:s<m)(h2:p.getD s 0=2)(hc:c=0\/c=1):Wp pr a m (p.set s (c:Int))=(tab pr a m).getD ((qw p).toNat-(2-c)*3^(m-1-s)) 0:=by obtain⟨h1,e⟩:=j3w hp hp3;have t:=Di (m:=m) (i:=(qw p).toNat) (s:=s) (c:=c) h1 hs (by rw[<-e];exact h2) hc;rw[<-e]at t;unfold Wp;rw[t.2,Om,Xh,kE nofun]
theorem j7i{p pr a:List Int}{m:Nat}(hp:p.length=m)(hp3:∀t∈p,0<=t/\t<3)(ho:opB a m p=a7):Wp pr a m p=V4 ((Jl p m).map λs=>pr.getD s 0+Jj [Wp pr a m (p.set s 0),Wp pr a m (p.set s 1)]):=by obtain⟨h1,e⟩:=j3w hp hp3;have t:=j1r (pr:=pr) (op:=opB a m) (X3 (3^m)) h1;rw[<-e,if_pos ho]at t;refine Eq.trans t ?_;unfold stepV;rw[<-e];congr 1;apply T7;intro s hs;obtain⟨q1,q2⟩:=Xz.mp hs;have hs':=Xf.mp q1;have h2:p.getD s 0=2:=of_decide_eq_true q2;have w0:=jaz (pr:=pr) (a:=a) (c:=0) hp hp3 hs' h2 (.inl rfl);have w1:=jaz (pr:=pr) (a:=a) (c:=1) hp hp3 hs' h2 (.inr rfl);have w0:Wp pr a m (p.set s 0)=_:=w0;have w1:Wp pr a m (p.set s 1)=_:=w1;rw[w0,w1];rfl
theorem ja9{p pr a:List Int}{m:Nat}(hp:p.length=m)(hp3:∀t∈p,0<=t/\t<3)(ho:opB a m p=a4):Wp pr a m p=0:=by obtain⟨h1,e⟩:=j3w hp hp3;have t:=j1r (pr:=pr) (op:=opB a m) (X3 (3^m)) h1;rw[<-e,ho,if_neg xf]at t;exact t
noncomputable def PK(p:List Int):List (List Int):=Qe (p.map Jw)
theorem Vj{t:Int}{p q:List Int}:q∈PK (t::p) ↔ ∃x∈Jw t,∃r∈PK p,q=x::r:=by
 unfold PK;rw[xu,Qe,List.mem_flatMap];constructor
 .rintro⟨x,hx,h⟩;obtain⟨r,hr,e⟩:=Xe.mp h;exact⟨x,hx,r,hr,e.symm⟩
 .rintro⟨x,hx,r,hr,e⟩;exact⟨x,hx,Xe.mpr ⟨r,hr,e.symm⟩⟩
theorem j2h{t x:Int}(h:x∈Jw t):(t=2/\(x=0\/x=1\/x=2))\/(t≠2/\x=t):=by
 unfold Jw at h;split at h
 .rename_i e;simp only[xm,T4,or_false]at h;exact .inl ⟨e,h⟩
 .rename_i e;exact .inr ⟨e,xg.mp h⟩
theorem j3i:∀{p q:List Int},(∀t∈p,0<=t/\t<3)->q∈PK p->q.length=p.length/\∀t∈q,0<=t/\t<3
 |[],q,_,h=>by have e:q=[]:=xg.mp h;rw[e];exact⟨rfl,λt ht=>nomatch ht⟩
 |t::p,q,h3,h=>by
  obtain⟨x,hx,r,hr,e⟩:=Vj.mp h;obtain⟨h1,h2⟩:=j3i (λt ht=>h3 t (kj _ ht)) hr;have ht:=h3 t xr;subst e;refine⟨by rw[xx,xx,h1],λy hy=>?_⟩;rcases xm.mp hy with q|q
  .subst q;rcases j2h hx with ⟨_,z⟩|⟨_,z⟩<;>omega
  .exact h2 y q
theorem Ep:∀{p q:List Int}{s:Nat}{c:Int},q∈PK p->q.getD s 0=2->(c=0\/c=1)->q.set s c∈PK p
 |[],q,s,c,h,h2,_=>by have e:q=[]:=xg.mp h;rw[e]at h2;simp at h2
 |t::p,q,s,c,h,h2,hc=>by
  obtain⟨x,hx,r,hr,e⟩:=Vj.mp h;subst e;cases s with
  |zero =>
   rw[fb]at h2;rw[t7];refine Vj.mpr ⟨c,?_,r,hr,rfl⟩;rcases j2h hx with ⟨z,_⟩|⟨z,z2⟩
   .rw[z];unfold Jw;rw[if_pos rfl];rcases hc with q|q<;>rw[q]<;>simp
   .exact absurd (z2▸h2) z
  |succ s =>rw[iX]at h2;rw[t8];exact Vj.mpr ⟨x,hx,_,Ep hr h2 hc,rfl⟩
theorem j23:∀{p:List Int},p∈PK p
 |[]=>xg.mpr rfl
 |t::p=>by
  refine Vj.mpr ⟨t,?_,p,j23,rfl⟩;unfold Jw;split
  .rename_i e;rw[e];simp
  .exact xg.mpr rfl
theorem Ry:∀{p:List Int},(∀t∈p,0<=t/\t<3)->(PK p).Pairwise λx y=>qw x<qw y
 |[],_=>List.pairwise_singleton _ _
 |t::p,h3=>by
  have h3':∀t∈p,0<=t/\t<3:=λt ht=>h3 t (kj _ ht);have ih:=Ry h3';have bd:∀r∈PK p,0<=qw r/\qw r<3^p.length/\r.length=p.length:=λr hr=>by obtain⟨h1,h2⟩:=j3i h3' hr;obtain⟨b1,b2⟩:=W2 h2;rw[h1]at b2;exact⟨b1,b2,h1⟩
  have one:∀c:Int,((PK p).map (c :: ·)).Pairwise λx y=>qw x<qw y:=λc=>by rw[jY];refine ih.imp_of_mem λ{x y} hx hy h=>?_;rw[qw,qw,(bd x hx).2.2,(bd y hy).2.2];omega
  have two:∀{c d:Int},c<d->∀x∈(PK p).map (c :: ·),∀y∈(PK p).map (d :: ·),qw x<qw y:=λ{c d} hcd x hx y hy=>by
   obtain⟨r,hr,rfl⟩:=Xe.mp hx;obtain⟨r',hr',rfl⟩:=Xe.mp hy;obtain⟨b1,b2,b3⟩:=bd r hr;obtain⟨d1,d2,d3⟩:=bd r' hr';show c*3^r.length+qw r<d*3^r'.length+qw r';rw[b3,d3];have:c*3^p.length+3^p.length<=d*3^p.length:=by have h:=Int.mul_le_mul_of_nonneg_right (show c+1<=d by omega) (show(0:Int)<=3^p.length by exact lW (cB (by decide)));rw[Int.add_mul,iY]at h;exact h
   omega
  by_cases e:t=2
  .have ek:PK (t::p)=(PK p).map (0 :: ·)++((PK p).map (1 :: ·)++(PK p).map (2 :: ·)):=by unfold PK;rw[xu,Qe,e];simp[Jw]
   rw[ek];refine List.pairwise_append.mpr ⟨one 0,List.pairwise_append.mpr ⟨one 1,one 2,two (by decide)⟩,λx hx y hy=>?_⟩;rcases Pq.mp hy with q|q
   .exact two (by decide) x hx y q
   .exact two (by decide) x hx y q
  .have ek:PK (t::p)=(PK p).map (t :: ·):=by unfold PK;rw[xu,Qe];simp[Jw,e]
   rw[ek];exact one t
theorem j8f{p:List Int}(h3:∀t∈p,0<=t/\t<3):(PK p).Nodup:=(Ry h3).imp λh e=>by rw[e]at h;omega
theorem j8g{p r:List Int}{i:Nat}(h3:∀t∈p,0<=t/\t<3)(hi:i<(PK p).length)(hr:r∈PK p)(hv:qw r<qw (PK p)[i]):r∈(PK p).take i:=by
 obtain⟨j,hj,rfl⟩:=Te.mp hr;have hs:=List.pairwise_iff_getElem.mp (Ry h3);have:j<i:=by
  rcases eC j i with q|q
  .exact q
  .rcases Nat.eq_or_lt_of_le q with q|q
   .subst q;omega
   .have:=hs i j hi hj q;omega
 exact Te.mpr ⟨j,by rw[Xl];omega,List.getElem_take⟩
theorem Ww{f:List Int->D}:∀{ks:List (List Int)} {q:List Int},q∈ks->vq ks (ks.map f) q=a3 (f q)
 |k::ks,q,h=>by
  rw[xu,vq];by_cases e:k=q
  .rw[if_pos e,e]
  .rw[if_neg e];exact Ww ((xm.mp h).resolve_left λz=>e z.symm)
theorem j5n:∀{p:List Int},(PK p).length<=3^p.length
 |[]=>X3 _
 |t::p=>by
  have ih:=j5n (p:=p);by_cases e:t=2
  .have ek:PK (t::p)=(PK p).map (0 :: ·)++((PK p).map (1 :: ·)++(PK p).map (2 :: ·)):=by unfold PK;rw[xu,Qe,e];simp[Jw]
   rw[ek,X6,X6,xj,xj,xj,xx,bZ];omega
  .have ek:PK (t::p)=(PK p).map (t :: ·):=by unfold PK;rw[xu,Qe];simp[Jw,e]
   rw[ek,xj,xx,bZ];omega
theorem j5o:∀{m:Nat}{q:List Int},q.length=m->(∀t∈q,0<=t/\t<3)->q∈PK (ah m 2)
 |0,q,h,_=>by rw[List.length_eq_zero_iff.mp h];exact xg.mpr rfl
 |m+1,[],h,_=>by cases h
 |m+1,x::q,h,h3=>by
  have hx:=h3 x xr;refine Vj.mpr ⟨x,?_,q,j5o (by simpa using h) (λt ht=>h3 t (kj _ ht)),rfl⟩;have:x=0\/x=1\/x=2:=by omega
  unfold Jw;rw[if_pos rfl];rcases this with e|e|e<;>rw[e]<;>simp
theorem j6o{p pr a:List Int}{m:Nat}(hp:p.length=m)(hp3:∀t∈p,0<=t/\t<3):vq (PK (ah m 2)) (((PK (ah m 2)).map (Wp pr a m)).map D.int) p=a3 (.int (Wp pr a m p)):=by rw[Xc];exact Ww (f:=λq=>D.int (Wp pr a m q)) (j5o hp hp3)
theorem j5z{f1 f2:En->Option D}{A B C:D}{L:List (List Int)}{W:List Int->Int}{op:List Int->Bool}(hm:L.length<=1000000)(nd:L.Nodup)
  (h1:∀(q:List Int)(s5:Sv),q∈L->f1 [.val A,.val B,.val C,.un,.val (.tup (q.map D.int)),s5]=a3 (.bl (!op q)))
  (h2:∀(i:Nat)(hi:i<L.length),f2 [.val A,.val B,.val C,.val (.dct (L.take i) (((L.take i).map W).map D.int)),.val (.tup (L[i].map D.int)),.val (.bl (!op L[i]))]=a3 (.int (W L[i]))) :
  ∀(r i:Nat)(s4 s5:Sv),i+r=L.length->Vu f1 f2 3 4 5 (zu (L.drop i)) [.val A,.val B,.val C,.un,s4,s5] (L.take i) ((L.take i).map W)=a3 (L,L.map W):=by
 intro r;induction r with
 |zero =>intro i s4 s5 e;rw[Nat.add_zero]at e;rw[List.drop_of_length_le nofun,Tj nofun];rfl
 |succ r ih =>
  intro i s4 s5 e;have hi:i<L.length:=by omega
  have ed:L.drop i=L[i]::L.drop (i+1):=c7 hi;have et:L.take (i+1)=L.take i++[L[i]]:=by rw[dE,kh hi];rfl
  have nc:(L.take i).contains L[i]=a4:=by
   have nd:=nd;rw[<-iI i L,ed]at nd;have:=(List.nodup_append.mp nd).2.2;cases z:(L.take i).contains L[i] with
   |false=>rfl
   |true=>exact absurd rfl (this _ (by simpa using z) _ xr)
  have ll:(L.take i).length<aq:=lt_size (by rw[Xl];omega);have g:=ih (i+1) (.val (.tup (L[i].map D.int))) (.val (.bl (!op L[i]))) nofun
  rw[et,Xp,xu,Ph]at g;rw[ed,zu,xu,<-zu,Vu];simp only[jn,Qi,t7,t8,h1 _ _ (Xy hi),h2 i hi];rw[if_pos ⟨nc,ll⟩];exact g
theorem j30{n m:Nat}{ws:List af}{a pr p:List Int}(hw:ws.length=m)(hm:1<=m/\m<=6)(ha:a.length=2^m)(h01:∀x∈a,x=0\/x=1)(hr:pr.length=m)(hp:p.length=m)(hp3:∀t∈p,0<=t/\t<3) :
  evP 1000 G T (n+6) "numbers_within" [jn p,qD ws a,.fn "least_numbers" [.fn "worst_cost_of_ask" [.lst (pr.map D.int)]]]=.val (.dct (PK p) (((PK p).map (Wp pr a m)).map D.int)):=by
 rw[je (F:=Ze) (by rfl) rfl];simp only[Ze,Jy,enter];have pk:evP 1000 G T (n+5) "parts_in" [jn p]=.fresh (zu (PK p)):=by rw[Et (n:=n+3) nofun,Yl];rfl
 have p3:=jlt hm.2;have pl:=j5n (p:=p);rw[hp]at pl;have pok:∀q∈PK p,q.length=m/\∀t∈q,0<=t/\t<3:=λq hq=>by rw[<-hp];exact j3i hp3 hq
 have hd:=j5z (f1:=λρ=>stOf (ev (evP 1000 G T (n+5)) G (.not (.isN (.call "settled_by" (.cons (.var 1) (.cons (.var 4) .nil))))) ρ))
  (f2:=λρ=>stOf (ev (evP 1000 G T (n+5)) G (.ite (.var 5) (.lit (.int 0)) (.callV 2 (.cons (.var 3) (.cons (.var 4) .nil)))) ρ))
  (A:=jn p) (B:=qD ws a) (C:=.fn "least_numbers" [.fn "worst_cost_of_ask" [.lst (pr.map D.int)]]) (L:=PK p) (W:=Wp pr a m) (op:=opB a m) nofun (j8f hp3)
  (λq s5 hq=>by
   have sp:evP 1000 G T (n+5) "settled_by" [.tup [.tup (ws.map D.str),.tup (a.map D.int)],jn q]=.val (stD a q m):=Ru (n:=n) hm ha (pok q hq).1 (pok q hq).2
   simp only[jn]at sp
   simp only[qD]
   ext
   rw[sp]
   ext
   simp only[opB])
  (λi hi=>by
   have hq:=Xy hi
   obtain⟨q1,q2⟩:=pok _ hq
   cases z:opB a m (PK p)[i] with
   |false =>
    simp only[Bool.not_false]
    ext
    rw[ja9 q1 q2 z]
   |true =>
    simp only[Bool.not_true]
    have sub:∀(s:Nat)(c:Int),s<(PK p)[i].length->(PK p)[i].getD s 0=2->(c=0\/c=1)->vq ((PK p).take i) (((((PK p).take i).map (Wp pr a m))).map D.int) ((PK p)[i].set s c)=a3 (.int (Wp pr a m ((PK p)[i].set s c))):=λs c hs h2 hc=>by
     rw[Xc]
     refine Ww (f:=λq=>D.int (Wp pr a m q)) (j8g hp3 hi (Ep hq h2 hc) ?_)
     rw[Fw hs,h2]
     have:(0:Int)<3^((PK p)[i].length-1-s):=cB (by decide)
     rcases hc with e|e<;>subst e<;>omega
    have L:=j67 (n:=n) (p:=(PK p)[i]) (pr:=pr) (ks:=(PK p).take i) (ns:=((PK p).take i).map (Wp pr a m)) (V0:=λs=>Wp pr a m ((PK p)[i].set s 0)) (V1:=λs=>Wp pr a m ((PK p)[i].set s 1))
     nofun nofun (by rw[q1];exact Do h01 q1 q2 z) (λs hs h2=>⟨sub s 0 hs h2 (.inl rfl),sub s 1 hs h2 (.inr rfl)⟩)
    have wo:=j7i (pr:=pr) q1 q2 z
    rw[q1,<-wo]at L
    simp only[jn]at L
    ext
    rw[j9u (by rw[Jm,Bh,Jm,j00];rfl)]
    simp only[cO,cW]
    rw[L]
    ext)
  (PK p).length 0 .un .un (bY _)
 have hi:ev (evP 1000 G T (n+5)) G (.seq (.call "parts_in" (.cons (.var 0) .nil))) [.val (jn p),.val (qD ws a),.val (.fn "least_numbers" [.fn "worst_cost_of_ask" [.lst (pr.map D.int)]]),.un,.un,.un]=a3 (.i (zu (PK p))):=by ext;rw[pk];ext
 have ru:=j5e (fu:=1000) (Γ:=evP 1000 G T (n+5)) (G:=G) (ρ:=[.val (jn p),.val (qD ws a),.val (.fn "least_numbers" [.fn "worst_cost_of_ask" [.lst (pr.map D.int)]]),.un,.un,.un]) (x:=3) (t:=4) (y:=5) ⟨by simp,by simp,by simp,by decide,by decide,by decide⟩ hi hd;exact congrArg fin ru
theorem Vt{n m:Nat}{ws:List af}{a pr p:List Int}(hw:ws.length=m)(hm:1<=m/\m<=6)(ha:a.length=2^m)(h01:∀x∈a,x=0\/x=1)(hr:pr.length=m)(hp:p.length=m)(hp3:∀t∈p,0<=t/\t<3) :
  evP 1000 G T (n+7) "least_numbers" [jn p,qD ws a,.fn "worst_cost_of_ask" [.lst (pr.map D.int)]]=.val (.dct (PK p) (((PK p).map (Wp pr a m)).map D.int)):=by
 rw[je (F:=Zv) (by rfl) rfl];simp only[Zv,Ql,enter];ext;rw[j30 (n:=n) hw hm ha h01 hr hp hp3,jbz (Bh ..)];ext
noncomputable def Ut(p:List Int):Nat:=p.countP λt=>t==2
theorem j50 {n:Nat} {d:D}:evP 1000 G T (n+1) "telling" [d]=.val (.tup [.str "tell",d]):=by rw[je (F:=Ws) (by rfl) rfl];simp only[Ws,Ym,enter];ext
theorem ja7 {n:Nat} {x y z:D}:evP 1000 G T (n+1) "asking" [x,y,z]=.val (.tup [.str "ask",x,y,z]):=by rw[je (F:=M8) (by rfl) rfl];simp only[M8,Uq,enter];ext;rw[show Yt (a3 (W.a [Rk.e (.str "ask"),Rk.e x,Rk.e y,Rk.e z]))=a3 (.v (.e (.tup [.str "ask",x,y,z])))from rfl];ext
theorem j54{a p:List Int}{m:Nat}(h:opB a m p=a4):∃b:Int,stD a p m=.int b:=by
 unfold opB at h;unfold stD Eh at h ⊢;split
 .exact⟨_,rfl⟩
 .rename_i h1;rw[if_neg h1]at h;split
  .exact⟨_,rfl⟩
  .rename_i h0;rw[if_neg h0]at h;cases h
theorem jbi{a p:List Int}{m:Nat}(h:opB a m p=a7):stD a p m=.non:=by
 unfold opB at h;unfold stD Eh at h ⊢;split at h
 .cases h
 .rename_i h1;rw[if_neg h1];split at h
  .cases h
  .rename_i h0;rw[if_neg h0]
theorem Oe{ws:List af}{a pr p:List Int}{m n:Nat}(hm:1<=m/\m<=6)(ha:a.length=2^m)(hp:p.length=m)(hp3:∀t∈p,0<=t/\t<3)(ho:opB a m p=a4) :
  ∃pl,Cy ws pr a m pl p/\evP 1000 G T (n+6) "least_plan_at" [jn p,qD ws a,.fn "worst_cost_of_ask" [.lst (pr.map D.int)],.dct (PK (ah m 2)) (((PK (ah m 2)).map (Wp pr a m)).map D.int)]=.val (pD pl):=by
 have sp:evP 1000 G T (n+5) "settled_by" [.tup [.tup (ws.map D.str),.tup (a.map D.int)],jn p]=.val (stD a p m):=Ru (n:=n) hm ha hp hp3;obtain⟨b,eb⟩:=j54 ho;refine⟨.tell b,eb,?_⟩;rw[eb]at sp;simp only[jn]at sp;rw[je (F:=Jh) (by rfl) rfl];simp only[Jh,Ji,enter,qD,jn];ext;erw[sp,j50];rfl
theorem jc7{ws:List af}{a pr:List Int}{m:Nat}(hw:ws.length=m)(hm:1<=m/\m<=6)(ha:a.length=2^m)(h01:∀x∈a,x=0\/x=1)(hr:pr.length=m):∀(k n:Nat)(p:List Int),Ut p=k->p.length=m->(∀t∈p,0<=t/\t<3) ->
  ∃pl,Cy ws pr a m pl p/\evP 1000 G T (n+k+6) "least_plan_at" [jn p,qD ws a,.fn "worst_cost_of_ask" [.lst (pr.map D.int)],.dct (PK (ah m 2)) (((PK (ah m 2)).map (Wp pr a m)).map D.int)]=.val (pD pl):=by
 intro k;induction k with
 |zero =>
  intro n p hk hp hp3;cases ho:opB a m p with
  |true =>have ne:=Do h01 hp hp3 ho;have:=Eu p;rw[hp]at this;rw[show(p.countP λt=>t==2)=0 from hk]at this;exact absurd (List.length_eq_zero_iff.mp this) ne
  |false=>exact Oe (n:=n+0) hm ha hp hp3 ho
 |succ k ih =>
  intro n p hk hp hp3;cases ho:opB a m p with
  |false=>exact Oe (n:=n+(k+1)) hm ha hp hp3 ho
  |true =>
   have sp:evP 1000 G T (n+k+6) "settled_by" [.tup [.tup (ws.map D.str),.tup (a.map D.int)],jn p]=.val (stD a p m):=Ru (n:=n+k+1) hm ha hp hp3;rw[jbi ho]at sp;obtain⟨s,hs,mn,ce⟩:=Rn (n:=n+k+2) (p:=p) (pr:=pr) (ks:=PK (ah m 2)) (ns:=(PK (ah m 2)).map (Wp pr a m)) (V0:=λs=>Wp pr a m (p.set s 0)) (V1:=λs=>Wp pr a m (p.set s 1)) nofun nofun (by rw[hp];exact Do h01 hp hp3 ho)
    (λs _ _=>⟨j6o (V3 hp hp3 (.inl rfl)).1 (V3 hp hp3 (.inl rfl)).2,j6o (V3 hp hp3 (.inr rfl)).1 (V3 hp hp3 (.inr rfl)).2⟩)
   rw[hp]at hs mn ce;obtain⟨q1,q2⟩:=Xz.mp hs;have hs':=Xf.mp q1;have h2:p.getD s 0=2:=of_decide_eq_true q2;have c0:Ut (p.set s 0)+1=Ut p:=Lz nofun h2 (.inl rfl);have c1:Ut (p.set s 1)+1=Ut p:=Lz nofun h2 (.inr rfl);obtain⟨pl0,b0,e0⟩:=ih n (p.set s 0) nofun (V3 hp hp3 (.inl rfl)).1 (V3 hp hp3 (.inl rfl)).2;obtain⟨pl1,b1,e1⟩:=ih n (p.set s 1) nofun (V3 hp hp3 (.inr rfl)).1 (V3 hp hp3 (.inr rfl)).2;have t0:=Uc (n:=n+k+5) (p:=p) (s:=s) (v:=0) nofun nofun h2;have t1:=Uc (n:=n+k+5) (p:=p) (s:=s) (v:=1) nofun nofun h2;have gw:ws[s]?=a3 (ws[s]'nofun):=kh nofun
   have ga:atI (ws.map D.str) (s:Int)=a3 (.str (ws[s]'nofun)):=Y7 (by rw[X7,gw];rfl);refine⟨.ask (ws[s]'nofun) pl0 pl1,⟨ho,s,hs,gw,(j7i hp hp3 ho).trans mn,b0,b1⟩,?_⟩;simp only[jn,qD]at sp ce e0 e1 t0 t1 ⊢;rw[show n+(k+1)+6=(n+k+6)+1 by omega,je (F:=Jh) (by rfl) rfl];simp only[Jh,Ji,enter];ext;erw[sp,ce,at1,t0];rw[z9 rfl,e0];ext;rw[t1];ext;rw[z9 rfl,e1];ext;erw[at0,ga,ja7];rfl
theorem Cu(m:Nat):∀t∈ah m (2:Int),0<=t/\t<3:=λt ht=>by rw[(Tc.mp ht).2];decide
theorem j8r{n m:Nat}{ws:List af}{a pr:List Int}(hw:ws.length=m)(hm:1<=m/\m<=6)(ha:a.length=2^m)(h01:∀x∈a,x=0\/x=1)(hr:pr.length=m) :
  ∃pl,Cy ws pr a m pl (ah m 2)/\evP 1000 G T (n+13) "least_plan" [qD ws a,.fn "worst_cost_of_ask" [.lst (pr.map D.int)]]=.val (pD pl):=by
 have t2:Ut (ah m 2)<=6:=Xi List.countP_le_length (by rw[Py];exact hm.2);obtain⟨pl,hb,e⟩:=jc7 hw hm ha h01 hr (Ut (ah m 2)) (n+6-Ut (ah m 2)) (ah m 2) rfl (Py ..) (Cu m);refine⟨pl,hb,?_⟩;rw[show n+6-Ut (ah m 2)+Ut (ah m 2)+6=n+12 by omega]at e;have ao:=Mp (n:=n+11) (a:=a) hm hw;have nm:=Vt (n:=n+5) hw hm ha h01 hr (Py ..) (Cu m);rw[je (F:=Yc) (by rfl) rfl];simp only[Yc,Zq,enter];ext;erw[ao,nm];rw[z9 rfl,e];ext
theorem j8e {n m:Nat} {ws:List af} {a pr:List Int} {d:D} (hw:ws.length=m) (hm:1<=m/\m<=6) (ha:a.length=2^m) (h01:∀x∈a,x=0\/x=1) (hr:pr.length=m) (hp:evP 1000 G T (n+12) "prices_told" [.int m,d]=.fresh (pr.map D.int)) :
  ∃pl,Cy ws pr a m pl (ah m 2)/\evP 1000 G T (n+14) "worst_plan" [qD ws a,d]=.val (pD pl):=by
 obtain⟨pl,hb,e⟩:=j8r (n:=n) hw hm ha h01 hr;refine⟨pl,hb,?_⟩;rw[je (F:=Qo) (by rfl) rfl];simp only[Qo,Qp,enter];ext;erw[Vy (n:=n+11) hw hp,e]
theorem Ly(a:List af):D.depL (a.map D.str)<=90:=by
 induction a with
 |nil=>simp[D.depL]
 |cons x a ih=>rw[xu,D.depL];simp[D.dep];exact ih
theorem j69:∀{ws:List af}{p:af},p∈ws->ixD (.str p) (ws.map D.str)=a3 (ws.idxOf p)
 |[],p,h=>by cases h
 |w::ws,p,h=>by
  unfold ixD;rw[xu];dsimp only;rw[j0k];by_cases z:w=p
  .subst z;simp
  .have z':(w==p)=a4:=by simpa using z
   rw[z',if_neg (by simp),j69 (by simpa [c8 z]using h),List.idxOf_cons,z'];rfl
theorem Rz{ws:List af}{p:af}(s:List D->D)(hs:s=D.tup\/s=D.lst):Zf .notin (.str p) (s (ws.map D.str))=a3 (!ws.contains p):=by
 have e:((ws.map D.str).any λe=>deq e (.str p))=ws.contains p:=by
  induction ws with
  |nil=>rfl
  |cons x ws ih=>rw[xu,cj,ih,j0k,jH,Bool.beq_comm]
 have hd:=Ly ws;rcases hs with z|z<;>subst z<;>simp only[Zf,D.sqv]<;>rw[if_pos ⟨hd,by simp[D.dep]⟩,e]
theorem jl1{ws:List af}{p:af}(hp:p∈ws):Dj (a3 (.v (.e (.tup (ws.map D.str))))) (a3 (.v (.e (.str p))))=a3 (.v (.e (.int ((ws.idxOf p:Nat):Int)))):=by
 have hdl:D.depL (ws.map D.str)<=90/\(D.str p).dep<=90:=⟨Ly ws,by simp[D.dep]⟩
 simp only[Dj,Rk.d,if_pos hdl,j69 hp];rfl
theorem j1v {fu n:Nat} {ws:List af} {a:List Int} {p:af} (hp:p∈ws):evP fu G T (n+1) "spot_of" [qD ws a,.str p]=.val (.int ((ws.idxOf p:Nat):Int)):=by rw[je (F:=V6) (by rfl) rfl];simp only[V6,Vc,enter,qD];have hc:ws.contains p=a7:=Tt.mpr hp;ext;rw[at0];ext;rw[Rz _ (.inl rfl),hc];ext;erw[at0,jl1 hp]
theorem j6c{ws:List af}{s:Nat}(nd:ws.Nodup)(h:s<ws.length):ws.idxOf ws[s]=s:=(kq nd).mp (List.getElem_idxOf (List.idxOf_lt_length_iff.mpr (Xy h)))
noncomputable def fo(pr a:List Int)(m:Nat)(p:List Int)(s:Nat):Int:=if Wp pr a m (p.set s 0)>Wp pr a m (p.set s 1)then 0 else 1
theorem jd4{n m s:Nat}{ws:List af}{a pr p:List Int}{d:D}(nd:ws.Nodup)(hw:ws.length=m)(hm:1<=m/\m<=6)(ha:a.length=2^m)(h01:∀x∈a,x=0\/x=1)(hr:pr.length=m)(hp:p.length=m)(hp3:∀t∈p,0<=t/\t<3)(hs:s<m)(h2:p.getD s 0=2)
  (hd:evP 1000 G T (n+6) "prices_told" [.int m,d]=.fresh (pr.map D.int)) :
  evP 1000 G T (n+8) "foe_answer" [qD ws a,jn p,.str (ws.getD s ""),d]=.val (.int (fo pr a m p s)):=by
 have gs:ws.getD s "" = ws[s]:=by rw[km,kh nofun];rfl
 have ix:ws.idxOf (ws.getD s "")=s:=by rw[gs];exact j6c nd nofun
 have so:=j1v (fu:=1000) (n:=n+6) (ws:=ws) (a:=a) (p:=ws.getD s "") (by rw[gs];exact Xy _);rw[ix]at so;have cf:=Vy (n:=n+5) (a:=a) hw hd;have nm:=Vt (n:=n) hw hm ha h01 hr hp hp3;have sub:∀(c:Int),(c=0\/c=1)->vq (PK p) (((PK p).map (Wp pr a m)).map D.int) (p.set s c)=a3 (.int (Wp pr a m (p.set s c))):=λc hc=>by rw[Xc];exact Ww (f:=λq=>D.int (Wp pr a m q)) (Ep j23 h2 hc)
 have bh:=Ol (n:=n+5) (p:=p) (s:=s) (ks:=PK p) (ns:=(PK p).map (Wp pr a m)) nofun nofun h2 (sub 0 (.inl rfl)) (sub 1 (.inr rfl));rw[je (F:=zf) (by rfl) rfl];simp only[zf,J0,enter];simp only[jn]at nm bh ⊢;ext;erw[so,cf,nm,bh];rw[at0,at1];unfold fo;by_cases h:Wp pr a m (p.set s 0)>Wp pr a m (p.set s 1)
 .rw[if_pos h];ext
 .rw[if_neg h];ext
theorem gPr:G (bang "WrongPrices")=a3 (.lst [.str "WrongPrices"]):=by rfl
theorem j3b{a:Int}(h:-18446744073709551616<a/\a<18446744073709551616):q8 (.int a)=a3 (aR (toString a)):=by unfold q8;exact if_pos h
theorem jj4{a b c:Int}{ρ:En}(ha:-18446744073709551616<a/\a<18446744073709551616)(hb:-18446744073709551616<b/\b<18446744073709551616)(hc:-18446744073709551616<c/\c<18446744073709551616) :
  Wh "WrongPrices" (Uv (a3 (.a [.e (.str "prices are "),.e (.int a),.e (.str " numbers from "),.e (.int b),.e (.str " to "),.e (.int c)]))) (G (bang "WrongPrices")) ρ=.err "WrongPrices" ρ:=by
 have s1:q8 (.str "prices are ")=a3 (aR "prices are "):=by unfold q8;exact if_pos (by decide)
 have s2:q8 (.str " numbers from ")=a3 (aR " numbers from "):=by unfold q8;exact if_pos (by decide)
 have s3:q8 (.str " to ")=a3 (aR " to "):=by unfold q8;exact if_pos (by decide)
 rw[gPr,j0h (ys:=["prices are ",aR (toString a)," numbers from ",aR (toString b)," to ",aR (toString c)]) (by simp only[xx,Pr];omega) (by
  simp only[zj,Rk.d,j3b ha,j3b hb,j3b hc,s1,s2,s3])]
 rfl
theorem j5j {n m:Nat} {pr:List Int} (hl:pr.length<=1000) (hm:m<=6) (h:pr.length≠m\/pr.all (btw 1)=a4):evP 1000 G T (n+2) "prices_told" [.int m,.lst (pr.map D.int)]=.err "WrongPrices":=by
 rw[je (F:=v9) (by rfl) rfl];simp only[v9,Jd,enter];have rai:∀ρ:En,Wh "WrongPrices" (Uv (a3 (.a [.e (.str "prices are "),.e (.int m),.e (.str " numbers from "),.e (.int 1),.e (.str " to "),.e (.int 1000000)]))) (G (bang "WrongPrices")) ρ=.err "WrongPrices" ρ:=λρ=>jj4 nofun nofun nofun
 by_cases c:pr.length=m
 .have h2:=h.resolve_left (by simpa using c);ext;simp only[gLP];ext;rw[Ml hl,h2];ext;simp only[gLP,gGN,Dw,Ce];rw[rai];ext
 .ext;simp only[gLP,gGN,Dw,Ce];rw[rai];ext
theorem gNA:G (bang "NoAsk")=a3 (.lst [.str "NoAsk"]):=by rfl
theorem gNP:G (bang "NoPlace")=a3 (.lst [.str "NoPlace"]):=by rfl
theorem iNA:(G (bang "NoAsk")).isSome=a7:=by rfl
theorem iNP:(G (bang "NoPlace")).isSome=a7:=by rfl
theorem jdg{Γ:af->List D->Rc}{a b:Ex}{ρ:En}:er Γ G (.dget a b) ρ=erN (er Γ G a ρ) (ev Γ G a ρ) (er Γ G b ρ):=by rw[er];rfl
theorem jdh{Γ:af->List D->Rc}{i:Nat}{e it:Ex}{ρ:En}{d:D}{ds:List D}(h:ev Γ G it ρ=a3 (.i (d::ds)))(hf:Wr [i] ρ=a7):er Γ G (.exc (.comp [i] e it .nil)) ρ=er Γ G e (ρ.set i (.val d)):=by rw[er,h];exact if_pos hf
theorem jbd:∀m:Fin 5,∀p∈Zh m.val,(tupS p).length<=100:=by decide +kernel
theorem j3a{m:Nat}{p:List Int}(hm:m<=4)(hp:p∈Zh m)(hp3:∀t∈p,0<=t/\t<3):∃z,q8 (.tup (p.map D.int))=a3 z:=by have tl:=jbd ⟨m,by omega⟩ p hp;refine⟨tupS p,?_⟩;simp only[q8,Qi];rw[if_pos ⟨λi hi=>by have:=hp3 i hi;omega,Xi tl (by decide)⟩]
theorem Ue{r:Rk}{rs:List Rk}{y:af}{ys:List af}(h:q8 r.d=a3 y)(h2:zj rs=a3 ys):zj (r::rs)=a3 (y::ys):=by unfold zj;rw[h,h2]
theorem j57{y:af}(h:y.length<=10000):q8 (.str y)=a3 y:=by unfold q8;exact if_pos h
theorem jej{i:Int}(h:-18446744073709551616<i/\i<18446744073709551616):q8 (.int i)=a3 (aR (toString i)):=by unfold q8;exact if_pos h
theorem jf1 {s:Nat} {d:D} (hs:s<100) (sh:∃z,q8 d=a3 z) (ρ:En):Wh "NoAsk" (Uv (a3 (.a [.e (.str "nothing can be asked at spot "),.e (.int (s:Int)),.e (.str " of "),.e d]))) (G (bang "NoAsk")) ρ=.err "NoAsk" ρ:=by
 obtain⟨z,s4⟩:=sh;have e:zj [.e (.str "nothing can be asked at spot "),.e (.int (s:Int)),.e (.str " of "),.e d]=a3 ([("nothing can be asked at spot ":af),aR (toString (s:Int)),(" of ":af),z]:List af) :=
  Ue (r:=.e (.str "nothing can be asked at spot ")) (j57 (y:="nothing can be asked at spot ") (by decide +kernel)) (Ue (r:=.e (.int (s:Int))) (jej nofun) (Ue (r:=.e (.str " of ")) (j57 (y:=" of ") (by decide +kernel)) (Ue (r:=.e d) (rs:=[]) (ys:=[]) s4 (by rw[zj]))))
 rw[gNA,j0h (by simp) e,j5h]
theorem j7t {n m s:Nat} {p:List Int} {c:Int} (hm:m<=4) (hp:p∈Zh m) (hl:p.length=m) (hp3:∀t∈p,0<=t/\t<3) (hs:s<m) (h2:p.getD s 0≠2):evP 1000 G T (n+1) "told_further" [jn p,.int (s:Int),.int c]=.err "NoAsk":=by
 have rai:=jf1 (s:=s) (d:=.tup (p.map D.int)) nofun (j3a hm hp hp3)
 rw[je (F:=Jq) (by rfl) rfl];simp only[Jq,Js,enter,jn];ext;rw[j3z nofun];simp only[gN];ext;rw[rai];ext
theorem j9m{i:Nat}{c e:En->Option W}{z:Bool}{d:D}{ds:List D}{ρ:En}(hc:c (ρ.set i (.val d))=a3 (.a []))(he:e (ρ.set i (.val d))=a5):Ff [i] (a3 (.i (d::ds))) c e z ρ=a5:=by
 have t:Ju [i] c e ρ d=a5:=by simp[Ju,za,hc,he]
 have t2:Jr (Ju [i] c e ρ) (d::ds)=a5:=by rw[Jr,t]
 simp only[Ff,t2,Option.bind_none,ite_self]
theorem iWP:(G (bang "WrongPrices")).isSome=a7:=by rfl
theorem j4e {n m s:Nat} {p:List Int} {ks:List (List Int)} {vs:List D} (hm:m<=4) (hp:p∈Zh m) (hl:p.length=m) (hp3:∀t∈p,0<=t/\t<3) (hs:s<m) (h2:p.getD s 0≠2):evP 1000 G T (n+2) "numbers_behind" [.dct ks vs,jn p,.int (s:Int)]=.err "NoAsk":=by
 have tb:evP 1000 G T (n+1) "told_further" [jn p,.int (s:Int),.int 0]=.err "NoAsk":=j7t (n:=n) hm hp hl hp3 hs h2;rw[je (F:=J6) (by rfl) rfl];simp only[J6,J8,enter];ext;simp only[gA];ext;rw[j9m (by rw[j6j]) (by
  ext
  rw[tb]
  ext
  rfl)]
 ext;rw[jdh (d:=.int 0) (ds:=[.int 1]) (by ext;simp only[gA];ext) (by rfl)];simp only[jdg,Qu,Qt,Zk,Zj,vp];ext;simp only[vp,Vx,V8,xu,Ph,Rk.d];rw[tb];simp only[Vw iNA];ext
theorem j46 {n m:Nat} {ws:List af} {a bad:List Int} (hw:ws.length=m) (hm:m<=6) (hl:bad.length<=1000) (h:bad.length≠m\/bad.all (btw 1)=a4):evP 1000 G T (n+3) "worst_cost_of_ask" [qD ws a,.lst (bad.map D.int)]=.err "WrongPrices":=by have pt:evP 1000 G T (n+2) "prices_told" [.int (m:Int),.lst (bad.map D.int)]=.err "WrongPrices":=j5j hl hm h;rw[je (F:=zr) (by rfl) rfl];simp only[zr,zx,enter,qD];ext;rw[at0];ext;rw[hw,pt];ext;simp only[Qu,Qt,Zk,Zj,jhg,vp];ext;rw[at0];ext;simp only[vp,Vx,V8,xu,Ph,Rk.d,hw];rw[pt];simp only[Vw iWP];ext
theorem j7v {fu n:Nat} {ws:List af} {a:List Int} {p:af} (hp:p∉ws) (hr:(aH p).length<=2000):evP fu G T (n+1) "spot_of" [qD ws a,.str p]=.err "NoPlace":=by
 rw[je (F:=V6) (by rfl) rfl];simp only[V6,Vc,enter,qD];have hc:ws.contains p=a4:=by
  cases e:ws.contains p with
  |false=>rfl
  |true=>exact absurd (Tt.mp e) hp
 have rai:∀ρ:En,Wh "NoPlace" (Uv (a3 (.a [.e (.str (aH p)),.e (.str " is no place of the question")]))) (G (bang "NoPlace")) ρ=.err "NoPlace" ρ:=λρ=>by
  rw[gNP,j0h (ys:=[aH p," is no place of the question"]) (by simp only[xx,Pr];omega) (by
   have e:q8 (.str (aH p))=a3 (aH p):=by unfold q8;exact if_pos (Xi hr (by decide))
   have s1:q8 (.str " is no place of the question")=a3 (aR " is no place of the question"):=by unfold q8;exact if_pos (by decide)
   simp only[zj,Rk.d,e,s1])]
  rfl
 ext;rw[at0];ext;rw[Rz _ (.inl rfl),hc];ext;erw[jet hr,rai]
theorem j94 {p:List af} {k:Nat} (h:k<p.length):atI (p.map D.str) (k:Int)=a3 (.str (p.getD k "")):=by exact Y7 (by rw[X7,kh h];simp[h])
noncomputable def up(c:Nat):Nat:=if 97<=c/\c<=122 then c-32 else c
theorem Ii:∀{l:List Nat},(∀c∈l,c<128)->cU (sL l)=sL (l.map up)
 |[],_=>by decide +kernel
 |c::l,h=>by have e:sL (c::l)=(⟨#[c]⟩:af)++sL l:=(Z0 (l:=[c]) (m:=l)).symm;rw[e,PySem.W.KOpn.upper_app,PySem.W.KOpn.upper_one (h c (xr ..)),Ii λd hd=>h d (kj _ hd)];exact Z0 (l:=[up c]) (m:=l.map up)
theorem j0d{n:Nat}(h:1<=n):az a5 (a3 (-1)) 1 n=az (a3 ((0:Nat):Int)) (a3 ((n-1:Nat):Int)) 1 n:=by
 have e:max (0:Int) (min 0 (n:Int))=0:=by omega
 have e2:((n-1:Nat):Int)=(n:Int)-1:=by omega
 have e3:max (0:Int) (min (-1+(n:Int)) (n:Int))=max (0:Int) (min ((n:Int)-1) (n:Int)):=by omega
 have e4:¬((n:Int)-1<0):=by omega
 simp[az,e,e2,e3,e4]
theorem j39{l:List Nat}(h:1<=l.length):bg (sL l) a5 (a3 (-1))=sL (l.take (l.length-1)):=by rw[Ov (a:=0) (b:=l.length-1) (by rw[vm];exact j0d h) (Ti _) nofun];simp
theorem sub_len:∀{l ws:List af},l.Nodup->(∀x∈l,x∈ws)->l.length<=ws.length
 |[],_,_,_=>Ti _
 |x::l,ws,hn,hs=>by
  have hx:=hs x (xr ..);have hn':=Xk.mp hn;have q:=sub_len (ws:=ws.erase x) hn'.2 λy hy=>by have ne:y≠x:=λz=>hn'.1 (by rw[<-z];exact hy);exact(List.mem_erase_of_ne ne).mpr (hs y (kj _ hy))
  rw[List.length_erase_of_mem hx]at q;have:=List.length_pos_of_mem hx;rw[xx];omega
noncomputable def cands(l:List Nat):List af:=[sL (l++[113]),sL (l.drop 1),sL (l.take (l.length-1)),sL (113::l),sL (l.map up),"","a","b","c","d","e"]
theorem j9p{l:List Nat}(hl:l.length<=8)(h:∀c∈l,c<128):∀y∈cands l,(aH y).length<=2000:=by
 have ok:∀l':List Nat,l'.length<=20->(∀c∈l',c<128)->(aH (sL l')).length<=2000:=λl' h1 h2=>by have:=PySem.StrLaws.reprText_len (sL l') (by rw[j5c];exact λc hc=>Xb (h2 c hc) (by decide));rw[vm]at this;omega
 intro y hy;simp only[cands,xm,T4,or_false]at hy;rcases hy with rfl|rfl|rfl|rfl|rfl|rfl|rfl|rfl|rfl|rfl|rfl
 .refine ok _ (by rw[X6];simp;omega) λc hc=>?_;rcases Pq.mp hc with z|z
  .exact h c z
  .rw[xg.mp z];decide
 .exact ok _ (by rw[pq];omega) λc hc=>h c (eQ hc)
 .exact ok _ (by rw[Xl];omega) λc hc=>h c (cS hc)
 .refine ok _ (by rw[xx];omega) λc hc=>?_;rcases xm.mp hc with z|z
  .rw[z];decide
  .exact h c z
 .refine ok _ (by rw[xj];omega) λc hc=>?_;obtain⟨d,hd,rfl⟩:=Xe.mp hc;have:=h d hd;unfold up;split<;>omega
 .exact ok [] (by decide) (λc hc=>nomatch hc)
 .exact ok [97] (by decide) (by decide)
 .exact ok [98] (by decide) (by decide)
 .exact ok [99] (by decide) (by decide)
 .exact ok [100] (by decide) (by decide)
 .exact ok [101] (by decide) (by decide)
theorem j48{ws:List af}(hw:ws.length<=4)(l:List Nat):0<((cands l).filter λy=>!ws.contains y).length:=by
 refine jW λz=>?_;have e:=List.length_eq_zero_iff.mp z;rw[List.filter_eq_nil_iff]at e;have q:(["a","b","c","d","e"]:List af).length<=ws.length:=sub_len (by decide) λy hy=>by
  have m:y∈cands l:=by simp only[xm,T4,or_false]at hy;simp only[cands,xm,T4,or_false];rcases hy with h|h|h|h|h<;>simp[h]
  have:=e y m;simpa using this
 have q:5<=ws.length:=q;omega
theorem Ez:∀F:List af,jz (F.map D.str)=a7
 |[]=>rfl
 |x::F=>by rw[xu,jz,Ez F];rfl
theorem Kh{n m:Nat}{ws:List af}{c:Int}(hw:ws.length=m)(hm:1<=m/\m<=4)(hc:∀p∈ws,∃l,p=sL l/\1<=l.length/\l.length<=8/\∀c∈l,c<128) :
  ∃y,y∉ws/\(aH y).length<=2000/\evP 1000 G T (n+1) "_law_stranger" [.lst (ws.map D.str),.int c]=.val (.str y):=by
 have hz1:=Pj c (show(m:Int)≠0 by omega);have hz2:=T3 c (show(0:Int)<m by omega);obtain⟨k,ek⟩:∃k:Nat,c%(m:Int)=(k:Int):=⟨(c%(m:Int)).toNat,by omega⟩
 have hk:k<ws.length:=by omega
 have hin:ws.getD k "" ∈ ws:=by
  have e:ws.getD k "" = ws[k]:=by simp[mS,hk]
  rw[e];exact Xy hk
 obtain⟨l,el,l1,l8,lc⟩:=hc _ hin;obtain⟨F,eF⟩:∃F,F=(cands l).filter λy=>!ws.contains y:=⟨_,rfl⟩
 have fp:0<F.length:=by rw[eF];exact j48 nofun l
 have fle:F.length<=11:=by rw[eF];exact Xi (Tq _ _) (by simp[cands])
 have hz3:=Pj (c/7) (show(F.length:Int)≠0 by omega);have hz4:=T3 (c/7) (show(0:Int)<F.length by omega);obtain⟨j,ej⟩:∃j:Nat,c/7%(F.length:Int)=(j:Int):=⟨(c/7%(F.length:Int)).toNat,by omega⟩
 have hj:j<F.length:=by omega
 have yin:F.getD j "" ∈ F:=by
  have e:F.getD j "" = F[j]:=by simp[mS,hj]
  rw[e];exact Xy hj
 have key:∀y∈F,y∈cands l/\y∉ws:=λy hy=>by rw[eF,Xz]at hy;exact⟨hy.1,by simpa using hy.2⟩
 obtain⟨yc,yw⟩:=key _ yin;refine⟨F.getD j "",yw,j9p l8 lc _ yc,?_⟩;rw[je (F:=Uy) (by rfl) rfl];simp only[Uy,Y4,enter];have sl:(sL l).length=l.length:=vm;have c1:Q7 .add (a3 (.v (.e (.str (sL l))))) (a3 (.v (.e (.str "q"))))=a3 (.v (.e (.str (sL (l++[113]))))):=by rw[j0u (by rw[sl];show l.length+1<=1000000;omega),<-Z0];rfl
 have c2:Q7 .add (a3 (.v (.e (.str "q")))) (a3 (.v (.e (.str (sL l)))))=a3 (.v (.e (.str (sL (113::l))))):=by rw[j0u (by rw[sl];show 1+l.length<=1000000;omega),show sL (113::l)=sL [113]++sL l from(Z0 (l:=[113]) (m:=l)).symm];rfl
 have d1:bg (sL l) (a3 1) a5=sL (l.drop 1):=Wf (k:=1) l1;have d2:=j39 l1;have u1:=je6 (y:=sL l) nofun
 rw[Ii lc]at u1;have mk:Zd (a3 (.a [.e (.str (sL (l++[113]))),.e (.str (sL (l.drop 1))),.e (.str (sL (l.take (l.length-1)))),.e (.str (sL (113::l))),.e (.str (sL (l.map up))),.e (.str ""),.e (.str "a"),.e (.str "b"),.e (.str "c"),.e (.str "d"),.e (.str "e")]))=a3 (.v (.o ((cands l).map D.str))):=Ni rfl (by simp[cands]);ext;rw[hw,ek,j94 hk,el];ext;rw[c1,c2,d1,d2,u1];ext;rw[mk];ext;rw[qp (l:=F.map D.str) (by rfl) (by simp[cands]) ?_ (.inr ?_)]
 .ext;rw[ej,j94 hj];ext
 .rw[eF];refine Ye λy hy=>Ij ?_ λ_=>?_
  .ext;rw[Rz _ (.inr rfl)];ext
  .ext
 .exact Ez F
theorem j3q(n:Int):lt n<128:=by
 unfold lt;have h:∀c∈letters,c<128:=by decide
 rw[km];cases e:letters[n.toNat]? with
 |none=>decide
 |some c=>exact h c (Xm e)
theorem je3{c:Int}{m k:Nat}:∀x∈wrd c m k,x<128:=by
 have hl:∀x∈Vv c,x<128:=λx hx=>by obtain⟨k,_,rfl⟩:=Xe.mp hx;exact j3q _
 have hs:∀x∈V2 c (szN c),x<128:=λx hx=>by obtain⟨k,_,rfl⟩:=Xe.mp hx;exact j3q _
 intro x hx;unfold wrd at hx;split at hx
 .split at hx
  .exact hl x (cS hx)
  .exact hl x (eQ hx)
 .rcases Pq.mp hx with z|z
  .exact hs x (cS z)
  .rcases xm.mp z with z|z
   .rw[z];exact j3q _
   .exact hs x (eQ z)
theorem j7m{c:Int}{m:Nat}(hm:m<=6):∀p∈vh c m,∃l,p=sL l/\1<=l.length/\l.length<=8/\∀c∈l,c<128:=λp hp=>by obtain⟨k,hk,rfl⟩:=Xe.mp hp;have h:=jb7 (c:=c) hm (Xf.mp hk);exact⟨_,rfl,h.1,h.2,je3⟩
theorem j51 {N:Nat} {q d:D} (h:evP 1000 G T N "worst_cost_of_ask" [q,d]=.err "WrongPrices"):evP 1000 G T (N+1) "worst_table" [q,d]=.err "WrongPrices":=by rw[je (F:=Q6) (by rfl) rfl];simp only[Q6,Q8,enter];ext;rw[h];ext;simp only[Qu,Qt,Zk,Zj,vp];ext;simp only[vp,Vx,V8,xu,Ph,Rk.d];rw[h];simp only[Vw iWP,Nz];rw[j42 (f:="least_table") (by rfl)];ext
theorem j8d {N:Nat} {q d:D} (h:evP 1000 G T N "worst_cost_of_ask" [q,d]=.err "WrongPrices"):evP 1000 G T (N+1) "worst_plan" [q,d]=.err "WrongPrices":=by rw[je (F:=Qo) (by rfl) rfl];simp only[Qo,Qp,enter];ext;rw[h];ext;simp only[Qu,Qt,Zk,Zj,vp];ext;simp only[vp,Vx,V8,xu,Ph,Rk.d];rw[h];simp only[Vw iWP,Nz];rw[j42 (f:="least_plan") (by rfl)];ext
theorem jd3 {N:Nat} {q p d:D} {x:af} {s:Int} (so:evP 1000 G T N "spot_of" [q,.str x]=.val (.int s)) (h:evP 1000 G T N "worst_cost_of_ask" [q,d]=.err "WrongPrices"):evP 1000 G T (N+1) "foe_answer" [q,p,.str x,d]=.err "WrongPrices":=by rw[je (F:=zf) (by rfl) rfl];simp only[zf,J0,enter];ext;erw[so,h];simp only[Qu,Qt,Zk,Zj,vp];ext;simp only[vp,Vx,V8,xu,Ph,Rk.d];rw[h];simp only[Vw iWP,Nz];rw[j42 (f:="least_numbers") (by rfl)];ext
theorem j1e {N:Nat} {q p d:D} {x:af} (so:evP 1000 G T N "spot_of" [q,.str x]=.err "NoPlace"):evP 1000 G T (N+1) "foe_answer" [q,p,.str x,d]=.err "NoPlace":=by rw[je (F:=zf) (by rfl) rfl];simp only[zf,J0,enter];ext;rw[so];ext;simp only[Qu,Qt,Zk,Zj,vp];ext;simp only[vp,Vx,V8,xu,Ph,Rk.d];rw[so];simp only[Vw iNP,Nz];ext
theorem j97 {N:Nat} {q p d c:D} {x:af} {s:Int} {ks:List (List Int)} {vs:List D} (so:evP 1000 G T N "spot_of" [q,.str x]=.val (.int s)) (cf:evP 1000 G T N "worst_cost_of_ask" [q,d]=.val c) (nm:evP 1000 G T N "least_numbers" [p,q,c]=.val (.dct ks vs)) (bh:evP 1000 G T N "numbers_behind" [.dct ks vs,p,.int s]=.err "NoAsk"):evP 1000 G T (N+1) "foe_answer" [q,p,.str x,d]=.err "NoAsk":=by rw[je (F:=zf) (by rfl) rfl];simp only[zf,J0,enter];ext;erw[so,cf,nm,bh];simp only[Qu,Qt,Zk,Zj,vp];ext;simp only[vp,Vx,V8,xu,Ph,Rk.d];rw[bh];simp only[Vw iNA,Nz];ext
theorem j52 {n m:Nat} {ws:List af} {a pr:List Int} {d:D} (hw:ws.length=m) (hm:1<=m/\m<=6) (ha:a.length=2^m) (h01:∀x∈a,x=0\/x=1) (hr:pr.length=m) (hp:evP 1000 G T (n+12) "prices_told" [.int m,d]=.fresh (pr.map D.int)) :
  ∃t,evP 1000 G T (n+14) "worst_table" [qD ws a,d]=.val (.tup t):=by
 refine⟨((PK (ah m 2)).map (Wp pr a m)).map D.int,?_⟩;have ao:=Mp (n:=n+11) (a:=a) hm hw;have nm:=Vt (n:=n+5) hw hm ha h01 hr (Py ..) (Cu m);have lt:evP 1000 G T (n+13) "least_table" [qD ws a,.fn "worst_cost_of_ask" [.lst (pr.map D.int)]]=.val (.tup (((PK (ah m 2)).map (Wp pr a m)).map D.int)):=by rw[je (F:=Vm) (by rfl) rfl];simp only[Vm,Zb,enter];ext;erw[ao,nm]
 rw[je (F:=Q6) (by rfl) rfl];simp only[Q6,Q8,enter];ext;erw[Vy (n:=n+11) hw hp,lt]
theorem j2t{Γ:af->List D->Rc}{f:af}{a b c d:D}:Jx Γ f (a3 (.a [.e a,.e b,.e c,.e d]))=rcW (Γ f [a,b,c,d]):=z9 rfl
section
variable{N:Nat}{a b c d:D}{x:af}{ks:List D}
theorem ref0 (hx:G (bang x)=a3 (.lst ks)) (h:evP 1000 G T N "worst_table" [a,d]=.err x):evP 1000 G T (N+1) "_law_refused" [a,b,c,d,.int 0]=.fresh ks:=by
 rw[je (F:=qz) (by rfl) rfl];simp only[qz,Jb,enter];have ix:(G (bang x)).isSome=a7:=by rw[hx];rfl
 ext;rw[h];ext;simp only[Qu,Qt,Zk,Zj,vp];ext;simp only[vp,Vx,V8,xu,Ph,Rk.d];rw[h];simp only[Vw ix];ext;rw[Oo hx];ext
theorem jlm (hx:G (bang x)=a3 (.lst ks)) (h:evP 1000 G T N "worst_plan" [a,d]=.err x):evP 1000 G T (N+1) "_law_refused" [a,b,c,d,.int 1]=.fresh ks:=by
 rw[je (F:=qz) (by rfl) rfl];simp only[qz,Jb,enter];have ix:(G (bang x)).isSome=a7:=by rw[hx];rfl
 ext;rw[h];ext;simp only[Qu,Qt,Zk,Zj,vp];ext;simp only[vp,Vx,V8,xu,Ph,Rk.d];rw[h];simp only[Vw ix];ext;rw[Oo hx];ext
theorem j8a (hx:G (bang x)=a3 (.lst ks)) (h:evP 1000 G T N "foe_answer" [a,b,c,d]=.err x):evP 1000 G T (N+1) "_law_refused" [a,b,c,d,.int 2]=.fresh ks:=by
 rw[je (F:=qz) (by rfl) rfl];simp only[qz,Jb,enter];have ix:(G (bang x)).isSome=a7:=by rw[hx];rfl
 ext;rw[j2t,h];ext;simp only[Qu,Qt,Zk,Zj,vp];ext;simp only[vp,Vx,V8,xu,Ph,Rk.d];rw[h];simp only[Vw ix];ext;rw[Oo hx];ext
theorem ok0 {v:D} (h:evP 1000 G T N "worst_table" [a,d]=.val v):evP 1000 G T (N+1) "_law_refused" [a,b,c,d,.int 0]=.fresh []:=by rw[je (F:=qz) (by rfl) rfl];simp only[qz,Jb,enter];ext;rw[h];ext
theorem ok1 {v:D} (h:evP 1000 G T N "worst_plan" [a,d]=.val v):evP 1000 G T (N+1) "_law_refused" [a,b,c,d,.int 1]=.fresh []:=by rw[je (F:=qz) (by rfl) rfl];simp only[qz,Jb,enter];ext;rw[h];ext
theorem ok2 {v:D} (h:evP 1000 G T N "foe_answer" [a,b,c,d]=.val v):evP 1000 G T (N+1) "_law_refused" [a,b,c,d,.int 2]=.fresh []:=by rw[je (F:=qz) (by rfl) rfl];simp only[qz,Jb,enter];ext;rw[j2t,h];ext
end
theorem jdm{l:List Int}{k:Nat}(h:k<=l.length):cutD (l.map D.int) a5 (a3 (k:Int))=(l.take k).map D.int:=by rw[j6s (by rw[xj];exact h),List.map_take]
theorem jdl{l:List Int}{k:Nat}(h:k<=l.length):cutD (l.map D.int) (a3 (k:Int)) a5=(l.drop k).map D.int:=by rw[j6r (by rw[xj];exact h),List.map_drop]
theorem j7w{least x:Int}{a b:List Int}(h:¬(least<=x/\x<=1000000)):((a++[x])++b).all (btw least)=a4:=by
 have:btw least x=a4:=by
  unfold btw;by_cases h1:least<=x
  .have h2:¬x<=1000000:=λz=>h ⟨h1,z⟩;simp[h2]
  .simp[h1]
 rw[kK,kK,fg,this];simp
theorem j29{c:Int}{l:Nat}(h:0<l):∃k:Nat,k<l/\c%(l:Int)=(k:Int):=by
 have h1:=Pj c (b:=(l:Int)) nofun
 have h2:=T3 c (b:=(l:Int)) nofun
 exact⟨(c%(l:Int)).toNat,by omega,by omega⟩
theorem a40{x y z u:D}:atI [x,y,z,u] 0=a3 x:=rfl
theorem a41{x y z u:D}:atI [x,y,z,u] 1=a3 y:=rfl
theorem a42{x y z u:D}:atI [x,y,z,u] 2=a3 z:=rfl
theorem a43{x y z u:D}:atI [x,y,z,u] 3=a3 u:=rfl
def Bad(l bad:List Int):Prop:=bad.length<=1000/\(bad.length≠l.length\/bad.all (btw 1)=a4)
theorem Iz {n:Nat} {l:List Int} {c:Int} (h1:1<=l.length) (h2:l.length<=100):∃bad:List Int,evP 1000 G T (n+1) "_law_spoiled" [.lst (l.map D.int),.int c]=.fresh (bad.map D.int)/\Bad l bad:=by
 obtain⟨k,hk,ek⟩:=j29 (c:=c/5) (l:=l.length) nofun
 have ch:=jdm (l:=l) (k:=k) nofun
 have cl1:=jdl (l:=l) (k:=k+1) nofun
 have ek1:((k:Int)+1)=((k+1:Nat):Int):=by omega
 have lt:(l.take k).length=k:=by rw[Xl];omega
 have ld1:(l.drop (k+1)).length=l.length-(k+1):=pq ..;have lc1:(cutD (l.map D.int) a5 (a3 (k:Int))).length=k:=by rw[ch,xj,lt]
 have lc2:(cutD (l.map D.int) (a3 ((k:Int)+1)) a5).length=l.length-(k+1):=by rw[ek1,cl1,xj,ld1]
 rw[je (F:=Wt) (by rfl) rfl];simp only[Wt,Yn,enter];have h5:c%5=0\/c%5=1\/c%5=2\/(c%5≠0/\c%5≠1/\c%5≠2):=by omega
 have spoil:∀x:Int,¬(1<=x/\x<=1000000)->∃bad:List Int,Rc.fresh ((l.take k).map D.int++[D.int x]++(l.drop (k+1)).map D.int)=.fresh (bad.map D.int)/\Bad l bad:=λx hx =>⟨(l.take k++[x])++l.drop (k+1),by rw[Xp,Xp];rfl,by rw[X6,X6,lt,ld1];simp;omega,.inr (j7w hx)⟩
 rcases h5 with c5|c5|c5|⟨n0,n1,n2⟩
 .ext;exact⟨l++[1+c/5%9],by rw[Xp];rfl,by rw[X6];simp;omega,.inl (by rw[X6];simp)⟩
 .ext;rw[ek,ek1,ch,cl1];ext;exact⟨l.take k++l.drop (k+1),by rw[Xp],by rw[X6,lt,ld1];omega,.inl (by rw[X6,lt,ld1];omega)⟩
 .ext;exact⟨[],rfl,by simp,.inl (by simp;omega)⟩
 .have q4:c/32%4=0\/c/32%4=1\/c/32%4=2\/c/32%4=3:=by omega
  have f0:=Pj (c/64) (b:=1000000000) nofun
  have f1:=T3 (c/64) (b:=1000000000) nofun
  ext;rcases q4 with q|q|q|q
  .rw[ek,q,a40];ext;rw[ek1,ch,cl1]
   try ext
   exact spoil _ nofun
  .rw[ek,q,a41];ext;rw[ek1,ch,cl1]
   try ext
   exact spoil _ nofun
  .rw[ek,q,a42];ext;rw[ek1,ch,cl1]
   try ext
   exact spoil _ nofun
  .rw[ek,q,a43];ext;rw[ek1,ch,cl1]
   try ext
   exact spoil _ nofun
noncomputable def depth:Nat:=15
theorem jgs:T "_law_words" = a3 KW.fL_words:=by rfl
theorem j6e:T "_law_question" = a3 KW.fL_question:=by rfl
theorem neS(x:af):Zf .ne (.lst [.str x]) (.lst [.str x])=a3 a4:=by rw[Br (by simp[D.depL,D.dep]) (by simp[D.depL,D.dep]),Zz _ (by simp[D.depL,D.dep])];rfl
theorem neN:Zf .ne (.lst []) (.lst [])=a3 a4:=by rw[Br (by simp[D.depL]) (by simp[D.depL]),Zz _ (by simp[D.depL])];rfl
noncomputable def pt(m s:Nat)(c:Int):List Int:=(aE m).map λk=>if k=s/\c%2=1 then c/64%2 else 2
theorem jfa(m s:Nat)(c:Int):(pt m s c).length=m:=by rw[pt,xj,Pg]
theorem jls(m s:Nat)(c:Int):∀t∈pt m s c,0<=t/\t<3:=λt ht=>by obtain⟨k,_,rfl⟩:=Xe.mp ht;show 0<=(if k=s/\c%2=1 then c/64%2 else 2)/\(if k=s/\c%2=1 then c/64%2 else 2)<3;split<;>omega
theorem jj7{m s:Nat}{c:Int}(h:s<m):(pt m s c).getD s 0=if c%2=1 then c/64%2 else 2:=by rw[pt,km,X7,Th h];simp
theorem j18 {m:Nat} {gd:List Int} (gl:gd.length=m) (g1:gd.all (btw 1)=a7) (hm:m<=6) {d:D} (hd:d=.lst (gd.map D.int)\/d=.non):∃pr:List Int,pr.length=m/\∀n,evP 1000 G T (n+2) "prices_told" [.int m,d]=.fresh (pr.map D.int):=by
 rcases hd with e|e<;>subst e
 .exact⟨gd,gl,λn=>Bb gl hm g1⟩
 .exact⟨ah m 1,Py ..,λn=>j5i (n:=n+1) hm⟩
theorem lawTrue:∀ns:List Int,ns.length<=63->evP 1000 G T (depth+1) "law" [.lst (ns.map D.int)]=.val (.bl a7):=by
 intro ns hns;rw[je (F:=j41) (by rfl) rfl];simp only[j41,j4f,enter,depth];have mo:1<=4/\4<=6:=by decide
 have hm:=Dq (ns:=ns) (a:=0) (most:=4) mo;have qs:evP 1000 G T 15 "_law_question" [.lst (ns.map D.int),.int 0,.int 4]=_:=Km (fu:=1000) (n:=13) (G:=G) jau jgs jgt j6e (ns:=ns) (a:=0) (most:=4) (by decide) mo;have a01:=jdx (fu:=1000) (n:=13) (G:=G) jgt (ns:=ns) (a:=0) (most:=4) mo;obtain⟨m,em⟩:∃m:Nat,m=Yj ns 0 4:=⟨_,rfl⟩
 have al:(U7 1000 G T 13 ns 0 4).length=2^m:=by simp[U7,<-em]
 have wl:=Rj (qb ns (0+1)) m;rw[<-em]at hm qs;have hm6:1<=m/\m<=6:=by omega
 have hm4:1<=m/\m<=4:=by omega
 have nd:=Ie (c:=qb ns (0+1)) hm6.2;have wc:=j7m (c:=qb ns (0+1)) hm6.2;generalize U7 1000 G T 13 ns 0 4=a at *;generalize vh (qb ns (0+1)) m=ws at *;have cz:∀k:Nat,k<=50->evP 1000 G T 15 "_law_cell" [.lst (ns.map D.int),.int (k:Int)]=.val (.int (qb ns k)):=λk hk=>Up jau (k:=k) nofun
 have c3:evP 1000 G T 15 "_law_cell" [.lst (ns.map D.int),.int 3]=_:=cz 3 (by decide);have c4:evP 1000 G T 15 "_law_cell" [.lst (ns.map D.int),.int 4]=_:=cz 4 (by decide);have c5:evP 1000 G T 15 "_law_cell" [.lst (ns.map D.int),.int 5]=_:=cz 5 (by decide);generalize qb ns 3=c at *;obtain⟨gd,hgd⟩:∃gd:List Int,gd=(aE m).map λ(k:Nat)=>1+c/(3+(0+(k:Int)))%9:=⟨_,rfl⟩
 have gl:gd.length=m:=by rw[hgd,xj,Pg]
 have g1:gd.all (btw 1)=a7:=by rw[hgd,fR,Xq];intro k _;show btw 1 (1+c/(3+(0+(k:Int)))%9)=a7;unfold btw;rw[decide_eq_true nofun,decide_eq_true nofun];rfl
 obtain⟨bad,be,bl,bo⟩:=Iz (n:=14) (l:=gd) (c:=qb ns 4) nofun nofun
 have bo:bad.length≠m\/bad.all (btw 1)=a4:=by rw[gl]at bo;exact bo
 obtain⟨y,hy,hr,sy⟩:=Kh (n:=14) (c:=qb ns 5) wl hm4 wc;obtain⟨s,hs,es⟩:=j29 (c:=c/7) (l:=m) nofun
 have gs:ws.getD s "" = ws[s]:=by rw[km,kh nofun];rfl
 have so:=j1v (fu:=1000) (n:=12) (ws:=ws) (a:=a) (p:=ws.getD s "") (by rw[gs];exact Xy _);rw[show ws.idxOf (ws.getD s "")=s by rw[gs];exact j6c nd nofun]at so;have cb:=j46 (n:=10) (a:=a) wl hm6.2 bl bo;have pl:=jfa m s c;have p3:=jls m s c;have pa:=jj7 (c:=c) hs;obtain⟨P,hP⟩:∃P,P=pt m s c:=⟨_,rfl⟩
 rw[<-hP]at pl p3 pa;have r1:∀k:Nat,k<3->evP 1000 G T 15 "_law_refused" [qD ws a,jn P,.str (ws.getD s ""),.lst (bad.map D.int),.int (k:Int)]=.fresh [.str "WrongPrices"]:=λk hk=>by
  have:k=0\/k=1\/k=2:=by omega
  rcases this with e|e|e<;>subst e
  .exact ref0 gPr (j51 cb)
  .exact jlm gPr (j8d cb)
  .exact j8a gPr (jd3 so cb)
 have r2:∀d:D,evP 1000 G T 15 "_law_refused" [qD ws a,jn P,.str y,d,.int 2]=.fresh [.str "NoPlace"]:=λd=>j8a gNP (j1e (j7v (n:=12) hy hr));have r3:∀d:D,(d=.lst (gd.map D.int)\/d=.non)->evP 1000 G T 15 "_law_refused" [qD ws a,jn P,.str (ws.getD s ""),d,.int 2]=.fresh (if c%2=1 then[.str "NoAsk"] else[]):=λd hd=>by
  obtain⟨pr,h1,hp⟩:=j18 gl g1 hm6.2 hd;by_cases h:c%2=1
  .rw[if_pos h];rw[if_pos h]at pa;exact j8a gNA (j97 so (Vy (n:=11) wl (hp 10)) (Vt (n:=6) wl hm6 al a01 h1 pl p3) (j4e (n:=11) hm4.2 (Lj pl p3) pl p3 hs nofun))
  .rw[if_neg h];rw[if_neg h]at pa;exact ok2 (jd4 (n:=6) nd wl hm6 al a01 h1 pl p3 hs pa (hp 10))
 have r4:evP 1000 G T 15 "_law_refused" [qD ws a,jn P,.str (ws.getD s ""),.lst (gd.map D.int),.int 0]=.fresh []:=by obtain⟨t,e⟩:=j52 (n:=0) wl hm6 al a01 gl (Bb (n:=10) gl hm6.2 g1);exact ok0 e
 have r5:evP 1000 G T 15 "_law_refused" [qD ws a,jn P,.str (ws.getD s ""),.lst (gd.map D.int),.int 1]=.fresh []:=by obtain⟨t,_,e⟩:=j8e (n:=0) wl hm6 al a01 gl (Bb (n:=10) gl hm6.2 g1);exact ok1 e
 simp only[qD,jn]at r1 r2 r3 r4 r5;ext;erw[qs,at0];rw[wl,c3];ext;rw[qp (l:=gd.map D.int) (by rfl) (by rw[zp];omega) ?_ (.inl rfl)];rotate_left
 .rw[Xh,Qc,hgd,Xc];refine jy λk hk'=>zg (by ext) ?_;have hk:=Xf.mp hk';ext;rfl
 ext;erw[c4,be];rw[es];rw[qp (l:=P.map D.int) (by rfl) (by rw[zp];omega) ?_ (.inl rfl)];rotate_left
 .rw[Xh,Qc,hP,pt,Xc];refine jy λk hk'=>zg (by ext) ?_;have hk:=Xf.mp hk';show _=a3 (W.v (Rk.e (.int (if k=s/\c%2=1 then c/64%2 else 2))));by_cases e1:k=s
  .have e3:(0:Int)+(k:Int)=(s:Int):=by omega
   by_cases e2:c%2=1
   .rw[if_pos ⟨e1,e2⟩];ext;rw[if_pos trivial,at1]
    try ext
   .rw[if_neg (λh=>e2 h.2)];ext;rw[if_neg xf,at0]
    try ext
  .have e3:(0:Int)+(k:Int)≠(s:Int):=by omega
   rw[if_neg (λh=>e1 h.1)];ext;rw[if_neg xf,at0]
   try ext
 ext;erw[at0,j94 nofun];refine Wg (λi ρ=>∃s11:Sv,ρ=[.val (.lst (ns.map D.int)),.val (.tup [.tup (ws.map D.str),.tup (a.map D.int)]),.val (.int m),.val (.int c),.val (.lst (gd.map D.int)),.un,.val (.lst (bad.map D.int)),.val (.int (s:Int)),.val (.tup (P.map D.int)),.val (.str (ws.getD s "")),.val (.lst (bad.map D.int)),s11,.un,.un,.un]) ⟨_,rfl⟩ ?_ ?_
 .rintro k d ρ hk ⟨s11,rfl⟩;obtain⟨h1,rfl⟩:=Ig hk;have h1:k<3:=h1;simp only[Yq,cJ];ext;rw[z9 rfl,r1 k h1];ext;rw[neS];ext;rw[Br (by rw[Mg];omega) (by rw[Mg];omega),Zz _ (by rw[Mg];omega)];ext;exact⟨_,rfl,_,rfl⟩
 .rintro ρ ⟨s11,rfl⟩;ext;erw[at0,c5,sy];refine Wg (λi ρ=>∃s13:Sv,ρ=[.val (.lst (ns.map D.int)),.val (.tup [.tup (ws.map D.str),.tup (a.map D.int)]),.val (.int m),.val (.int c),.val (.lst (gd.map D.int)),.un,.val (.lst (bad.map D.int)),.val (.int (s:Int)),.val (.tup (P.map D.int)),.val (.str (ws.getD s "")),.val (.lst (bad.map D.int)),s11,.val (.str y),s13,.un]) ⟨_,rfl⟩ ?_ ?_
  .rintro i x ρ hi ⟨s13,rfl⟩;simp only[Yq];ext;rw[z9 rfl,r2];ext;rw[neS];ext;exact⟨_,rfl,_,rfl⟩
  .rintro ρ ⟨s13,rfl⟩;ext;rw[show ∀y z:List D,Zd (a3 (W.a [Rk.o y,Rk.o z]))=a3 (.v (.o [.lst y,.lst z]))from λ_ _=>rfl];have r3a:=r3 _ (.inl rfl);have r3b:=r3 _ (.inr rfl);by_cases h:c%2=1
   .rw[if_pos h]at r3a r3b;erw[h,at1];rw[z9 rfl,r3a];ext;rw[neS];ext;rw[z9 rfl,r3b];ext;rw[neS];ext;rw[z9 rfl,r4];ext;rw[z9 rfl,r5];ext
   .rw[if_neg h]at r3a r3b;erw[show c%2=0 by omega,at0];rw[z9 rfl,r3a];ext;rw[neN];ext;rw[z9 rfl,r3b];ext;rw[neN];ext;rw[z9 rfl,r4];ext;rw[z9 rfl,r5];ext
end K27
end
open PySem PySem.W PyProof.Rows
local macro_rules | `(tactic| walk_at "lf") => `(tactic| (refine' L2.lf_mk ?a ?l ?c ?k; (case a => k_is); (case l => k_is); (case c => k_is); (case k => k_is)))
local macro_rules | `(tactic| walk_at "ld") => `(tactic| (refine' L2.lfd_mk ?a ?l ?c ?k ?t; (case a => k_is); (case l => k_is); (case c => k_is); (case k => k_is); (case t => k_is)))
set_option Elab.async false
namespace PySem.W.Fast
def tw13236541329121932436:=0
def tw10905665441588868725:=0
def tw9182311797618224944:=0
def tw1981116629989088478:=0
def tw3681445021757779440:=0
def tw13315631619470780795:=0
def tw13261925192822060354:=0
def tw5334932463525491974:=0
def tw7502210093693117605:=0
def tw14325092796176653075:=0
def tw9078527341789774894:=0
def tw14608681845595607069:=0
def tw6679129418607302701:=0
def tw12520896256488374099:=0
def tw17175750529272480972:=0
def tw425198985766952095:=0
def tw16166235737062154826:=0
def tw1179646371849590198:=0
def tw10388529896561455957:=0
def tw6262556597967520133:=0
def tw12440081395001754133:=0
def tw12406535121703912412:=0
def tw17255515532980089550:=0
def tw6419013605161176780:=0
def tw3152308365908884550:=0
def tw16517271066826268142:=0
def tw3486847803994970875:=0
def tw15238343207733110060:=0
def tw4585163660223368207:=0
def tw13145973702699358376:=0
def tw4838187212493698371:=0
def tw15668849319524110823:=0
def tw6547238309228107562:=0
def tw5125832293545910289:=0
def tw14541793764733682919:=0
def tw2157575913064382175:=0
def tw8419037455613510033:=0
def tw958354646418024724:=0
def tw1179284441074216782:=0
def tw12702766173998876729:=0
def tw8829653325267586082:=0
def tw8688106641840262509:=0
def tw15886896245312150995:=0
def tw5906095234227160764:=0
def tw7271601758704260963:=0
def tw12967051505060226361:=0
def tw14421964129193776087:=0
def tw17824179127138451005:=0
def tw5955742246055301570:=0
def tw10362984734194488180:=0
def tw2411324815649778320:=0
def tw9395526858985119651:=0
def tw18142820225737589117:=0
def tw1904908699620155492:=0
def tw8496524487993219408:=0
def tw12258525735632092632:=0
def tw16072606139057722887:=0
def tw14623614038288794362:=0
def tw17239767067821509385:=0
def tw6571579785633741364:=0
def tw7155592996636412523:=0
def tw5993575801474227542:=0
def tw14477783261596863227:=0
def tw10907203723479073711:=0
def tw5300495427447827847:=0
def tw171948104823543035:=0
def tw7993955748778687605:=0
def tw12715827038511163961:=0
def tw8786254935138667460:=0
def tw7209322885068084320:=0
def tw3534154145389502336:=0
def tw6943573967775774148:=0
def tw17483303633206008122:=0
def tw4913653698738170986:=0
def tw3828979024868640632:=0
def tw15953713088105080864:=0
def tw80733829132783135:=0
def tw497687912315226528:=0
def tw9909001169958367617:=0
def tw17250902784312306688:=0
def tw67494124252485468:=0
def tw6018733312980065676:=0
def tw615767157587926374:=0
def tw11938618229486893985:=0
def tw12029574639997001755:=0
def tw11419716150431483098:=0
def tw2044378845775790083:=0
def tw3204159948390207069:=0
def tw2627074408000741663:=0
def tw9541842963852428616:=0
def tw1778456127163073644:=0
def tw987972730802942859:=0
def tw548969692793118638:=0
def tw1354495117675223800:=0
def tw8004351900821954008:=0
def tw8410999711381316340:=0
def tw16856705000005027432:=0
def tw6493504493591046933:=0
def tw7751707447525690050:=0
def tw14350015441428335036:=0
def tw15097772008271408834:=0
def tw14850130561219699719:=0
def tw2717340434333129038:=0
def tw15977712826078695438:=0
def tw6671826394372265145:=0
def tw12524443989363059188:=0
def tw11153749642970200759:=0
def tw16301146673554715027:=0
def tw13929405735762303859:=0
def tw16960537923018317490:=0
def tw18102158605611684174:=0
def tw12632240995502996447:=0
def tw3117636535162893490:=0
def tw4484374082187018815:=0
def tw16842655707052131075:=0
def tw2443476511390963685:=0
def tw14608284394360109559:=0
def tw3290134098298779792:=0
def tw14300423784255347469:=0
def tw803558522435363994:=0
def tw7968695278735528469:=0
def tw13203844859595522885:=0
def tw13815351257957703259:=0
def tw2670659782662585448:=0
def tw17570336440781235655:=0
def tw11512581454530599748:=0
def tw10531250086753183564:=0
def tw13054408628176439640:=0
def tw1127409153643483180:=0
def tw1171252878013180685:=0
def tw15997515718475563364:=0
def tw16499056029015957541:=0
def tw14523040844352829124:=0
def tw16235951124667954197:=0
def tw16409218387801454099:=0
def tw9408190246918812352:=0
def tw14074814185310613932:=0
def tw12114955609131341235:=0
def tw568849395578912394:=0
def tw14011419371931059726:=0
def tw17749820349867490407:=0
def tw11982655787047908707:=0
def tw13081443973047252620:=0
def tw860846186651479165:=0
def tw314388263976062253:=0
def tw6482663775290700669:=0
def tw572626025975090623:=0
def tw13282033070318584245:=0
def tw11738080026583256561:=0
def tw10090206082453775646:=0
def tw5082134771687213116:=0
def tw16195546330803423939:=0
def tw12244472425912223133:=0
def tw17208843014158364739:=0
def tw15093303206024522539:=0
def tw6827783134996526390:=0
def tw6446813082448735107:=0
def tw782690708422697836:=0
def tw18195042184466812680:=0
def tw1795622587095058704:=0
def tw13846689143638744873:=0
def tw18194459183804205645:=0
def tw15847896164139459136:=0
def tw12560493662588299973:=0
def tw11249540290382517878:=0
def tw13640995194737247870:=0
def tw11473887550508212659:=0
def tw11761010195061795941:=0
def tw5462792325848445532:=0
def tw2800805364545928883:=0
def tw253928134927806893:=0
def tw16740696791702887772:=0
def tw5522516257402344125:=0
def tw10535778928187045807:=0
def tw12605674701979549211:=0
def tw12628523262519134615:=0
def tw4008674658697607535:=0
def tw10195765399639830756:=0
def tw5552259130880758678:=0
def tw16091648500595304263:=0
def tw10366594252028914646:=0
def tw14104769049369807011:=0
def tw17016447307759406266:=0
def tw12414034807559213625:=0
def tw10110145996534556098:=0
def tw6863065303004201506:=0
def tw3416862048225773479:=0
def tw3916983566201297077:=0
def tw12602486011758285971:=0
def tw9641606062023907470:=0
def tw1602366804822897906:=0
def tw5989023948973283526:=0
def tw16943603491100198518:=0
def tw17856148891629566246:=0
def tw5320929355912542241:=0
def tw7909344231891691274:=0
def tw5526648871370864153:=0
def tw16196595776230168953:=0
def tw18416609584115066839:=0
def tw10101128549160150620:=0
def tw15664638545316016490:=0
def tw11311218225448845561:=0
def tw12805745253973569532:=0
def tw6009669611367356369:=0
def tw11053148445419217443:=0
def tw4137894568972159902:=0
def tw12413410880873491845:=0
def tw6524729062255141623:=0
def tw15744168386596379032:=0
def tw7885749380259044746:=0
def tw10995476680752070027:=0
def tw447655721042188530:=0
def tw16788112425526028677:=0
def tw4664612625195415765:=0
def tw9721377686969792:=0
def tw7534740229820173413:=0
def tw8616517129191200829:=0
def tw1549780151408974009:=0
def tw4615423192682215136:=0
def tw9087010670408374901:=0
def tw221365761881569460:=0
def tw12262638940216608264:=0
def tw15080548138534977548:=0
def tw4712425420743085877:=0
def tw9954966714586452543:=0
def tw6859805424256760580:=0
def tw7047698499712404747:=0
def tw14810466748845465925:=0
def tw12781091275744862973:=0
def tw14913295618661650809:=0
def tw18117369675622446971:=0
def tw9002568467690396303:=0
def tw2640954386226734574:=0
def tw916305056152910407:=0
def tw4420393398012898067:=0
def tw11893373374190416298:=0
def tw5159530037804784422:=0
def tw15062369137740720425:=0
def tw9778657246443615217:=0
def tw15741199298250941946:=0
def tw13757758884457885426:=0
def tw17161736941759561136:=0
def tw11607594781996684233:=0
def tw985574797171581383:=0
def tw11105189749142732329:=0
def tw17170018419301878035:=0
def tw7398618776514287907:=0
def tw7194609694572305286:=0
def tw3537668180862013694:=0
def tw18105619864417819508:=0
def tw8513375189808616170:=0
def tw96247300694234437:=0
def tw10524172131352978132:=0
def tw12394315011857504214:=0
def tw13463842206189644102:=0
def tw13004492776784300799:=0
def tw17282484356003921198:=0
def tw5813500442564590678:=0
def tw6006874495834417324:=0
def tw10169265580201339460:=0
def tw1626791937614821203:=0
def tw17352756244875014141:=0
def tw9847096953592776657:=0
def tw16702963063178200415:=0
def tw11298319867130120090:=0
def tw12643240258835001989:=0
def tw18300338047139620035:=0
def tw1069245957845920909:=0
def tw11415992277969337639:=0
def tw4096663551201225026:=0
def tw12706122618518781199:=0
def tw15816563136308518706:=0
def tw5555092920952625760:=0
def tw11977810963489787454:=0
def tw6385964640381739987:=0
def tw18043506884250681921:=0
def tw4344565886836366826:=0
def tw4422122535217395408:=0
def tw5059064077397289017:=0
def tw18029958763675946340:=0
def tw1469564804695868308:=0
def tw17638356295766577186:=0
def tw2823394548051807127:=0
def tw12436255864547305762:=0
def tw2999276631100994828:=0
def tw10763248410368111434:=0
def tw5115607462705787246:=0
end PySem.W.Fast
set_option maxRecDepth 100000 in
set_option maxHeartbeats 0 in
theorem PySem.Challenge.cw_leastasks_k27_prices_refused_holds : PySem.Challenge.rw_leastasks_k27_prices_refused.Holds := by
  w_on; o_law; k_head; (case hw => w_witness2)
  k_fill
  refine L2.walkL (l := PySem.Challenge.rw_leastasks_k27_prices_refused) (k := L2.lv (K27.depth + 1)) (x := "_law_script") (by decide) rfl rfl (fun w h Y => ⟨PySem.W.km_in_of Y, PySem.W.km_tabs_of Y⟩) ?tz ?F
  case tz => intro w; kernel_rfl
  case F =>
    intro w mg fa h KX Gn hmg tz
    refine' K27.head KX Gn hmg ?h0 ?h1 ?h2 ?h3 ?h4 ?h5 ?h6 ?h7 ?h8 ?h9 ?h10 ?h11 ?h12 ?h13 ?h14 ?h15 ?h16 ?h17 ?h18 ?h19 ?h20 ?h21 ?h22 ?h23 ?h24 ?h25 ?h26 ?h27 ?h28 ?h29 ?h30 ?h31 ?h32 ?h33 ?h34 ?bz tz ?ga0l ?gn0 ?gn1 ?ga4l ?gn2 ?gn3 ?gn4 ?exa ?xz K27.lawTrue
    (case h0 => walk_at "lf")
    (case h1 => walk_at "lf")
    (case h2 => walk_at "lf")
    (case h3 => walk_at "lf")
    (case h4 => walk_at "lf")
    (case h5 => walk_at "lf")
    (case h6 => walk_at "lf")
    (case h7 => walk_at "lf")
    (case h8 => walk_at "lf")
    (case h9 => walk_at "lf")
    (case h10 => walk_at "lf")
    (case h11 => walk_at "lf")
    (case h12 => walk_at "lf")
    (case h13 => walk_at "lf")
    (case h14 => walk_at "lf")
    (case h15 => walk_at "ld")
    (case h16 => walk_at "ld")
    (case h17 => walk_at "ld")
    (case h18 => walk_at "lf")
    (case h19 => walk_at "lf")
    (case h20 => walk_at "lf")
    (case h21 => walk_at "lf")
    (case h22 => walk_at "lf")
    (case h23 => walk_at "lf")
    (case h24 => walk_at "lf")
    (case h25 => walk_at "lf")
    (case h26 => walk_at "lf")
    (case h27 => walk_at "lf")
    (case h28 => walk_at "lf")
    (case h29 => walk_at "lf")
    (case h30 => walk_at "lf")
    (case h31 => walk_at "lf")
    (case h32 => walk_at "lf")
    (case h33 => walk_at "lf")
    (case h34 => walk_at "lf")
    (case gn0 => k_is)
    (case gn1 => k_is)
    (case gn2 => k_is)
    (case gn3 => k_is)
    (case gn4 => k_is)
    (case ga4l => k_is)
    (case ga0l => k_is)
    (case bz => kernel_rfl)
    (case exa => kernel_rfl)
    (case xz => kernel_rfl)
#print axioms PySem.Challenge.cw_leastasks_k27_prices_refused_holds