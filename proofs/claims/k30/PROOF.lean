import PyProof.Rows.All
import Wide.All
import OpenK.AllK
import Wide.FinOn
import Lean
import PyProof.EqAt
import PyProof.EqKinds
import PyProof.TupleCall
import PyProof.Rows.SetFrom
import KE.KDictList
import KE.KMinKey
import PyProof.ListRange
import KE.KRevIter
import PyProof.TupleOfGen
import PyProof.StrBlockL
import PySem.Challenge.RW_leastasks_k30_whole_table_cells
set_option Elab.async false
set_option linter.all false
set_option maxRecDepth 100000
set_option maxHeartbeats 4000000
set_option genSizeOf false
set_option genInjectivity false
open Option renaming some→a3,none→a6,getD_some→dj,isSome_some→eF,join_some→iI,getD_none→iJ,map_some→iY,getD→ke,bind→kg
open Bool renaming false→a4,true→a5,or_eq_true→bY,true_and→dk,eq_iff_iff→dN,false_and→fY,and_false→fZ,or_false→gy,and_true→gz,not_eq_true'→jB,false_or→ki
open PySem renaming wpAny_bind→a7,starEach→a8,Value→a9,Addr→aa,Shared→af,Str→ah,wpAny_pure→ai,Expr→aj,sizeLine→ak,mainGlobals→aq,wpAny→ar,Program→au,model→ax,eval→ay,World→az,foldedSetIterable→aB,Around→aC,Heap→aD,swapsWith→aE,behindInMarks→aG,wpAny_Call_Name_kw→aH,wpAny_newObj_type→aI,keywordEach→aJ,Pos→aK,FuncData→aL,backTo→aM,compareOp→aN,cellsFrom→aO,attributeBase→aP,Stmt→aQ,cLine→aS,argBest→aU,bootBuiltins→aY,binaryOp→aZ,backToKw→b0,Scope→b7,wpAny_truthy_bool→b9,Keyword→ba,codeAny_builtin→be,codeAny_mono→bf,assignEach→bg,NameKind→bh,wpAny_pyIter_list→bo,wpAny_holding→bq,wpAny_call_entry→bA,wpAny_callSpecial?_slot→bB,wpAny_typeNameOfWhole_valiter→bF,wpAny_mono→bH,call_meets→bI,wpAny_typeNameOf_valiter→cc,plainId_quiet→cf,holding→cj,codeAny→ck,wpAny_field→cB,assign→cL,sliceBounds→cS,wpAny_passesOwn→d4,strKind→d7,Obj→d8,BindsTo→d9,Arguments→dh,wpAny_seqItems→dq,closureFor→du,builtinsNs→dw,Env→dB,Builtin→dC,rawInt→dE,pyNext→dF,draw→dR,boot_len→dS,wpAny_pyNext_list_item→dY,wpAny_call→dZ,sysModules→eA,wpAny_loadPart'→eD,letOwnedTupleGo→eE,wpAny_isOneOf_valiter→eO,wpAny_tryCatch→eR,wpAny_setField→eS,recursionLimit→eT,intItems→eU,firstArgMember→eV,bindArgs→eW,Result→eX,JoinOk→eY,IsPart→eZ,GenState→f6,tupleKind→fc,intKind→fe,codeAmong→ff,PassesOwn→fg,wpAny_standAt→fw,wpAny_pyIter_tuple→fE,typeIs_int→fF,isTrue→fG,defaultsOf→fJ,wpAny_dictEntries→fQ,standAt→fR,concat_meets→fT,callerA→fU,CmpOp→fV,seqItems?→gb,scanBound→gc,noFill_tuple_add→gf,DictEntry→gj,wpAny_of_eq→gu,wpAny_letGo→gv,richCompare→gw,numAt→gx,wpAny_updateSeq→gC,wpAny_execs_nil→gD,wpAny_dictEpoch→gE,Tok→gL,typeIs_str→hV,pyIter→hZ,newFunctionEnv→i3,wpAny_binaryOp_repeat_ref→ie,evalArgs_none→ig,wpAny_comprehension_free→iu,swapsWithSole→iw,swappedStores→iy,seq_tuple_add→iz,call→iA,wpAny_Call_method0_late→iC,pushCells→iD,bindL→iE,bindC→iF,again→iG,spliced→iS,seqSlot_of→iT,seqIndex_neg→iU,richCompare_meets_room→iV,getItem→iW,wpAny_pyNext_list_end→jF,wpAny_isTrue_Compare1→jG,sizeLine_eq→jJ,seqIndex_of→jK,lookup_relabel_local→jL,intItems_at→jM,atKey→jN,Operator→jO,wpAny_Name→k8,tupleKind_room_in1→k9,entryOfKey→ka,wpAny_pyIter_enum→kr,wpAny_assign_Name→ku,wpAny_Return_some→kv,call_sum_walkAnyS→kx,Model→ky,Meets→kz,ItemsOf→kA,wpAny_forIn_list→kS,wpAny_execs_cons→kT,lastMarks→kU,pushCells_keeps→lI,codeAny_of_tree→lJ,wpAny_runValue→lR,wpAny_fieldsOf→lS,wpAny_Compare1→lT,newExc→lU,Params→lV,wpAny_handled→lY,wpAny_attempt→lZ,intBits_le_64→m8,evalPart_none→m9,call_list_seq→ma
open List renaming replicate→ae,range→aw,getElem?_append_right→bM,filterMap_cons→bU,all_cons→bX,filter_append→bZ,range_succ_eq_map→cq,map_nil→cu,getElem?_set_self→cw,take_length→cC,length→cG,nil_append→cJ,getD_cons_zero→cM,nodup_nil→cU,length_zipIdx→cV,foldl→cW,drop_zero→cX,getElem?_set→de,getElem?_replicate→dy,getElem?_cons_succ→dz,cons_append→dA,range_succ→dG,of_mem_zip→dJ,take_append_drop→dQ,toList_toArray→eG,mem_map_of_mem→eJ,getD_cons_succ→eK,any_cons→eP,set_eq_take_append_cons_drop→fb,not_mem_nil→fA,drop_length→fB,range_add→fX,mem_or_eq_of_mem_set→gk,drop_of_length_le→gO,all_map→gP,length_singleton→i7,getElem?_zipIdx→ij,getElem?_set_ne→il,getElem?_mapIdx→ip,zip_cons_cons→iK,map_replicate→iL,getElem_range→iM,countP_append→iN,reverse_cons→ja,pairwise_map→jv,countP_congr→jA,any_toArray→jH,set_append→jQ,mem_zipIdx→jR,find?_cons→jS,filter_map→jT,countP_map→jU,all_append→jV,set_set→kB,map_set→kC,all_nil→kD
open Option.some renaming inj→av
open PySem.Value renaming ref→aA,none→aR,int→bc,bool→bu,str→bC,type→bL,notImplemented→gR,isInt→ko
open PySem.Builtin.Str renaming strSliceIndices→aF,tooLong→cA,occurrences→fv,glued→lQ
open False renaming elim→aT
open Or renaming inl→aV,inr→bj
open PySem.Builtin.SmallTypes renaming nextOf→aW
open PySem.Builtin.Tuple renaming tupleExact→aX,tupleCompareSizes→dP,tupleTooMany→eM,tupleItemsOf→kP
open PySem.NameKind renaming free→b8,cell→bx
open PyProof.Rows renaming envOfC→br,IntsAre→cP,AllBare→dD,seqObj→f7,IsTup→i4,subscriptTail_builtinR→iX,boot_min→jP,slot_tuple_getitem→kc,get?_update_seq→lK,boot_isinstance→lL,tail_any→lW,slicePart_none→lX,subscriptTail→md,Constant_none→mf
open PySem.Builtin.Slice renaming slicePlaces→bD,sliceAdjust→cE,sliceApplied→eN,slicePartIndex→kQ,sliceFields→kR
open PyProof.Rows.F renaming plain_set_update_loop→bE,entry_set_update_loop→di
open PySem.W renaming nsIn→bG,OpenLaw→df,KdlSrc→fC,WalkO→ir,CodeHd→iP,Frag→lO
open PySem.Txt renaming slice→bJ,join→dX,mul→iQ
open PySem.Builtin.List renaming listTooLong→bK,listExtendWith→lG
open PySem.Obj renaming mapSeq→bN,data_mapFields→cY,mapFields→gB,isFreed_of_fields→ia,cls_mapFields→jC
open Int renaming pow_pos→bO,add_mul_ediv_left→cD,natCast_mul→cN,natCast_add→cO,mul_comm→dM,one_mul→eC,ne_of_gt→fq,le_refl→fN,fdiv_eq_ediv_of_nonneg→gn,pow_succ→i8,add_comm→i9,mul_ediv_add_emod→iq,toNat_of_nonneg→iO,mul_assoc→kE,le_of_lt→kZ,neg_mul→lM,mul_one→lN
open PySem.PassesOwn renaming never→bP,leaving→gH
open PySem.AutoSeq1 renaming wpAny_loadPart'→bQ,sub_tuple_tuple→fM
open ForInStep renaming yield→bR
open Array renaming getElem?_eq_getElem→bS,length_toList→cK,append_inj_right→gG,getElem?_toList→gQ,toList→kn
open PySem.F renaming slot_tuple_iterator_next→bT,plainAttrs_list→bV,args_tuple_add_2→cZ,entry_tuple_add→d6,slot_tuple_add→dm,entry_min_loop→dn,slot_int_rmul→dW,args_dict_valueiterator_next_1→fD,entry_dict_valueiterator_next→fL,args_tuple_lt_2→fW,entry_tuple_lt→g6,args_tuple_iterator_next_1→g9,slot_tuple_lt→gp,entry_tuple_iterator_next→gr,slot_list_reverse→gK,slot_tuple_count→gW,slot_list_extend→gX,slot_list_append→gY,slot_dict_values→gZ,slot_list_count→ib,slot_dict_values_iter→ic,slot_str_join→iB,args_object_init_2→iR,args_tuple_mul_2→jI,plain_tuple_new→jW,plain_list_iadd→jX,entry_tuple_mul→jY,args_int_rmul_2→jZ,slot_tuple_mul→k5,entry_int_rmul→k6,fills_int_mul→kq
open PySem.Builtin.Dict_items renaming ownsTuple→bW,newIterator→jD,dictOf→jE
open Ne renaming symm→c7
open Nat renaming lt_of_le_of_lt→c8,zero_le→c9,lt_succ_self→cF,le_of_lt→cT,pow_le_pow_right→eB,pos_of_ne_zero→f9,sub_self→fj,mul_comm→fm,mod_eq_of_lt→fK,sub_zero→i5,lt_or_ge→i6,one_le_two_pow→iZ,min_eq_left→k0,succ_mul→kW,min_self→kX,add_zero→kY
open PySem.Calls renaming callWith_builtin→cb,spliced_cons→eL,spliced_nil→eQ,Name_function_global→fP,evalArgs_plain→hJ
open PySem.Heap renaming SameBut→cg,get?_update_self→dO,ExtBut→dU,get?_update_other→gJ
open Function renaming comp→cy
open PySem.Str renaming ofString→cQ,cps→kF,length→lP
open PySem.SeqAt renaming EqAt→cR,RcAt→fO
open Classical renaming propDecidable→d5
open Sum renaming inr→fh,inl→fi
open PySem.EqMixed renaming ne_str_int→kH,ne_str_bool→kI,ne_int_str→kJ,ne_bool_str→kK,eq_str_int→kL,eq_str_bool→kM,eq_int_str→kN,eq_bool_str→kO
open PySem.EqNone renaming ne_str_none→l6,ne_none_str→l7,ne_none_none→l9,ne_none_int→lh,ne_none_bool→lj,ne_int_none→lq,ne_bool_none→lr,eq_str_none→lz,eq_none_str→lA,eq_none_none→lB,eq_none_int→lC,eq_none_bool→lD,eq_int_none→lE,eq_bool_none→lF
def kh:=@List.getElem?_eq_getElem
def kj:=@List.length_map
def km:=@List.getD_eq_getElem?_getD
def xf:=@Bool.false_ne_true
def xg:=@List.mem_cons_of_mem
def xj:=@PySem.Heap.get?_push_of_some
def xm:=@List.mem_cons_self
def xn:=@List.mem_singleton
def xq:=@List.mem_cons
def xr:=@List.map_cons
def xu:=@PySem.Heap.lt_size
def xx:=@Nat.le_refl
def X3:=@List.getElem?_map
def X4:=@List.size_toArray
def X5:=@PySem.Heap.get?_push_size
def X6:=@Int.toNat_natCast
def X7:=@List.getElem?_eq_some_iff
def X8:=@List.length_cons
def Xa:=@Nat.ne_of_lt
def Xb:=@List.length_append
def Xc:=@List.map_map
def Xd:=@List.mem_range
def Xe:=@List.mem_append_right
def Xf:=@List.map_append
def Xg:=@Bool.and_eq_true
def Xh:=@List.mem_map
def Xi:=@List.length_range
def Xj:=@Nat.lt_of_lt_of_le
def Xk:=@Nat.le_trans
def Xl:=@List.lookup_cons
def Xm:=@List.mem_of_getElem?
def Xn:=@List.nodup_cons
def Xo:=@List.length_take
def Xp:=@List.getElem?_eq_none
def Xq:=@Option.map_eq_some_iff
def Xr:=@List.set_cons_succ
def Xu:=@List.mem_filter
def Xv:=@List.append_nil
def Xw:=@Option.isSome_iff_exists
def Xx:=@List.set_cons_zero
def Xy:=@List.getElem_mem
def Xz:=@Bool.false_eq_true
def ph:=@Nat.lt_irrefl
def pq:=@List.mem_append
def Pa:=@List.all_eq_true
def Pb:=@Nat.lt_trans
def Pg:=@Nat.zero_add
def Ph:=@List.replicate_succ
def Pj:=@List.getElem?_range
def Pk:=@List.filter_cons_of_neg
def Pn:=@List.mem_append_left
def Pq:=@List.countP_cons
def Pr:=@List.getElem?_append_left
def Pu:=@PySem.mem_of_lookup
def Px:=@List.length_replicate
def Py:=@Nat.le_succ
def Pz:=@List.filter_cons_of_pos
def t6:=@PySem.Around.under_plainId
def t7:=@List.take_of_length_le
def t8:=@PySem.F.plain_min_loop
def tu:=@List.map_congr_left
def T3:=@PySem.F.slot_dict_valueiterator_next
def T4:=@List.drop_eq_getElem_cons
def T5:=@Nat.ne_of_gt
def T6:=@List.flatten_cons
def T7:=@List.length_nil
def T8:=@Int.emod_nonneg
def T9:=@PySem.Heap.SameBut.update
def Tc:=@Int.ediv_eq_zero_of_lt
def Td:=@Int.zero_add
def Te:=@List.mem_filterMap
def Tf:=@List.length_filter_le
def Tg:=@List.length_set
def Th:=@List.foldl_cons
def Ti:=@List.mem_iff_getElem
def Tj:=@Nat.pow_succ
def Tn:=@List.append_assoc
def Tp:=@List.ext_getElem?
def Tq:=@List.take_add_one
def Tt:=@List.sum_cons
def Tu:=@PySem.W.mg_of
def Tv:=@Array.toList_append
def Tw:=@List.length_drop
def Tz:=@PySem.Heap.size_push
def sr:=@Int.emod_lt_of_pos
def S7:=@Nat.lt_succ_of_lt
def S8:=@Nat.lt_of_succ_le
def k8c:=@And.intro
abbrev k8d:=lO
abbrev k8e:=a9→af→Prop
abbrev k8f:=List (aa×d8)
abbrev k8g:=ah→Option a9
abbrev k8h:=("__debug__":ah)
abbrev k8i:=("__classdict__":ah)
local macro_rules | `(tactic| omega)=>`(tactic| first | with_reducible assumption | with_reducible exact Nat.le_of_lt (by assumption) | with_reducible exact Nat.le_refl _ | lia)
local macro_rules | `(nofun)=>`(by omega)
section
namespace L2
open PySem PySem.Spec PyProof.Rows
noncomputable abbrev Key:=Sum Int ah
noncomputable def jas:Key->a9->Bool
 |.inl k,v=>ko k v
 |.inr x,v=>Value.isStrOf x v
noncomputable def jlb(w:az):Key->Int
 |.inl k=>hashInt k
 |.inr x=>hashStr w x
theorem vg:∀{k:Key}{v:a9},jas k v=a5->(∃i t,k=fi i/\v=bc i t)\/(∃x t,k=fh x/\v=bC x t)
 |.inl i,v,h=>by obtain⟨t,e⟩:=Value.isInt_shape (k:=i) (v:=v) h;exact .inl ⟨i,t,rfl,e⟩
 |.inr x,v,h=>by obtain⟨t,e⟩:=Value.isStrOf_shape (x:=x) (v:=v) h;exact .inr ⟨x,t,rfl,e⟩
theorem jgc(a b:Int):decide ((fi a:Key)=fi b)=(a==b):=by
 by_cases e:a=b
 .subst e;simp
 .have h:¬(fi a:Key)=fi b:=λq=>e (Sum.inl.inj q);rw[decide_eq_false h];exact(beq_eq_false_iff_ne.mpr e).symm
theorem jg9(a b:ah):decide ((fh a:Key)=fh b)=decide (a=b):=by
 by_cases e:a=b
 .subst e;simp
 .have h:¬(fh a:Key)=fh b:=λq=>e (Sum.inr.inj q);rw[decide_eq_false h,decide_eq_false e]
theorem jgb(a:Int)(b:ah):decide ((fi a:Key)=fh b)=a4:=decide_eq_false (λq=>nomatch q)
theorem jga(a:ah)(b:Int):decide ((fh a:Key)=fi b)=a4:=decide_eq_false (λq=>nomatch q)
noncomputable def j28(prog:au)(w:az):PySem.KeyKind prog w Key where
 is:=jas
 hash:=jlb w
 inj:=λv a b ha hb=>by
  rcases vg ha with ⟨i,t,rfl,rfl⟩|⟨x,t,rfl,rfl⟩
  .rcases vg hb with ⟨j,u,rfl,e⟩|⟨y,u,rfl,e⟩
   .injection e with e1 _;rw[e1]
   .exact nomatch e
  .rcases vg hb with ⟨j,u,rfl,e⟩|⟨y,u,rfl,e⟩
   .exact nomatch e
   .injection e with e1 _;rw[e1]
 byValue:=λk v h=>by rcases vg h with ⟨i,t,rfl,rfl⟩|⟨x,t,rfl,rfl⟩<;>rfl
 pyHash:=λhv h=>by
  rcases vg hv with ⟨i,t,rfl,rfl⟩|⟨x,t,rfl,rfl⟩
  .exact wpAny_pyHash_int h
  .exact wpAny_pyHash_str h
 eqBool:=λhu hv h=>by
  rcases vg hu with ⟨i,t,rfl,rfl⟩|⟨x,t,rfl,rfl⟩
  .rcases vg hv with ⟨j,u,rfl,rfl⟩|⟨y,u,rfl,rfl⟩
   .rw[jgc]at h;exact wpAny_eqBool_int h
   .rw[jgb]at h;exact SeqAt.EqAt.int_str i t y u _ _ _ _ h
  .rcases vg hv with ⟨j,u,rfl,rfl⟩|⟨y,u,rfl,rfl⟩
   .rw[jga]at h;exact SeqAt.EqAt.str_int x t j u _ _ _ _ h
   .rw[jg9]at h;exact wpAny_eqBool_str h
 «strs»:=λk x t v h=>by
  rcases vg h with ⟨i,u,rfl,e⟩|⟨y,u,rfl,e⟩
  .exact nomatch e
  .injection e with e1 _;subst e1;cases v<;>rfl
set_option genInjectivity true in
inductive V where
 |non|bl (b:Bool)|int (i:Int)|str (x:ah)|byt (b:Array UInt8)|flt (b:UInt64)|ref (a:aa)|ty (n:String)
 deriving DecidableEq
def RelV:V->a9->Prop
 |.non,u=>u=aR
 |.bl b,u=>u=bu b
 |.int i,u=>∃t,u=bc i t
 |.str x,u=>∃t,u=bC x t
 |.byt b,u=>∃t,u=Value.bytes b t
 |.flt b,u=>∃t,u=Value.float b t
 |.ref a,u=>u=aA a
 |.ty n,u=>u=bL n
abbrev Vals:List V->List a9->Prop:=Paired RelV
theorem Vals.length{xs:List V}{us:List a9}(r:Vals xs us):xs.length=us.length:=Paired.length r
theorem Vals.get:∀{xs:List V}{us:List a9}{i:Nat}{x:V},Vals xs us->xs[i]?=a3 x->∃u,us[i]?=a3 u/\RelV x u
 |_,_,_,_,.nil,e=>by simp at e
 |_,_,0,_,.cons r _,e=>by simp at e;subst e;exact⟨_,rfl,r⟩
 |_,_,i+1,x,.cons _ t,e=>by obtain⟨u,h1,h2⟩:=Vals.get (i:=i) (x:=x) t (by simpa using e);exact⟨u,by simpa using h1,h2⟩
theorem Vals.set{x:V}{u:a9}(r:RelV x u):∀{xs:List V}{us:List a9}(i:Nat),Vals xs us->Vals (xs.set i x) (us.set i u)
 |_,_,_,.nil=>.nil
 |_,_,0,.cons _ t=>.cons r t
 |_,_,i+1,.cons q t=>.cons q (Vals.set r i t)
theorem Vals.append:∀{xs ys:List V}{us ws:List a9},Vals xs us->Vals ys ws->Vals (xs++ys) (us++ws)
 |_,_,_,_,.nil,s=>s
 |_,_,_,_,.cons r t,s=>.cons r (Vals.append t s)
theorem Vals.take:∀{xs:List V}{us:List a9}(n:Nat),Vals xs us->Vals (xs.take n) (us.take n)
 |_,_,0,_=>.nil
 |_,_,_+1,.nil=>.nil
 |_,_,n+1,.cons r t=>.cons r (Vals.take n t)
theorem Vals.drop:∀{xs:List V}{us:List a9}(n:Nat),Vals xs us->Vals (xs.drop n) (us.drop n)
 |_,_,0,r=>r
 |_,_,_+1,.nil=>.nil
 |_,_,n+1,.cons _ t=>Vals.drop n t
def jhy:Option V->Option a9->Prop
 |some v,a3 u=>RelV v u
 |none,a6=>True
 |_,_=>False
def KV{κ:Type}:List (κ×V)->List (κ×a9)->Prop:=Paired λ(p:κ×V) (q:κ×a9)=>p.1=q.1/\RelV p.2 q.2
noncomputable def kV:Key->V
 |.inl i=>.int i
 |.inr x=>.str x
inductive HO where
 |lst (xs:List V)
 |tup (xs:List V)
 |dK (kvs:List (Key×V))|dT (kvs:List (List Key×V))
 |dI (xs:List (List Int×aa×a9)) (ep:Nat)
 |set (S:Int->Bool) (n:Nat)
 |ins (C dx:aa) (fs:List (ah×V))
 |own (x:aa)
 |xd (fs:List (ah×V))
 |met (f x:aa)
 |rng (lo hi:Int)
 |frz (o:d8) (u:HO)
 |tbl (ps:Array a9)
 |cod (q:ah)
 |ext (φ:aD->Prop)
noncomputable abbrev Hp:=aa->Option HO
noncomputable def upd(H:Hp)(a:aa)(o:HO):Hp:=λb=>if b=a then a3 o else H b
theorem j9{H:Hp}{a:aa}{o:HO}:upd H a o a=a3 o:=by unfold upd;rw[if_pos rfl]
theorem jg{H:Hp}{a b:aa}{o:HO}(h:b≠a):upd H a o b=H b:=by unfold upd;rw[if_neg h]
theorem vf{H:Hp}{a b:aa}{o:HO}(h:H a=a3 o)(h':H b=a6):a≠b:=by intro e;subst e;rw[h]at h';cases h'
def V8(h:aD)(a:aa):Prop:=∀o,h.get? a=a3 o->o.dict=a6
theorem V8.new(h:aD)(xs:Array a9):V8 (h.push { cls:=.type "tuple",data:=.seq xs }) h.objs.size:=λo e=>by have z:(h.push { cls:=.type "tuple",data:=.seq xs }).get? h.objs.size=a3 { cls:=.type "tuple",data:=.seq xs }:=X5 _ rfl;rw[z]at e;cases e;rfl
theorem V8.of{h:aD}{a:aa}{d:Data}{c:a9}(e:h.get? a=a3 { cls:=c,data:=d }):V8 h a:=λo e'=>by rw[e]at e';cases e';rfl
def Ob(o:d8)(q:ah):Prop:=∃(vs:Array a9)(t:gL),o.data=.fields vs/\vs[1]?=a3 (.str q t)
section
variable(P:au)(w:az)
def jj(H:Hp)(h:aD)(a:aa):HO->Prop
 |.lst xs=>xs.length<=ak/\∃(its:List a9)(n:Nat),Vals xs its/\h.get? a=a3 { cls:=.type "list",data:=.seq its.toArray n }
 |.tup xs=>xs.length<=ak/\∃its:List a9,Vals xs its/\i4 h a its.toArray/\V8 h a
 |.dK kvs=>kvs.length<=ak/\(a==eA)=a4/\∃vs,KV kvs vs/\h.DictOf (j28 P w) a vs
 |.dT kvs=>kvs.length<=ak/\(a==eA)=a4/\∃xs:List (List Key×aa×a9),
   Paired (λ(p:List Key×V) (q:List Key×aa×a9)=>p.1=q.1/\H q.2.1=a3 (.tup (p.1.map kV))/\RelV p.2 q.2.2) kvs xs /\
   ∃o es ep,h.get? a=a3 o/\o.ExactDict/\o.data=.dict es ep/\es.toList=xs.map (ka (fc (j28 P w)))/\(xs.map (·.1)).Nodup
 |.dI xs ep=>xs.length<=ak/\(a==eA)=a4/\(xs.map λx=>x.1).Nodup/\∃(o:d8)(es:Array gj),h.get? a=a3 o/\o.ExactDict/\o.data=.dict es ep/\es.toList=xs.map (ka (fc (fe P w)))
 |.set S n=>h.SetOf (fe P w) a S n
 |.ins C dx fs=>H dx=a3 (.own a)/\fs.length<=1000/\dx≠a/\h.get? a=a3 (W.instObj C dx) /\
   ∃mA,h.Ns1 dx mA/\(∀f,jhy (fs.lookup f) (mA f))/\PySem.Within mA (fs.map (·.1))
 |.own _=>∃o,h.get? a=a3 o
 |.xd fs=>∃mA,h.Ns1 a mA/\∀f,jhy (fs.lookup f) (mA f)
 |.rng lo hi=>∃t u v,h.get? a=a3 { cls:=.type "range",data:=.fields #[.int lo t,.int hi u,.int 1 v] }
 |.frz o u=>h.get? a=a3 o/\jj H h a u
 |.tbl ps=>h.get? a=a3 { cls:=.none,data:=.fields ps }
 |.cod q=>∃ps:Array a9,h.get? a=a3 (W.tabObj ps)/\TriplesOk ps.toList/\∀pos cv,ff pos ps.toList=a3 cv->∃(c:aa)(oc:d8),cv=.ref c/\H c=a3 (.frz oc (.own 0))/\Ob oc q
 |.met f x=>h.get? a=a3 (W.methodObj (.ref f) (.ref x))
 |.ext φ=>φ h/\(∃o,h.get? a=a3 o)/\∀h1 h2:aD,φ h1->(∀o,h1.get? a=a3 o->h2.get? a=a3 o)->φ h2
def HOk(H:Hp)(h:aD):Prop:=∀a o,H a=a3 o->jj P w H h a o
end
section
variable{P:au}{w:az}{H H':Hp}{h h':aD}{a:aa}{o:HO}
theorem jj.lt(x:jj P w H h a o):a<h.objs.size:=by
 cases o with
 |lst xs=>obtain⟨_,_,_,_,e⟩:=x;exact xu e
 |tup xs=>obtain⟨_,_,_,p,_⟩:=x;exact p.lt
 |dK kvs=>obtain⟨_,_,_,_,o,_,_,e,_⟩:=x;exact xu e
 |dT kvs=>obtain⟨_,_,_,_,o,_,_,e,_⟩:=x;exact xu e
 |dI xs ep=>obtain⟨_,_,_,o,_,e,_⟩:=x;exact xu e
 |set S n=>obtain⟨o,_,_,_,e,_⟩:=x;exact xu e
 |ins C dx fs=>obtain⟨_,_,_,e,_⟩:=x;exact xu e
 |own y=>obtain⟨_,e⟩:=x;exact xu e
 |xd fs=>obtain⟨_,⟨_,_,_,e,_⟩,_⟩:=x;exact xu e
 |rng lo hi=>obtain⟨_,_,_,e⟩:=x;exact xu e
 |frz ob u=>obtain⟨e,_⟩:=x;exact xu e
 |tbl ps=>exact xu (show h.get? a=a3 _ from x)
 |cod q=>obtain⟨_,e,_⟩:=x;exact xu e
 |met f y=>exact xu (show h.get? a=a3 _ from x)
 |ext φ=>obtain⟨_,⟨_,e⟩,_⟩:=x;exact xu e
theorem Paired.mapP{α β:Type}{F G:α->β->Prop}:∀{l₁:List α}{l₂:List β},Paired F l₁ l₂->(∀a b,F a b->G a b)->Paired G l₁ l₂
 |_,_,.nil,_=>.nil
 |_,_,.cons r t,f=>.cons (f _ _ r) (Paired.mapP t f)
theorem jj.stay(x:jj P w H h a o)(k:∀b u,(b=a\/H b=a3 (.own a))->h.get? b=a3 u->h'.get? b=a3 u)
  (ho:∀b,H b=a3 (.own a)->H' b=a3 (.own a)) (ht:∀b xs,H b=a3 (.tup xs)->H' b=a3 (.tup xs)) (hz:∀b o,(∃vs,o.data=.fields vs)->H b=a3 (.frz o (.own 0))->H' b=a3 (.frz o (.own 0))):jj P w H' h' a o:=by
 induction o with
 |lst xs=>obtain⟨z,its,n,r,e⟩:=x;exact⟨z,its,n,r,k _ _ (.inl rfl) e⟩
 |tup xs =>obtain⟨z,its,r,⟨ob,e,c⟩,nd⟩:=x;refine⟨z,its,r,⟨ob,k _ _ (.inl rfl) e,c⟩,λo q=>?_⟩;rw[k _ _ (.inl rfl) e]at q;cases q;exact nd _ e
 |dK kvs=>obtain⟨z,y,vs,r,ob,es,ep,e,c⟩:=x;exact⟨z,y,vs,r,ob,es,ep,k _ _ (.inl rfl) e,c⟩
 |dT kvs =>obtain⟨z,y,xs,r,ob,es,ep,e,c⟩:=x;exact⟨z,y,xs,Paired.mapP r λp q z=>⟨z.1,ht _ _ z.2.1,z.2.2⟩,ob,es,ep,k _ _ (.inl rfl) e,c⟩
 |dI xs ep=>obtain⟨z,y,nd,ob,es,e,c⟩:=x;exact⟨z,y,nd,ob,es,k _ _ (.inl rfl) e,c⟩
 |set S n=>obtain⟨ob,es,ep,t,e,c⟩:=x;exact⟨ob,es,ep,t,k _ _ (.inl rfl) e,c⟩
 |ins C dx fs =>obtain⟨d,z,ne,e,mA,⟨od,es,ep,e2,c⟩,r⟩:=x;exact⟨ho _ d,z,ne,k _ _ (.inl rfl) e,mA,⟨od,es,ep,k _ _ (.inr d) e2,c⟩,r⟩
 |own y=>obtain⟨ob,e⟩:=x;exact⟨ob,k _ _ (.inl rfl) e⟩
 |xd fs=>obtain⟨mA,⟨od,es,ep,e,c⟩,r⟩:=x;exact⟨mA,⟨od,es,ep,k _ _ (.inl rfl) e,c⟩,r⟩
 |rng lo hi=>obtain⟨t,u,v,e⟩:=x;exact⟨t,u,v,k _ _ (.inl rfl) e⟩
 |frz ob u ih=>obtain⟨e,q⟩:=x;exact⟨k _ _ (.inl rfl) e,ih q⟩
 |tbl ps =>have e:h.get? a=a3 { cls:=.none,data:=.fields ps }:=x;show h'.get? a=a3 { cls:=.none,data:=.fields ps };exact k a _ (.inl rfl) e
 |cod q=>obtain⟨ps,e,t,c⟩:=x;exact⟨ps,k _ _ (.inl rfl) e,t,λpos cv z=>let ⟨c,oc,e1,e2,e3⟩:=c pos cv z;⟨c,oc,e1,hz _ _ (let ⟨vs,_,z,_⟩:=e3;⟨vs,z⟩) e2,e3⟩⟩
 |met f y =>have e:h.get? a=a3 (W.methodObj (.ref f) (.ref y)):=x;show h'.get? a=a3 (W.methodObj (.ref f) (.ref y));exact k a _ (.inl rfl) e
 |ext φ=>obtain⟨p,⟨o,e⟩,st⟩:=x;exact⟨st _ _ p λo q=>k _ _ (.inl rfl) q,⟨o,k _ _ (.inl rfl) e⟩,st⟩
theorem HOk.lt(x:HOk P w H h)(e:H a=a3 o):a<h.objs.size:=(x a o e).lt
theorem HOk.fresh(x:HOk P w H h)(e:h.objs.size<=a):H a=a6:=by
 cases q:H a with
 |none=>rfl
 |some u=>exact absurd (Xj (x.lt q) e) (ph _)
theorem HOk.kept(x:HOk P w H h)(k:∀b u,h.get? b=a3 u->h'.get? b=a3 u):HOk P w H h':=λa o e =>(x a o e).stay (λb u _ q=>k b u q) (λ_ q=>q) (λ_ _ q=>q) λ_ _ _ q=>q
theorem HOk.laid(x:HOk P w H h)(k:∀b u,h.get? b=a3 u->h'.get? b=a3 u)(hp:h.objs.size<=a)(new:jj P w (upd H a o) h' a o):HOk P w (upd H a o) h':=λb u e=>by
 have hn:=x.fresh hp;by_cases hb:b=a
 .subst hb;rw[j9]at e;cases e;exact new
 .rw[jg hb]at e;exact(x b u e).stay (λc v _ q=>k c v q) (λc q=>by rw[jg (vf q hn)];exact q) (λc xs q=>by rw[jg (vf q hn)];exact q) λc _ _ q=>by rw[jg (vf q hn)];exact q
end
def Rd(H:Hp)(a:aa)(u:HO):Prop:=H a=a3 u\/∃o,H a=a3 (.frz o u)
theorem Rd.ok{P:au}{w:az}{H:Hp}{h:aD}{a:aa}{u:HO}(r:Rd H a u)(x:HOk P w H h):jj P w H h a u:=by
 rcases r with r|⟨o,r⟩
 .exact x a u r
 .obtain⟨_,q⟩:=x a _ r;exact q
def Mut:Option HO->Prop
 |some (.lst _)=>True
 |some (.dK _)=>True
 |some (.dT _)=>True
 |some (.dI _ _)=>True
 |some (.set _ _)=>True
 |some (.ins _ _ _)=>True
 |some (.ext _)=>True
 |some (.cod _)=>True
 |_=>False
section
variable{P:au}{w:az}{H:Hp}{h h':aD}{x e:aa}{o':HO}
theorem HOk.write(ok:HOk P w H h)(mu:Mut (H x))(he:e=x\/H e=a3 (.own x))(k:∀b u,b≠e->h.get? b=a3 u->h'.get? b=a3 u)(heo:∃u,h'.get? e=a3 u)
  (new:jj P w (upd H x o') h' x o'):HOk P w (upd H x o') h':=λb u q=>by
 have nown:∀c y,H c=a3 (.own y)->c≠x:=λc y r z=>by subst z;rw[r]at mu;exact mu
 have ntup:∀c xs,H c=a3 (.tup xs)->c≠x:=λc xs r z=>by subst z;rw[r]at mu;exact mu
 have nfrz:∀c o u,H c=a3 (.frz o u)->c≠x:=λc o u r z=>by subst z;rw[r]at mu;exact mu
 by_cases hb:b=x
 .subst hb;rw[j9]at q;cases q;exact new
 .rw[jg hb]at q;by_cases hbe:b=e
  .have q':H b=a3 (.own x):=by
    rcases he with z|z
    .exact absurd (hbe.trans z) hb
    .rw[hbe];exact z
   rw[q]at q';cases q';obtain⟨v,hv⟩:=heo;exact⟨v,by rw[hbe];exact hv⟩
  .refine(ok b u q).stay (λc v hc r=>k c v ?_ r) (λc r=>by rw[jg (nown c b r)];exact r) (λc xs r=>by rw[jg (ntup c xs r)];exact r) λc o _ r=>by rw[jg (nfrz c o _ r)];exact r
   rcases hc with rfl|hc
   .exact hbe
   .rintro rfl;rcases he with z|z
    .exact nown c b hc z
    .rw[hc]at z;cases z;exact hb rfl
end
structure Un(fs ex:List aa)(H H':Hp)(h h':aD):Prop where
 keep:∀b o,h.get? b=a3 o->H b=a6->b∉fs->b∉ex->h'.get? b=a3 o
 slot:∀b o,h.get? b=a3 o->H b=a6->b∈fs->b∉ex->∃sl,h'.get? b=a3 { o with slots:=sl }
 free:∀b o,h.get? b=a3 o->H b=a6->b∉ex->H' b=a6
 there:∀b o,h.get? b=a3 o->b∉ex->∃o',h'.get? b=a3 o'
 tups:∀b xs,H b=a3 (.tup xs)->H' b=a3 (.tup xs)
 frzs:∀b o u,H b=a3 (.frz o u)->H' b=a3 (.frz o u)
 tbls:∀b ps,H b=a3 (.tbl ps)->∃more,H' b=a3 (.tbl (ps++more))
section
variable{fs fs' ex ex':List aa}{H H1 H2:Hp}{h h1 h2 h':aD}{a x e:aa}{o:HO}
theorem Un.any(u:Un fs ex H H1 h h1){b:aa}{ob:d8}(q:h.get? b=a3 ob)(n:H b=a6)(hx:b∉ex):∃sl,h1.get? b=a3 { ob with slots:=sl }:=by
 by_cases hb:b∈fs
 .exact u.slot b ob q n hb hx
 .exact⟨ob.slots,u.keep b ob q n hb hx⟩
theorem Un.kept(k:∀b u,h.get? b=a3 u->h'.get? b=a3 u):Un fs ex H H h h' :=
 ⟨λb ob q _ _ _=>k b ob q,λb ob q _ _ _=>⟨ob.slots,k b ob q⟩,λ_ _ _ n _=>n,λb ob q _=>⟨ob,k b ob q⟩,λ_ _ q=>q,λ_ _ _ q=>q,λ_ ps q=>⟨#[],by rw[q];simp⟩⟩
theorem Un.refl:Un fs ex H H h h:=Un.kept λ_ _ q=>q
theorem Un.laid(k:∀b u,h.get? b=a3 u->h'.get? b=a3 u)(hp:h.objs.size<=a)(hn:H a=a6):Un fs ex H (upd H a o) h h' where
 keep:=λb u q _ _ _=>k b u q
 slot:=λb u q _ _ _=>⟨u.slots,k b u q⟩
 free:=λb u q n _=>by rw[jg (Xa (Xj (xu q) hp))];exact n
 there:=λb u q _=>⟨u,k b u q⟩
 tups:=λb xs q=>by rw[jg (vf q hn)];exact q
 frzs:=λb u xs q=>by rw[jg (vf q hn)];exact q
 tbls:=λb ps q=>⟨#[],by rw[jg (vf q hn),q];simp⟩
theorem Un.write(mu:Mut (H x))(he:e=x\/H e=a3 (.own x))(k:∀b u,b≠e->h.get? b=a3 u->h'.get? b=a3 u)(heo:∃u,h'.get? e=a3 u):Un fs ex H (upd H x o) h h':=by
 have hx:∀b,H b=a6->b≠x:=λb n z=>by subst z;rw[n]at mu;exact mu
 have hb:∀b,H b=a6->b≠e:=λb n z=>by
  subst z;rcases he with r|r
  .exact hx b n r
  .rw[n]at r;cases r
 have hm:∀b u,H b=a3 u->¬Mut (a3 u)->b≠x:=λb u q nm z=>by subst z;rw[q]at mu;exact nm mu
 refine⟨λb u q n _ _=>k b u (hb b n) q,λb u q n _ _=>⟨u.slots,k b u (hb b n) q⟩,λb u q n _=>by rw[jg (hx b n)];exact n,λb u q _=>?_,
  λb xs q=>by rw[jg (hm b _ q λz=>z)];exact q,λb u xs q=>by rw[jg (hm b _ q λz=>z)];exact q,λb ps q=>⟨#[],by rw[jg (hm b _ q λz=>z),q];simp⟩⟩
 by_cases hbe:b=e
 .subst hbe;exact heo
 .exact⟨u,k b u hbe q⟩
end
noncomputable def trk(h:aD)(H:Hp):List aa:=(aw h.objs.size).filter λa=>(H a).isSome
noncomputable def We(h:aD)(H:Hp):aD:=W.hideAll h (trk h H)
theorem j63(h:aD)(H:Hp):(We h H).objs.size=h.objs.size:=W.hideAll_size _ _
theorem j8z{h:aD}{H:Hp}{b:aa}{o:d8}(e:h.get? b=a3 o)(n:H b=a6):(We h H).get? b=a3 o :=
 W.hideAll_get _ e λhm=>by have q:(H b).isSome=a5:=(Xu.mp hm).2;rw[n]at q;simp at q
theorem jcf{h:aD}{H:Hp}{b:aa}{o:d8}(e:(We h H).get? b=a3 o):h.get? b=a3 o/\H b=a6:=by
 have e':h.get? b=a3 o:=W.of_hideAll (trk h H) e;refine⟨e',?_⟩;cases q:H b with
 |none=>rfl
 |some x =>have hm:b∈trk h H:=Xu.mpr ⟨Xd.mpr (xu e'),by simp[q]⟩;have z:(We h H).get? b=a6:=W.hideAll_none (trk h H) hm;rw[z]at e;cases e
noncomputable def je1(g h:aD)(L:aa):List (aa×d8):=(aw h.objs.size).filterMap λa=>if a=L\/(g.get? a).isSome=a5 then a6 else(h.get? a).map λo=>(a,o)
noncomputable def rest(g h:aD)(L d:aa):List (aa×d8):=(je1 g h L).filter λp=>decide (p.1≠d)
structure Mod(K:k8d)(mg:k8g)(base:aD):Prop where
 kin:K.In base
 glob:base.Ns aq mg
 blt:∃mb,base.Ns dw mb/\∀x:ah,x ≠ "__name__"->mb x=aY x
 nolimit:base.NoLimit
 bm:∃bm ob,mg "__builtins__" = a3 (.ref bm)/\bm≠dw/\base.get? bm=a3 ob/\ob.cls=.type "module"/\ob.dict=a3 dw/\ob.data=.plain
structure Cx where
 prog:au
 w:az
 K:k8d
 mg:ah->Option a9
 base:aD
 A:aC
 N:List ah
 s₀:af
 H₀:Hp
 env:dB
 outer:List dB
 stack:List dB
 ex:List aa
 fn:ah->Bool
 calm:Bool
 pn:List (aa×d8)
 xe:a9->af->Prop
noncomputable def frs(l:List dB):List aa:=l.filterMap (·.frame)
noncomputable abbrev Cx.fs(X:Cx):List aa:=frs X.outer
def Vis(sc:b7)(x:ah):Prop:=sc.names.lookup x=a3 .local\/sc.names.lookup x=a3 .cell\/sc.names.lookup x=a3 .free
def Loc(sc:b7)(x:ah):Prop:=sc.names.lookup x=a3 .local\/sc.names.lookup x=a3 .cell
def Look(env:dB)(h:aD)(m:k8g)(x:ah)(u:a9):Prop :=
 (env.kindOf x=a3 .local/\m x=a3 u)\/((env.kindOf x=a3 .cell\/env.kindOf x=a3 .free)/\∃c,env.cells.lookup x=a3 c/\h.IsCell c (a3 u))
structure Cx.Ok(X:Cx):Prop where
 mod:Mod X.K X.mg X.base
 kind:X.env.scope.kind=.function
 glob:X.env.globals=aq
 blt:X.env.builtins=dw
 above:X.s₀.heap.objs.size<=X.env.locals
 inj:∀x y c,X.env.cells.lookup x=a3 c->X.env.cells.lookup y=a3 c->x=y
 has:∀x,(X.env.kindOf x=a3 .cell\/X.env.kindOf x=a3 .free)->∃c,X.env.cells.lookup x=a3 c
 cab:∀x c,X.fn x=a5->X.env.cells.lookup x=a3 c->X.s₀.heap.objs.size<=c
 hd:X.calm=a5->X.A.handled=a6
 frames:X.A.frames=a3 X.stack
 stk:X.stack=X.outer\/(X.stack=X.env::X.outer/\X.env.frame=a3 X.env.locals)
 exf:∀b∈X.ex,b≠X.env.locals/\∀x c,X.env.cells.lookup x=a3 c->c≠b
 bs:∀b o,X.base.get? b=a3 o->X.s₀.heap.get? b=a3 o/\X.H₀ b=a6
 bsz:X.base.objs.size<=X.s₀.heap.objs.size
 noex:∀b o,X.base.get? b=a3 o->b∉X.ex
 exfs:∀b∈X.ex,b∉X.fs
 funs:X.s₀.heap.FunFrames X.base X.outer
 frf:∀b∈X.fs,X.H₀ b=a6
structure Inv(X:Cx)(pins:k8f)(σ:List (Option V))(H:Hp)(s:af):Prop where
 ok:X.Ok
 os:s.os=X.s₀.os
 bare:dD s.gens
 base:Un X.fs X.ex X.H₀ H X.s₀.heap s.heap
 loc:∃m,s.heap.Ns X.env.locals m/\∀(i:Nat)(x:ah)(v:V),X.N[i]?=a3 x->σ[i]?=a3 (a3 v)->Vis X.env.scope x->∃u,RelV v u/\Look X.env s.heap m x u
 cell:∀x c,X.env.cells.lookup x=a3 c->∃v,s.heap.IsCell c v
 free:H X.env.locals=a6
 freeC:∀x c,X.env.cells.lookup x=a3 c->H c=a6
 pin:∀p∈X.pn++pins,s.heap.get? p.1=a3 p.2/\H p.1=a6/\p.1≠X.env.locals/\p.1∉X.fs/\∀v,p.2.data≠.cell v
 hok:HOk X.prog X.w H s.heap
 len:σ.length=X.N.length
section
variable{X:Cx}{pins:k8f}{σ:List (Option V)}{H H':Hp}{s:af}{h':aD}
theorem Cx.Ok.nofr(ok:X.Ok){b:aa}{o:d8}(e:X.base.get? b=a3 o):b∉X.fs:=λhb=>by have:=(ok.funs.mem hb).1;rw[e]at this;cases this
theorem Inv.bs(I:Inv X pins σ H s):∀b o,X.base.get? b=a3 o->s.heap.get? b=a3 o/\H b=a6:=λb o e =>⟨I.base.keep b o (I.ok.bs b o e).1 (I.ok.bs b o e).2 (I.ok.nofr e) (I.ok.noex b o e),I.base.free b o (I.ok.bs b o e).1 (I.ok.bs b o e).2 (I.ok.noex b o e)⟩
theorem Inv.bk(I:Inv X pins σ H s):∀b o,X.base.get? b=a3 o->s.heap.get? b=a3 o:=λb o e=>(I.bs b o e).1
theorem Inv.mod(I:Inv X pins σ H s):Mod X.K X.mg X.base:=I.ok.mod
theorem Inv.kIn(I:Inv X pins σ H s):X.K.In s.heap:=I.ok.mod.kin.keeps I.bk
theorem Inv.lt(I:Inv X pins σ H s):X.env.locals<s.heap.objs.size:=let ⟨_,hn,_⟩:=I.loc;hn.lt
theorem Inv.sz(I:Inv X pins σ H s):X.s₀.heap.objs.size<=s.heap.objs.size:=Xk I.ok.above (cT I.lt)
theorem Inv.nofs(I:Inv X pins σ H s){a:aa}(h:s.heap.objs.size<=a):a∉X.fs:=λhb=>by obtain⟨_,o,ho,_⟩:=I.ok.funs.mem hb;exact absurd (Xj (xu ho) (Xk I.sz h)) (ph _)
theorem Inv.cne(I:Inv X pins σ H s):∀x c,X.env.cells.lookup x=a3 c->c≠X.env.locals:=λx c e z=>by obtain⟨v,o,ho,hd⟩:=I.cell x c e;obtain⟨m,⟨o',es,ep,ho',hd',_⟩,_⟩:=I.loc;rw[z,ho']at ho;cases ho;rw[hd']at hd;cases hd
theorem Inv.funs(I:Inv X pins σ H s):s.heap.FunFrames X.base X.outer:=by
 have all:∀(l:List dB),(∀b∈frs l,b∈X.fs)->X.s₀.heap.FunFrames X.base l->s.heap.FunFrames X.base l:=by
  intro l;induction l with
  |nil=>intro _ _;trivial
  |cons env r ih =>intro hs hl;obtain⟨hk,⟨L,o,hf,hn,ho,hd⟩,hr⟩:=hl;have hL:L∈X.fs:=hs L (by unfold frs;rw[bU,hf];exact xm);obtain⟨sl,e⟩:=I.base.slot L o ho (I.ok.frf L hL) hL λz=>I.ok.exfs L z hL;exact⟨hk,⟨L,_,hf,hn,e,hd⟩,ih (λb hb=>hs b (by unfold frs;rw[bU,hf];exact xg _ hb)) hr⟩
 exact all X.outer (λ_ hb=>hb) I.ok.funs
theorem Inv.stack(I:Inv X pins σ H s):s.heap.FunFrames X.base X.stack:=by
 rcases I.ok.stk with e|⟨e,hf⟩
 .rw[e];exact I.funs
 .rw[e];obtain⟨m,hn,_⟩:=I.loc;refine .cons (by rw[I.ok.kind];decide) hf hn ?_ I.funs;exact Heap.get?_none_of_le (Xk I.ok.bsz I.ok.above)
theorem Inv.stkSub(I:Inv X pins σ H s):∀b∈frs X.stack,b∈X.env.locals::X.fs:=λb hb=>by
 rcases I.ok.stk with e|⟨e,hf⟩
 .rw[e]at hb;exact xg _ hb
 .rw[e]at hb;unfold frs at hb;rw[bU,hf]at hb;exact hb
theorem Inv.stkFree(I:Inv X pins σ H s):∀b∈frs X.stack,H b=a6:=λb hb=>by
 rcases xq.mp (I.stkSub b hb)with e|hb
 .rw[e];exact I.free
 .obtain⟨_,o,ho,_⟩:=I.ok.funs.mem hb;exact I.base.free b o ho (I.ok.frf b hb) λz=>I.ok.exfs b z hb
theorem Inv.step{g':Array f6}{t':Nat}{d':Drawn}{ch:List aa}(I:Inv X pins σ H s)
  (hch:∀b∈ch,(b∈X.ex\/X.s₀.heap.objs.size<=b)/\b≠X.env.locals/\(∀x c,X.env.cells.lookup x=a3 c->c≠b)/\∀p∈X.pn++pins,p.1≠b)
  (keep:∀b o,b≠X.env.locals->b∉X.fs->b∉ch->s.heap.get? b=a3 o->H b=a6->h'.get? b=a3 o)
  (slot:∀b o,b≠X.env.locals->b∈X.fs->b∉ch->s.heap.get? b=a3 o->H b=a6->∃sl,h'.get? b=a3 { o with slots:=sl }) (free:∀b o,b∉ch->s.heap.get? b=a3 o->H b=a6->H' b=a6)
  (there:∀b o,b∉ch->s.heap.get? b=a3 o->∃o',h'.get? b=a3 o')
  (tups:∀b xs,H b=a3 (.tup xs)->H' b=a3 (.tup xs)) (frzs:∀b o u,H b=a3 (.frz o u)->H' b=a3 (.frz o u)) (tbls:∀b ps,H b=a3 (.tbl ps)->∃more,H' b=a3 (.tbl (ps++more)))
  (ns:∀m,s.heap.Ns X.env.locals m->h'.Ns X.env.locals m) (hok:HOk X.prog X.w H' h') (hg:dD g') :
  Inv X pins σ H' { s with heap:=h',gens:=g',drawn:=d',toks:=t' }:=by
 have neL:∀b o,X.s₀.heap.get? b=a3 o->b≠X.env.locals:=λb o e=>Xa (Xj (xu e) I.ok.above);have neC:∀b o,X.s₀.heap.get? b=a3 o->b∉X.ex->b∉ch:=λb o e hx hb=>by
  rcases(hch b hb).1 with z|z
  .exact hx z
  .exact absurd (Xj (xu e) z) (ph _)
 have cellK:∀x c,X.env.cells.lookup x=a3 c->∀v,s.heap.IsCell c v->h'.IsCell c v:=λx c e v ⟨o,ho,hd⟩=>by
  have nch:c∉ch:=λz=>(hch c z).2.2.1 x c e rfl;by_cases hc:c∈X.fs
  .obtain⟨sl,q⟩:=slot c o (I.cne x c e) hc nch ho (I.freeC x c e);exact⟨_,q,hd⟩
  .exact⟨o,keep c o (I.cne x c e) hc nch ho (I.freeC x c e),hd⟩
 refine⟨I.ok,I.os,hg,⟨λb o e n hb hx=>?_,λb o e n hb hx=>?_,λb o e n hx=>?_,λb o e hx=>?_,λb xs e=>tups b xs (I.base.tups b xs e),λb o xs e=>frzs b o xs (I.base.frzs b o xs e),λb ps e=>?_⟩,?_,λx c e=>?_,?_,λx c e=>?_,λp hp=>?_,hok,I.len⟩
 .exact keep b o (neL b o e) hb (neC b o e hx) (I.base.keep b o e n hb hx) (I.base.free b o e n hx)
 .obtain⟨sl,e1⟩:=I.base.slot b o e n hb hx;obtain⟨sl',e2⟩:=slot b _ (neL b o e) hb (neC b o e hx) e1 (I.base.free b o e n hx);exact⟨sl',e2⟩
 .obtain⟨o',e1⟩:=I.base.there b o e hx;exact free b o' (neC b o e hx) e1 (I.base.free b o e n hx)
 .obtain⟨o',e1⟩:=I.base.there b o e hx;exact there b o' (neC b o e hx) e1
 .obtain⟨m1,e1⟩:=I.base.tbls b ps e;obtain⟨m2,e2⟩:=tbls b _ e1;exact⟨m1++m2,by rw[e2,Array.append_assoc]⟩
 .obtain⟨m,hn,hl⟩:=I.loc;refine⟨m,ns m hn,λi x v e1 e2 e3=>?_⟩;obtain⟨u,r,l⟩:=hl i x v e1 e2 e3;refine⟨u,r,?_⟩;rcases l with l|⟨k,c,e,z⟩
  .exact .inl l
  .exact .inr ⟨k,c,e,cellK x c e _ z⟩
 .obtain⟨v,z⟩:=I.cell x c e;exact⟨v,cellK x c e v z⟩
 .obtain⟨m,⟨o,_,_,ho,_⟩,_⟩:=I.loc;exact free _ o (λz=>(hch _ z).2.1 rfl) ho I.free
 .obtain⟨v,o,ho,hd⟩:=I.cell x c e;exact free c o (λz=>(hch c z).2.2.1 x c e rfl) ho (I.freeC x c e)
 .obtain⟨e,n,ne,nf,d⟩:=I.pin p hp;have nch:p.1∉ch:=λz=>(hch p.1 z).2.2.2 p hp rfl;exact⟨keep p.1 p.2 ne nf nch e n,free p.1 p.2 nch e n,ne,nf,d⟩
theorem Inv.un{t':Nat}(I:Inv X pins σ H s)(u:Un X.fs [] H H' s.heap h')(hok:HOk X.prog X.w H' h'):Inv X pins σ H' { s with heap:=h',toks:=t' }:=by
 obtain⟨m,⟨o,es,ep,ho,r⟩,_⟩:=id I.loc;obtain⟨sl,hL⟩:=u.any ho I.free (by simp);exact I.step (g':=s.gens) (d':=s.drawn) (ch:=[]) (λ_ z=>nomatch z) (λb o _ hb _ e n=>u.keep b o e n hb (by simp)) (λb o _ hb _ e n=>u.slot b o e n hb (by simp)) (λb o _ e n=>u.free b o e n (by simp)) (λb o _ e=>u.there b o e (by simp)) u.tups u.frzs u.tbls (λm' hm=>by
  obtain⟨o',es',ep',ho',r'⟩:=hm
  rw[ho]at ho';cases ho'
  exact⟨_,es',ep',hL,r'⟩) hok I.bare
theorem Inv.call{g':Array f6}{t':Nat}{d':Drawn}{ch:List aa}(I:Inv X pins σ H s)(u:Un (frs X.stack) ch H H' s.heap h')(hok:HOk X.prog X.w H' h')(hg:dD g')
  (hch:∀b∈ch,(b∈X.ex\/X.s₀.heap.objs.size<=b)/\b≠X.env.locals/\(∀x c,X.env.cells.lookup x=a3 c->c≠b)/\∀p∈X.pn++pins,p.1≠b) :
  Inv X pins σ H' { s with heap:=h',gens:=g',drawn:=d',toks:=t' }:=by
 obtain⟨m,⟨o,es,ep,ho,r⟩,_⟩:=id I.loc;obtain⟨sl,hL⟩:=u.any ho I.free λz=>(hch _ z).2.1 rfl;exact I.step (ch:=ch) hch (λb o hL hb hc e n=>u.keep b o e n (λz=>(xq.mp (I.stkSub b z)).elim hL hb) hc) (λb o _ _ hc e n=>u.any e n hc) (λb o hc e n=>u.free b o e n hc) (λb o hc e=>u.there b o e hc) u.tups u.frzs u.tbls (λm' hm=>by
  obtain⟨o',es',ep',ho',r'⟩:=hm
  rw[ho]at ho';cases ho'
  exact⟨_,es',ep',hL,r'⟩) hok hg
theorem Inv.turned{t':Nat}{it:aa}(I:Inv X pins σ H s)(k:∀b o,b≠it->s.heap.get? b=a3 o->h'.get? b=a3 o)(hn:H it=a6)(hL:it≠X.env.locals)
  (h1:it∈X.ex\/X.s₀.heap.objs.size<=it) (h2:∀x c,X.env.cells.lookup x=a3 c->c≠it) (h3:∀p∈X.pn++pins,p.1≠it):Inv X pins σ H { s with heap:=h',toks:=t' }:=by
 have nit:∀b u,H b=a3 u->b≠it:=λb u e z=>by rw[z,hn]at e;cases e
 refine I.step (g':=s.gens) (d':=s.drawn) (ch:=[it]) (λb hb=>?_) (λb o _ _ hc e _=>k b o (λz=>hc (by simp[z])) e) (λb o _ _ hc e _=>⟨o.slots,k b o (λz=>hc (by simp[z])) e⟩) (λ_ _ _ _ n=>n)
  (λb o hc e=>⟨o,k b o (λz=>hc (by simp[z])) e⟩) (λ_ _ e=>e) (λ_ _ _ e=>e) (λb ps e=>⟨#[],by rw[e];simp⟩) (λm hm=>?_) (λb u e=>?_) I.bare
 .have e:b=it:=by simpa using hb
  subst e;exact⟨h1,hL,h2,h3⟩
 .obtain⟨o,es,ep,ho,r⟩:=hm;exact⟨o,es,ep,k _ o (c7 hL) ho,r⟩
 .refine(I.hok b u e).stay (λc v hc q=>k c v ?_ q) (λ_ q=>q) (λ_ _ q=>q) λ_ _ _ q=>q;rcases hc with z|z
  .rw[z];exact nit b u e
  .exact nit c _ z
theorem Inv.tok(I:Inv X pins σ H s)(t:Nat):Inv X pins σ H { s with toks:=t }:=I.un (h':=s.heap) (t':=t) Un.refl I.hok
theorem Inv.kept{t':Nat}(I:Inv X pins σ H s)(k:∀b u,s.heap.get? b=a3 u->h'.get? b=a3 u):Inv X pins σ H { s with heap:=h',toks:=t' }:=I.un (Un.kept k) (I.hok.kept k)
theorem Inv.laid{a:aa}{o:HO}{t':Nat}(I:Inv X pins σ H s)(k:∀b u,s.heap.get? b=a3 u->h'.get? b=a3 u)(hp:s.heap.objs.size<=a)(new:jj X.prog X.w (upd H a o) h' a o) :
  Inv X pins σ (upd H a o) { s with heap:=h',toks:=t' }:=I.un (Un.laid k hp (I.hok.fresh hp)) (I.hok.laid k hp new)
theorem Inv.write{x e:aa}{o:HO}{t':Nat}(I:Inv X pins σ H s)(mu:Mut (H x))(he:e=x\/H e=a3 (.own x))(k:∀b u,b≠e->s.heap.get? b=a3 u->h'.get? b=a3 u)(heo:∃u,h'.get? e=a3 u)
  (new:jj X.prog X.w (upd H x o) h' x o):Inv X pins σ (upd H x o) { s with heap:=h',toks:=t' }:=I.un (Un.write mu he k heo) (I.hok.write mu he k heo new)
theorem Inv.pins_of{pins':k8f}(I:Inv X pins σ H s)(h:∀p∈pins',s.heap.get? p.1=a3 p.2/\H p.1=a6/\p.1≠X.env.locals/\p.1∉X.fs/\∀v,p.2.data≠.cell v):Inv X pins' σ H s :=
 ⟨I.ok,I.os,I.bare,I.base,I.loc,I.cell,I.free,I.freeC,λp hp=>(pq.mp hp).elim (λz=>I.pin p (Pn _ z)) (h p),I.hok,I.len⟩
theorem j0a{N:List ah}(hN:N.Nodup){i j:Nat}{x:ah}(a:N[i]?=a3 x)(b:N[j]?=a3 x):i=j:=by obtain⟨h1,e1⟩:=X7.mp a;obtain⟨h2,e2⟩:=X7.mp b;exact(List.getElem_inj hN).mp (e1.trans e2.symm)
theorem Lj{M:ky}{A:aC}{E:k8e}{i:Nat}{x:ah}{v:V}{u:a9}{Q:Unit->af->Prop}(I:Inv X pins σ H s)(hN:X.N.Nodup)(hi:X.N[i]?=a3 x)(hx:Loc X.env.scope x)(r:RelV v u)
  (h:∀s',Inv X pins (σ.set i (a3 v)) H s'->(∃a,cg a s.heap s'.heap/\(a=X.env.locals\/X.env.cells.lookup x=a3 a))->Q () s') (hf:X.fn x=a5\/X.env.scope.names.lookup x=a3 .local:=by first|exact .inl rfl|exact .inr rfl|assumption):ar M A (storeName X.env x u) Q E s:=by
 obtain⟨m,hn,hl⟩:=id I.loc;have hcls:(X.env.scope.kind==.class || (X.env.scope.kind==.module&&X.env.locals != X.env.globals))=a4:=by rw[I.ok.kind];rfl
 have hiσ:i<σ.length:=by rw[I.len];exact(X7.mp hi).1
 have cne:=I.cne;have tracked:∀{a:aa}{h':aD},(∃o,s.heap.get? a=a3 o/\H a=a6)->cg a s.heap h'->HOk X.prog X.w H h':=λ{a h'} ha hs b ob e=>by
  obtain⟨_,_,hfree⟩:=ha;refine(I.hok b ob e).stay (λc w' hc q=>(hs.2 c ?_).trans q) (λ_ q=>q) (λ_ _ q=>q) λ_ _ _ q=>q;rintro rfl;rcases hc with rfl|hc
  .rw[hfree]at e;cases e
  .rw[hfree]at hc;cases hc
 rcases hx with hk|hk
 .refine wpAny_storeName_local hk hn (λh' hn' hs=>?_) hcls;obtain⟨oL,_,_,hoL,_⟩:=id hn;refine h _ ⟨I.ok,I.os,I.bare,⟨λb o e n hb hx=>?_,λb o e n hb hx=>?_,I.base.free,λb o e hx=>?_,I.base.tups,I.base.frzs,I.base.tbls⟩,⟨_,hn',λj y v' e1 e2 e3=>?_⟩,λy c e=>?_,I.free,I.freeC,λp hp=>?_,tracked ⟨oL,hoL,I.free⟩ hs,by simpa using I.len⟩ ⟨_,hs,.inl rfl⟩
  .exact(hs.2 b (Xa (Xj (xu e) I.ok.above))).trans (I.base.keep b o e n hb hx)
  .obtain⟨sl,e1⟩:=I.base.slot b o e n hb hx;exact⟨sl,(hs.2 b (Xa (Xj (xu e) I.ok.above))).trans e1⟩
  .obtain⟨o',e1⟩:=I.base.there b o e hx;exact⟨o',(hs.2 b (Xa (Xj (xu e) I.ok.above))).trans e1⟩
  .by_cases hj:j=i
   .subst hj;rw[hi]at e1;cases e1;rw[cw hiσ]at e2;cases e2;exact⟨u,r,.inl ⟨hk,by simp⟩⟩
   .rw[il (c7 hj)]at e2;obtain⟨u',r',q⟩:=hl j y v' e1 e2 e3;refine⟨u',r',?_⟩;rcases q with ⟨k,e⟩|⟨k,c,e,z⟩
    .refine .inl ⟨k,?_⟩;have:y≠x:=λe=>hj (j0a hN e1 (e▸hi));simp[this,e]
    .exact .inr ⟨k,c,e,z.sameBut hs (cne y c e)⟩
  .obtain⟨w',z⟩:=I.cell y c e;exact⟨w',z.sameBut hs (cne y c e)⟩
  .obtain⟨e,n,ne,nf,d⟩:=I.pin p hp;exact⟨(hs.2 p.1 ne).trans e,n,ne,nf,d⟩
 .have hfn:X.fn x=a5:=by
   rcases hf with z|z
   .exact z
   .rw[z]at hk;cases hk
  obtain⟨c,hc⟩:=I.ok.has x (.inl hk);obtain⟨w',z⟩:=I.cell x c hc;refine wpAny_storeName_cell I.ok.kind hk hc z (λh' hc' hs=>?_);obtain⟨oc,hoc,hocd⟩:=id z;refine h { s with heap:=h' } ⟨I.ok,I.os,I.bare,⟨λb o e n hb hx=>?_,λb o e n hb hx=>?_,I.base.free,λb o e hx=>?_,I.base.tups,I.base.frzs,I.base.tbls⟩,⟨m,hn.sameBut hs (c7 (cne x c hc)),λj y v' e1 e2 e3=>?_⟩,λy c' e=>?_,I.free,I.freeC,λp hp=>?_,tracked ⟨oc,hoc,I.freeC x c hc⟩ hs,by simpa using I.len⟩ ⟨c,hs,.inr hc⟩
  .exact(hs.2 b (Xa (Xj (xu e) (I.ok.cab x c hfn hc)))).trans (I.base.keep b o e n hb hx)
  .obtain⟨sl,e1⟩:=I.base.slot b o e n hb hx;exact⟨sl,(hs.2 b (Xa (Xj (xu e) (I.ok.cab x c hfn hc)))).trans e1⟩
  .obtain⟨o',e1⟩:=I.base.there b o e hx;exact⟨o',(hs.2 b (Xa (Xj (xu e) (I.ok.cab x c hfn hc)))).trans e1⟩
  .by_cases hj:j=i
   .subst hj;rw[hi]at e1;cases e1;rw[cw hiσ]at e2;cases e2;exact⟨u,r,.inr ⟨.inl hk,c,hc,hc'⟩⟩
   .rw[il (c7 hj)]at e2;obtain⟨u',r',q⟩:=hl j y v' e1 e2 e3;refine⟨u',r',?_⟩;rcases q with q|⟨k,c',e,z'⟩
    .exact .inl q
    .refine .inr ⟨k,c',e,z'.sameBut hs ?_⟩;rintro rfl;exact hj (j0a hN e1 (I.ok.inj _ _ _ e hc▸hi))
  .by_cases hcc:c'=c
   .subst hcc;exact⟨_,hc'⟩
   .obtain⟨w2,z2⟩:=I.cell y c' e;exact⟨w2,z2.sameBut hs hcc⟩
  .obtain⟨e,n,ne,nf,d⟩:=I.pin p hp;refine⟨(hs.2 p.1 ?_).trans e,n,ne,nf,d⟩;intro q;rw[q,hoc]at e;have q':oc=p.2:=av e;exact d w' (by rw[<-q'];exact hocd)
theorem Eh{M:ky}{A:aC}{E:k8e}{i:Nat}{x:ah}{v:V}{u:a9}{Q:Unit->af->Prop}(I:Inv X pins σ H s)(hN:X.N.Nodup)(hi:X.N[i]?=a3 x)(hx:Loc X.env.scope x)(r:RelV v u)
  (h:∀s',Inv X pins (σ.set i (a3 v)) H s'->Q () s') (hf:X.fn x=a5\/X.env.scope.names.lookup x=a3 .local:=by first|exact .inl rfl|exact .inr rfl|assumption):ar M A (storeName X.env x u) Q E s :=
 Lj I hN hi hx r (λs' I' _=>h s' I') hf
theorem Inv.call'{s':af}{ch:List aa}(I:Inv X pins σ H s)(ho:s'.os=s.os)(u:Un (frs X.stack) ch H H' s.heap s'.heap)(hok:HOk X.prog X.w H' s'.heap)(hg:dD s'.gens)
  (hch:∀b∈ch,(b∈X.ex\/X.s₀.heap.objs.size<=b)/\b≠X.env.locals/\(∀x c,X.env.cells.lookup x=a3 c->c≠b)/\∀p∈X.pn++pins,p.1≠b):Inv X pins σ H' s':=by
 obtain⟨h',g',d',t',o'⟩:=s';have e:o'=s.os:=ho;subst e;exact I.call (g':=g') (t':=t') (d':=d') u hok hg hch
end
abbrev XK:=a9->Option aa->Hp->Prop
noncomputable abbrev St:=List (Option V)
abbrev VK:=V->Hp->Prop
abbrev TE:=St->Hp->VK->Prop
abbrev TT:=St->Hp->(Bool->Hp->Prop)->Prop
abbrev TA:=St->Hp->(List V->Hp->Prop)->Prop
structure Ends where
 nx:St->Hp->Prop
 rt:VK
 bk:St->Hp->Prop:=λ_ _=>False
 ct:St->Hp->Prop:=λ_ _=>False
abbrev TS:=Ends->St->Hp->Prop
def EP(X:Cx)(pins:k8f)(σ:St)(Q:VK)(u:a9)(s':af):Prop:=∃v H',Inv X pins σ H' s'/\RelV v u/\Q v H'
def TP(X:Cx)(pins:k8f)(σ:St)(Q:Bool->Hp->Prop)(b:Bool)(s':af):Prop:=∃H',Inv X pins σ H' s'/\Q b H'
def AP(X:Cx)(pins:k8f)(σ:St)(Q:List V->Hp->Prop)(us:List a9)(s':af):Prop:=∃vs H',Inv X pins σ H' s'/\Vals vs us/\Q vs H'
def Ext(X:Cx)(H1 H2:Hp)(s':af):Prop:=∀b,H2 b=H1 b\/∃x o v,X.env.cells.lookup x=a3 b/\X.fn x=a5/\H2 b=a3 (.frz o (.own 0))/\s'.heap.get? b=a3 o/\o.data=.cell v
theorem Ext.refl{X:Cx}{H:Hp}{s':af}:Ext X H H s':=λ_=>.inl rfl
def SP(X:Cx)(pins:k8f)(D:Ends)(f:Flow)(s':af):Prop :=
 match f with
 |.next=>∃σ' H',Inv X pins σ' H' s'/\D.nx σ' H'
 |.brk=>∃σ' H',Inv X pins σ' H' s'/\D.bk σ' H'
 |.cont=>∃σ' H',Inv X pins σ' H' s'/\D.ct σ' H'
 |.ret u=>∃v σ' H' H2,Inv X pins σ' H' s'/\RelV v u/\Ext X H' H2 s'/\D.rt v H2
def PE(X:Cx)(e:aj)(t:TE):Prop :=
 ∀(pins:k8f) (s:af) (σ:St) (H:Hp) (Q:VK),Inv X pins σ H s->t σ H Q->ar (ax X.prog X.w) X.A (ay e X.env) (EP X pins σ Q) X.xe s
def PT(X:Cx)(e:aj)(t:TT):Prop :=
 ∀(pins:k8f) (s:af) (σ:St) (H:Hp) (Q:Bool->Hp->Prop),Inv X pins σ H s->t σ H Q->ar (ax X.prog X.w) X.A (fG e X.env (ay e X.env)) (TP X pins σ Q) X.xe s
def PW(X:Cx)(e:aj)(t:TT):Prop :=
 ∀(whole:Sem a9)(pins:k8f) (s:af) (σ:St) (H:Hp) (Q:Bool->Hp->Prop),Inv X pins σ H s->t σ H Q->ar (ax X.prog X.w) X.A (fG e X.env whole) (TP X pins σ Q) X.xe s
def PA(X:Cx)(es:List aj)(t:TA):Prop :=
 ∀(pos:aK)(pins:k8f) (s:af) (σ:St) (H:Hp) (Q:List V->Hp->Prop),Inv X pins σ H s->t σ H Q->ar (ax X.prog X.w) X.A (iS (aM pos (a8 es X.env))) (AP X pins σ Q) X.xe s
def PS(X:Cx)(st:aQ)(t:TS):Prop :=
 ∀(pins:k8f) (s:af) (σ:St) (H:Hp) (D:Ends),Inv X pins σ H s->t D σ H->ar (ax X.prog X.w) X.A (exec st X.env) (SP X pins D) X.xe s
def PSs(X:Cx)(st:List aQ)(t:TS):Prop :=
 ∀(pins:k8f) (s:af) (σ:St) (H:Hp) (D:Ends),Inv X pins σ H s->t D σ H->ar (ax X.prog X.w) X.A (execs st X.env) (SP X pins D) X.xe s
theorem thn{α:Type}{t:Sem α}{Q Q':α->af->Prop}{M:ky}{A:aC}{E:k8e}{s:af}(h:ar M A t Q E s)(hQ:∀a s,Q a s->Q' a s):ar M A t Q' E s:=bH h hQ λ_ _ x=>x
section
variable{X:Cx}
theorem bin{a b:aj}{ta tb:TE}(ha:PE X a ta)(hb:PE X b tb){pins:k8f}{s:af}{σ:St}{H:Hp}{R:V->V->Hp->Prop}(I:Inv X pins σ H s)(h:ta σ H λx H1=>tb σ H1 λy H2=>R x y H2)
  {α:Type} {Q:α->af->Prop} {f:a9->a9->Sem α}
  (hf:∀v u s2 x y H2,Inv X pins σ H2 s2->RelV x v->RelV y u->R x y H2->ar (ax X.prog X.w) X.A (f v u) Q X.xe s2) :
  ar (ax X.prog X.w) X.A (ay a X.env) (λv s₁=>ar (ax X.prog X.w) X.A (ay b X.env) (λu s₂=>ar (ax X.prog X.w) X.A (f v u) Q X.xe s₂) X.xe s₁) X.xe s:=by
 refine thn (ha pins s σ H _ I h) λv s1 ⟨x,H1,I1,r1,q1⟩=>?_;refine thn (hb pins s1 σ H1 _ I1 q1) λu s2 ⟨y,H2,I2,r2,q2⟩=>?_;exact hf v u s2 x y H2 I2 r1 r2 q2
def jkn(i:Nat):TE:=λσ H Q=>∃v,σ[i]?=a3 (a3 v)/\Q v H
def tC(v:V):TE:=λ_ H Q=>Q v H
theorem J8 {i:Nat} {x:ah} {pos:aK} (hN:X.N[i]?=a3 x) (hv:Vis X.env.scope x) (hd:(x==k8h)=a4:=by decide) (hcd:(x==k8i)=a4:=by decide):PE X (.Name x pos) (jkn i):=by
 intro pins s σ H Q I h;obtain⟨v,e,h⟩:=h;obtain⟨m,hn,hl⟩:=I.loc;obtain⟨u,r,l⟩:=hl i x v hN e hv;have fin:EP X pins σ Q u s:=⟨v,H,I,r,h⟩
 rcases l with ⟨hk,hm⟩|⟨hk,c,hc,hcell⟩
 .exact k8 (wpAny_loadName_local I.ok.kind hk hn hm fin) hd
 .rcases hk with hk|hk
  .exact k8 (wpAny_loadName_cell I.ok.kind hk hc hcell fin) hd
  .exact k8 (wpAny_loadName_free I.ok.kind hk hc hcell fin hcd) hd
theorem j5f{i j pos}:PE X (.Constant (.int i) j pos) (tC (.int i)):=λ_ _ _ H _ I h=>wpAny_Constant_int ⟨.int i,H,I.tok _,⟨_,rfl⟩,h⟩
theorem jj4{b j pos}:PE X (.Constant (.bool b) j pos) (tC (.bl b)):=λ_ _ _ H _ I h=>Constant_bool ⟨.bl b,H,I,rfl,h⟩
theorem j5c{j pos}:PE X (.Constant .none j pos) (tC .non):=λ_ _ _ H _ I h=>mf ⟨.non,H,I,rfl,h⟩
theorem j5a{x j pos}:PE X (.Constant (.str x) j pos) (tC (.str x)):=λ_ _ _ H _ I h=>Calls.Constant_str ⟨.str x,H,I.tok _,⟨_,rfl⟩,h⟩
def Gl(X:Cx)(x:ah):Prop:=X.env.kindOf x=a3 .globalImplicit
theorem Yd{E:k8e}{pins:k8f}{s:af}{σ:St}{H:Hp}{x:ah}{u:a9}{pos:aK}{Q:k8e}(I:Inv X pins σ H s)(hg:Gl X x)(hm:X.mg x=a3 u)(h:Q u s)
  (hd:(x==k8h)=a4:=by decide):ar (ax X.prog X.w) X.A (ay (.Name x pos) X.env) Q E s :=
 fP I.ok.kind hg (Calls.loadGlobal_global (by rw[I.ok.glob];exact I.mod.glob.keeps I.bk) hm h) hd
theorem Qs{E:k8e}{pins:k8f}{s:af}{σ:St}{H:Hp}{x:ah}{u:a9}{pos:aK}{Q:k8e}(I:Inv X pins σ H s)(hg:Gl X x)(hm:X.mg x=a6)(hv:aY x=a3 u)(h:Q u s)
  (hn:x ≠ "__name__":=by decide) (hd:(x==k8h)=a4:=by decide):ar (ax X.prog X.w) X.A (ay (.Name x pos) X.env) Q E s:=by
 obtain⟨mb,h1,h2⟩:=I.mod.blt;exact fP I.ok.kind hg (Calls.loadGlobal_builtin (by rw[I.ok.glob];exact I.mod.glob.keeps I.bk) hm (by rw[I.ok.blt];exact h1.keeps I.bk) ((h2 x hn).trans hv) h) hd
theorem jc7 {x:ah} {v:V} {u:a9} {pos:aK} (hg:Gl X x) (hm:X.mg x=a3 u) (r:RelV v u) (hd:(x==k8h)=a4:=by decide):PE X (.Name x pos) (tC v) :=
 λ_ _ _ H _ I h=>Yd I hg hm ⟨v,H,I,r,h⟩ hd
theorem jc8 {x:ah} {v:V} {u:a9} {pos:aK} (hg:Gl X x) (hm:X.mg x=a6) (hv:aY x=a3 u) (r:RelV v u) (hn:x ≠ "__name__":=by decide) (hd:(x==k8h)=a4:=by decide):PE X (.Name x pos) (tC v) :=
 λ_ _ _ H _ I h=>Qs I hg hm hv ⟨v,H,I,r,h⟩ hn hd
variable{a b:aj}{ta tb:TE}{pos:aK}
def PC(X:Cx)(op:fV)(a b:aj)(t:TE):Prop :=
 ∀(pins:k8f) (s:af) (σ:St) (H:Hp) (Q:VK),Inv X pins σ H s->t σ H Q ->
  ar (ax X.prog X.w) X.A (ay a X.env) (λv s₁=>ar (ax X.prog X.w) X.A (ay b X.env) (λu s₂=>ar (ax X.prog X.w) X.A (aN op v u) (EP X pins σ Q) X.xe s₂) X.xe s₁) X.xe s
theorem j0b(b:aj){op:fV}(h:op≠.In)(h2:op≠.NotIn):aG op b=a4:=by
 have e1:(op==CmpOp.In)=a4:=by cases op<;>first|rfl|exact absurd rfl h
 have e2:(op==CmpOp.NotIn)=a4:=by cases op<;>first|rfl|exact absurd rfl h2
 cases b<;>simp[aG,e1,e2]
def jku(ta:TE):TE:=λσ H Q=>ta σ H λx H1=>Q (.bl (decide (x=.non))) H1
theorem RelV.none_iff{x:V}{v:a9}(r:RelV x v):(v==aR)=decide (x=.non):=by
 cases x with
 |non=>cases r;rfl
 |bl _=>cases r;rfl
 |int _=>obtain⟨t,rfl⟩:=r;rfl
 |str _=>obtain⟨t,rfl⟩:=r;rfl
 |byt _=>obtain⟨t,rfl⟩:=r;rfl
 |flt _=>obtain⟨t,rfl⟩:=r;rfl
 |ref _=>cases r;rfl
 |ty _=>cases r;rfl
theorem j5g{j pos'}(ha:PE X a ta):PC X .Is a (.Constant .none j pos') (jku ta):=by intro pins s σ H Q I h;refine thn (ha pins s σ H _ I h) λv s1 ⟨x,H1,I1,r1,q1⟩=>?_;exact mf (is_none_gen ⟨.bl _,H1,I1,by rw[r1.none_iff];rfl,q1⟩)
def tB(t:TE):TT:=λσ H Q=>t σ H λx H1=>∃c,x=.bl c/\Q c H1
theorem jff{op:fV}{t:TE}(h:PC X op a b t)(h1:aG op b=a4:=by first|exact j0b _ (by decide) (by decide)|rfl):PE X (.Compare a [op] [b] pos) t:=λpins s σ H Q I hw=>lT (h pins s σ H Q I hw) h1
theorem jf9{op:fV}{t:TE}(h:PC X op a b t)(h1:aG op b=a4:=by first|exact j0b _ (by decide) (by decide)|rfl):PT X (.Compare a [op] [b] pos) (tB t):=by intro pins s σ H Q I hw;refine jG (thn (h pins s σ H _ I hw) λv s1 h1=>thn h1 λu s2 h2=>thn h2 λc s3 ⟨x,H1,I1,r1,q1⟩=>?_) h1;obtain⟨d,rfl,q⟩:=q1;cases r1;exact b9 ⟨H1,I1,q⟩
theorem jf7{e:aj}{t:TE}(h:PE X e t)(he:∀whole,fG e X.env whole=(do let v <-whole;fR e.pos;cj [v] (truthy v)):=by intro _;rfl):PT X e (tB t):=by intro pins s σ H Q I hw;refine isTrue_plain (thn (h pins s σ H _ I hw) λv s1 ⟨x,H1,I1,r1,q1⟩=>?_) (he _);obtain⟨d,rfl,q⟩:=q1;cases r1;exact b9 ⟨H1,I1,q⟩
variable{tA tB':TT}{rest:List aj}
def jky(t u:TT):TT:=λσ H Q=>t σ H λc H1=>if c=a5 then u σ H1 Q else Q a4 H1
def tOr(t u:TT):TT:=λσ H Q=>t σ H λc H1=>if c=a5 then Q a5 H1 else u σ H1 Q
def jkr(t:TT):TT:=λσ H Q=>t σ H λc H1=>Q (!c) H1
theorem jc2(ha:PT X a tA):PW X (.BoolOp .And [a] pos) tA:=by
 intro wh pins s σ H Q I h;refine isTrue_and (thn (ha pins s σ H Q I h) λc s1 e=>?_);cases c with
 |true=>exact isTrue_and_nil e
 |false=>exact e
theorem jf5(ha:PT X a tA):PW X (.BoolOp .Or [a] pos) tA:=by
 intro wh pins s σ H Q I h;refine isTrue_or (thn (ha pins s σ H Q I h) λc s1 e=>?_);cases c with
 |false=>exact isTrue_or_nil e
 |true=>exact e
theorem jf6(ha:PT X a tA)(hb:PW X (.BoolOp .And (b::rest) pos) tB'):PW X (.BoolOp .And (a::b::rest) pos) (jky tA tB'):=by
 intro wh pins s σ H Q I h;refine isTrue_and (thn (ha pins s σ H _ I h) λc s1 ⟨H1,I1,q1⟩=>?_);cases c with
 |true=>exact hb wh pins s1 σ H1 Q I1 q1
 |false=>exact⟨H1,I1,q1⟩
theorem jj3(ha:PT X a tA)(hb:PW X (.BoolOp .Or (b::rest) pos) tB'):PW X (.BoolOp .Or (a::b::rest) pos) (tOr tA tB'):=by
 intro wh pins s σ H Q I h;refine isTrue_or (thn (ha pins s σ H _ I h) λc s1 ⟨H1,I1,q1⟩=>?_);cases c with
 |true=>exact⟨H1,I1,q1⟩
 |false=>exact hb wh pins s1 σ H1 Q I1 q1
theorem jf8(ha:PT X a tA):PT X (.UnaryOp .Not a pos) (jkr tA):=by intro pins s σ H Q I h;exact isTrue_not (ha pins s σ H (λc H1=>Q (!c) H1) I h)
def jir(ta tb:TE):TE:=λσ H Q=>ta σ H λx H1=>∃c,x=.bl c/\if c=a5 then tb σ H1 Q else Q (.bl a4) H1
theorem j5b{op}{t:TE}(h:PE X a t):PE X (.BoolOp op [a] pos) t:=λpins s σ H Q I hw=>BoolOp_one (h pins s σ H Q I hw)
theorem jfh(ha:PE X a ta)(hb:PE X (.BoolOp .And (b::rest) pos) tb):PE X (.BoolOp .And (a::b::rest) pos) (jir ta tb):=by
 intro pins s σ H Q I h;refine BoolOp_and (thn (ha pins s σ H _ I h) λv s1 ⟨x,H1,I1,r1,q1⟩=>?_);obtain⟨c,rfl,q1⟩:=q1;cases r1;refine b9 ?_;cases c with
 |true=>exact hb pins s1 σ H1 Q I1 q1
 |false=>exact⟨.bl a4,H1,I1,rfl,q1⟩
def tIf(t:TT)(ta tb:TE):TE:=λσ H Q=>t σ H λc H1=>if c=a5 then ta σ H1 Q else tb σ H1 Q
theorem j82{c:aj}(hc:PT X c tA)(ha:PE X a ta)(hb:PE X b tb):PE X (.IfExp c a b pos) (tIf tA ta tb):=by
 intro pins s σ H Q I h;refine wpAny_IfExp (thn (hc pins s σ H _ I h) λd s1 ⟨H1,I1,q1⟩=>?_);cases d with
 |true=>exact ha pins s1 σ H1 Q I1 q1
 |false=>exact hb pins s1 σ H1 Q I1 q1
end
def SqL(K:k8d)(H:Hp)(a:aa)(xs:List V):Prop :=
 Rd H a (.lst xs) \/
  ∃(o:d8)(its:Array a9)(n:Nat),K.lookup a=a3 o/\o.cls=.type "list"/\o.dict=a6/\o.data=.seq its n/\its.size<=ak/\Vals xs its.toList
def SqT(K:k8d)(H:Hp)(a:aa)(xs:List V):Prop :=
 Rd H a (.tup xs) \/
  ∃(o:d8)(its:Array a9)(n:Nat),K.lookup a=a3 o/\o.cls=.type "tuple"/\o.dict=a6/\o.data=.seq its n/\its.size<=ak/\Vals xs its.toList
noncomputable def jlo:a9->Option V
 |.none=>a3 .non
 |.bool b=>a3 (.bl b)
 |.int i _=>a3 (.int i)
 |.str x _=>a3 (.str x)
 |.bytes b _=>a3 (.byt b)
 |.float b _=>a3 (.flt b)
 |.ref a=>a3 (.ref a)
 |.type n=>a3 (.ty n)
 |_=>a6
theorem RelV.abs{x:V}{u:a9}(r:RelV x u):jlo u=a3 x:=by
 cases x with
 |non=>cases r;rfl
 |bl _=>cases r;rfl
 |int _=>obtain⟨t,rfl⟩:=r;rfl
 |str _=>obtain⟨t,rfl⟩:=r;rfl
 |byt _=>obtain⟨t,rfl⟩:=r;rfl
 |flt _=>obtain⟨t,rfl⟩:=r;rfl
 |ref _=>cases r;rfl
 |ty _=>cases r;rfl
theorem RelV.inj{x y:V}{u:a9}(r:RelV x u)(q:RelV y u):x=y:=av (r.abs.symm.trans q.abs)
theorem Vals.inj:∀{xs ys:List V}{us:List a9},Vals xs us->Vals ys us->xs=ys
 |_,_,_,.nil,.nil=>rfl
 |_,_,_,.cons r t,.cons r' t'=>by rw[r.inj r',Vals.inj t t']
section
variable{X:Cx}{pins:k8f}{σ:St}{H:Hp}{s:af}{a:aa}{xs ys:List V}
theorem Inv.list(I:Inv X pins σ H s)(h:SqL X.K H a xs):∃its:List a9,Vals xs its/\PlainL s.heap a its.toArray/\xs.length<=ak:=by
 rcases h with h|⟨o,its,n,hk,hc,hd,hs,hz,r⟩
 .obtain⟨z,its,n,r,e⟩:=h.ok I.hok;exact⟨its,r,⟨_,n,e,rfl,rfl,rfl⟩,z⟩
 .refine⟨its.toList,r,⟨o,n,I.kIn a o hk,hc,hd,by simpa using hs⟩,?_⟩;have e:=r.length;simp only[cK]at e;omega
theorem Inv.tuple(I:Inv X pins σ H s)(h:SqT X.K H a xs):∃its:List a9,Vals xs its/\i4 s.heap a its.toArray/\xs.length<=ak:=by
 rcases h with h|⟨o,its,n,hk,hc,hnd,hs,hz,r⟩
 .obtain⟨z,its,r,p,_⟩:=h.ok I.hok;exact⟨its,r,p,z⟩
 .refine⟨its.toList,r,⟨o,I.kIn a o hk,hc,n,by simpa using hs⟩,?_⟩;have e:=r.length;simp only[cK]at e;omega
theorem Inv.tupD(I:Inv X pins σ H s)(h:SqT X.K H a xs):V8 s.heap a:=by
 rcases h with h|⟨o,its,n,hk,hc,hnd,hs,hz,r⟩
 .obtain⟨z,its,r,p,q⟩:=h.ok I.hok;exact q
 .intro o' e;rw[I.kIn a o hk]at e;cases e;exact hnd
theorem Inv.list_inj(I:Inv X pins σ H s)(h:SqL X.K H a xs)(h':SqL X.K H a ys):xs=ys:=by
 obtain⟨its,r,⟨o,n,e,_,_,d⟩,_⟩:=I.list h;obtain⟨its',r',⟨o',n',e',_,_,d'⟩,_⟩:=I.list h';rw[e]at e';cases e';rw[d]at d';injection d' with d1 _;have:its=its':=by simpa using congrArg kn d1
 subst this;exact r.inj r'
theorem Inv.tuple_inj(I:Inv X pins σ H s)(h:SqT X.K H a xs)(h':SqT X.K H a ys):xs=ys:=by
 obtain⟨its,r,⟨o,e,_,n,d⟩,_⟩:=I.tuple h;obtain⟨its',r',⟨o',e',_,n',d'⟩,_⟩:=I.tuple h';rw[e]at e';cases e';rw[d]at d';injection d' with d1 _;have:its=its':=by simpa using congrArg kn d1
 subst this;exact r.inj r'
end
noncomputable abbrev Cx.wish(X:Cx)(E:k8e):Cx:={ X with xe:=E }
noncomputable abbrev Cx.nox(X:Cx):Cx:=X.wish λ_ _=>False
theorem Cx.Ok.wish{X:Cx}(ok:X.Ok)(E:k8e):(X.wish E).Ok :=
 ⟨ok.mod,ok.kind,ok.glob,ok.blt,ok.above,ok.inj,ok.has,ok.cab,ok.hd,ok.frames,ok.stk,ok.exf,ok.bs,ok.bsz,ok.noex,ok.exfs,ok.funs,ok.frf⟩
theorem Cx.Ok.unwish{X:Cx}{E:k8e}(ok:(X.wish E).Ok):X.Ok :=
 ⟨ok.mod,ok.kind,ok.glob,ok.blt,ok.above,ok.inj,ok.has,ok.cab,ok.hd,ok.frames,ok.stk,ok.exf,ok.bs,ok.bsz,ok.noex,ok.exfs,ok.funs,ok.frf⟩
section
variable{X:Cx}{pins:k8f}{σ:St}{H:Hp}{s:af}{E:k8e}
theorem Inv.wish(I:Inv X pins σ H s)(E:k8e):Inv (X.wish E) pins σ H s:=⟨I.ok.wish E,I.os,I.bare,I.base,I.loc,I.cell,I.free,I.freeC,I.pin,I.hok,I.len⟩
theorem Inv.unwish(I:Inv (X.wish E) pins σ H s):Inv X pins σ H s:=⟨I.ok.unwish,I.os,I.bare,I.base,I.loc,I.cell,I.free,I.freeC,I.pin,I.hok,I.len⟩
theorem SP.unwish{D:Ends}{f:Flow}{s':af}(h:SP (X.wish E) pins D f s'):SP X pins D f s':=by
 cases f with
 |next=>obtain⟨σ',H',I,q⟩:=h;exact⟨σ',H',I.unwish,q⟩
 |brk=>obtain⟨σ',H',I,q⟩:=h;exact⟨σ',H',I.unwish,q⟩
 |cont=>obtain⟨σ',H',I,q⟩:=h;exact⟨σ',H',I.unwish,q⟩
 |ret u=>obtain⟨v,σ',H',H2,I,r,x,q⟩:=h;exact⟨v,σ',H',H2,I.unwish,r,x,q⟩
theorem PSs.nox{st:List aQ}{t:TS}(h:PSs X.nox st t):PSs X st t:=λpins s σ H D I hw =>bH (h pins s σ H D (I.wish _) hw) (λ_ _ q=>q.unwish) λ_ _ z=>aT z
end
section
variable{X:Cx}{st:aQ}{rest:List aQ}{t u:TS}{e:aj}{te:TE}{pos:aK}
def jin:TS:=λD σ H=>D.nx σ H
def jkp(t u:TS):TS:=λD σ H=>t { D with nx:=u D } σ H
theorem j20:PSs X [] jin:=λ_ _ σ H _ I h=>gD ⟨σ,H,I,h⟩
theorem zu(h1:PS X st t)(h2:PSs X rest u):PSs X (st::rest) (jkp t u):=by
 intro pins s σ H D I h;refine kT (thn (h1 pins s σ H { D with nx:=u D } I h) λf s1 q=>?_);cases f with
 |next =>obtain⟨σ',H',I',q⟩:=q;exact h2 pins s1 σ' H' D I' q
 |ret v=>exact q
 |brk=>exact q
 |cont=>exact q
theorem Mp(h1:PS X st t):PSs X [st] t:=by
 intro pins s σ H D I h;refine kT (thn (h1 pins s σ H D I h) λf s1 q=>?_);cases f with
 |next=>exact gD q
 |ret v=>exact q
 |brk=>exact q
 |cont=>exact q
theorem Inv.quiet{pins:k8f}{σ:St}{H:Hp}{s:af}(I:Inv X pins σ H s):interactive X.env=a4:=by simp[interactive,I.ok.kind]
def jio(te:TE):TS:=λD σ H=>te σ H λ_ H1=>D.nx σ H1
theorem Uz(he:PE X e te)(hs:aE e a6 pos.line X.env=pure a4:=by rfl):PS X (.Expr e pos) (jio te):=by intro pins s σ H D I h;exact wpAny_Expr_any (thn (he pins s σ H _ I h) λv s1 ⟨x,H1,I1,r1,q1⟩=>⟨σ,H1,I1,q1⟩) I.quiet hs
def jkq(te:TE):TS:=λD σ H=>te σ H D.rt
theorem Uy(he:PE X e te):PS X (.Return (a3 e) pos) (jkq te):=by intro pins s σ H D I h;exact kv (thn (he pins s σ H _ I h) λv s1 ⟨x,H1,I1,r1,q1⟩=>⟨x,σ,H1,H1,I1,r1,.refl,q1⟩)
def jkv(c:TT)(t u:TS):TS:=λD σ H=>c σ H λb H1=>if b=a5 then t D σ H1 else u D σ H1
theorem Ny{c:aj}{a b:List aQ}{tc:TT}(hc:PT X c tc)(ha:PSs X a t)(hb:PSs X b u):PS X (.If c a b pos) (jkv tc t u):=by
 intro pins s σ H D I h;refine wpAny_If (thn (hc pins s σ H _ I h) λd s1 ⟨H1,I1,q1⟩=>?_);cases d with
 |true=>exact ha pins s1 σ H1 D I1 q1
 |false=>exact hb pins s1 σ H1 D I1 q1
end
abbrev TG:=V->St->Hp->(St->Hp->Prop)->Prop
abbrev TGs:=List V->St->Hp->(St->Hp->Prop)->Prop
def PG(X:Cx)(target:aj)(t:TG):Prop :=
 ∀(pins:k8f) (s:af) (σ:St) (H:Hp) (v:V) (u:a9) (Q:St->Hp->Prop),Inv X pins σ H s->RelV v u->t v σ H Q ->
  ar (ax X.prog X.w) X.A (cL target X.env u) (λ_ s'=>∃σ' H',Inv X pins σ' H' s'/\Q σ' H') X.xe s
def PGs(X:Cx)(ts:List aj)(t:TGs):Prop :=
 ∀(pins:k8f) (s:af) (σ:St) (H:Hp) (vs:List V) (us:List a9) (Q:St->Hp->Prop),Inv X pins σ H s->Vals vs us->t vs σ H Q ->
  ar (ax X.prog X.w) X.A (assignInOrder ((bg ts X.env).map (·.2)) us) (λ_ s'=>∃σ' H',Inv X pins σ' H' s'/\Q σ' H') X.xe s
abbrev j47:=V->V->V->Hp->(Hp->Prop)->Prop
def jif(X:Cx)(t:j47):Prop :=
 ∀(pins:k8f) (s:af) (σ:St) (H:Hp) (o i v:V) (ov iv u:a9) (Q:Hp->Prop),Inv X pins σ H s->RelV o ov->RelV i iv->RelV v u->t o i v H Q ->
  ar (ax X.prog X.w) X.A (setItem ov iv u) (λ_ s'=>∃H',Inv X pins σ H' s'/\Q H') X.xe s
section
variable{X:Cx}{pos:aK}
def jav(i:Nat):TG:=λv σ H Q=>Q (σ.set i (a3 v)) H
theorem Zv{i:Nat}{x:ah}(hN:X.N.Nodup)(hi:X.N[i]?=a3 x)(hx:Loc X.env.scope x)(hf:X.fn x=a5\/X.env.scope.names.lookup x=a3 .local:=by first|exact .inl rfl|exact .inr rfl|assumption):PG X (.Name x pos) (jav i):=by intro pins s σ H v u Q I r h;exact ku (Eh I hN hi hx r (λs' I'=>⟨_,H,I',h⟩) hf)
def jlf:TGs:=λvs σ H Q=>vs=[]/\Q σ H
def jju(t:TG)(u:TGs):TGs:=λvs σ H Q=>∃v r,vs=v::r/\t v σ H λσ' H'=>u r σ' H' Q
theorem j23:PGs X [] jlf:=by intro pins s σ H vs us Q I r h;obtain⟨e,h⟩:=h;subst e;cases r;exact assignInOrder_nil ⟨σ,H,I,h⟩
theorem Yn{e:aj}{es:List aj}{t:TG}{u:TGs}(h1:PG X e t)(h2:PGs X es u)
  (hs:(bg (e::es) X.env).map (·.2)=cL e X.env::(bg es X.env).map (·.2):=by rfl):PGs X (e::es) (jju t u):=by
 intro pins s σ H vs us Q I r h;obtain⟨v,vr,e1,h⟩:=h;subst e1;cases r with
 |cons r rr =>rw[hs];refine assignInOrder_cons (thn (h1 pins s σ H _ _ _ I r h) λ_ s1 ⟨σ1,H1,I1,q1⟩=>?_);exact h2 pins s1 σ1 H1 _ _ Q I1 rr q1
def jld(K:k8d)(n:Nat)(t:TGs):TG:=λv σ H Q=>∃a xs,v=.ref a/\SqT K H a xs/\xs.length=n/\t xs σ H Q
theorem j58{es:List aj}{k:Nat}{t:TGs}{n:Nat}(hc:X.calm=a5)(h:PGs X es t)
  (hn:(bg es X.env).length=n:=by rfl) (hst:(bg es X.env).findIdx? (·.1)=a6:=by rfl):PG X (.Tuple es k pos) (jld X.K n t):=by
 intro pins s σ H v u Q I r hw;obtain⟨a,xs,e1,hq,hl,hw⟩:=hw;subst e1;cases r;obtain⟨its,rv,ht,hz⟩:=I.tuple hq;refine assign_Tuple_tuple (I.ok.hd hc) ht (by simp[hn,<-hl,rv.length]) hst λh' hx=>?_;have I1:Inv X pins σ H { s with heap:=h' }:=I.kept (t':=s.toks) λb o e=>hx b o (Xa (xu e)) e;exact h pins _ σ H xs _ Q I1 (by simpa using rv) hw
def jle(to ti:TE)(t:j47):TG:=λv σ H Q=>to σ H λo H1=>ti σ H1 λi H2=>t o i v H2 λH3=>Q σ H3
theorem jfe{o i:aj}{to ti:TE}{t:j47}(ho:PE X o to)(hi:PE X i ti)(hs:jif X t)
  (ha:∀v,cL (.Subscript o i pos) X.env v=(do
   let ov <-cj [v] (ay o X.env)
   let iv <-cj [v,ov] (ay i X.env)
   fR pos
   cj [v,ov,iv] (setItem ov iv v)
   release [v,ov,iv] []):=by intro _;rfl):PG X (.Subscript o i pos) (jle to ti t):=by
 intro pins s σ H v u Q I r h;rw[ha];refine a7 (bq (thn (ho pins s σ H _ I h) λov s1 ⟨x,H1,I1,r1,q1⟩=>?_));refine a7 (bq (thn (hi pins s1 σ H1 _ I1 q1) λiv s2 ⟨y,H2,I2,r2,q2⟩=>?_));refine a7 (fw (a7 (bq (thn (hs pins s2 σ H2 x y v ov iv u _ I2 r1 r2 r q2) λ_ s3 ⟨H3,I3,q3⟩=>?_))));exact wpAny_release ⟨σ,H3,I3,q3⟩
def jej(te:TE)(g:TG):TS:=λD σ H=>te σ H λx H1=>g x σ H1 D.nx
theorem jfa{tg e:aj}{te:TE}{g:TG}(he:PE X e te)(hg:PG X tg g)(hs:iw [tg] e pos.line X.env=pure a4:=by rfl)(hw:iy [tg] e X.env=pure a6:=by rfl)
  (h1:(bg [tg] X.env).map (·.2)=[cL tg X.env]:=by rfl):PS X (.Assign [tg] e pos) (jej te g):=by
 intro pins s σ H D I h;refine wpAny_Assign_stores (thn (he pins s σ H _ I h) λv s1 ⟨x,H1,I1,r1,q1⟩=>?_) hs hw;rw[h1];exact thn (hg pins s1 σ H1 x v _ I1 r1 q1) λ_ s2 q=>q
theorem Zf{i:Nat}{x:ah}{e:aj}{te:TE}{pos':aK}(hN:X.N.Nodup)(hi:X.N[i]?=a3 x)(hx:Loc X.env.scope x)(he:PE X e te)(hs:aE e (a3 (.Name x pos')) pos.line X.env=pure a4:=by rfl)(hf:X.fn x=a5\/X.env.scope.names.lookup x=a3 .local:=by first|exact .inl rfl|exact .inr rfl|assumption) :
  PS X (.Assign [.Name x pos'] e pos) (jej te (jav i)):=by
 intro pins s σ H D I h;refine wpAny_Assign_Name (thn (he pins s σ H _ I h) λv s1 ⟨y,H1,I1,r1,q1⟩=>?_) hs;exact Eh I1 hN hi hx r1 (λs2 I2=>⟨_,H1,I2,q1⟩) hf
end
section
variable{X:Cx}{pos:aK}
end
structure It where
 go:Nat->Hp->Prop
 yld:Nat->Hp->V->Hp->Prop
 stop:Nat->Hp->Prop
def Ze(X:Cx)(pins:k8f)(H:Hp)(b:aa):Prop :=
 H b=a6/\b≠X.env.locals/\b∉X.fs/\(b∈X.ex\/X.s₀.heap.objs.size<=b)/\(∀x c,X.env.cells.lookup x=a3 c->c≠b)/\∀p∈X.pn++pins,p.1≠b
theorem Inv.fpOk{X:Cx}{pins:k8f}{σ:St}{H H':Hp}{s:af}{b:aa}(I:Inv X pins σ H s)(hb:s.heap.objs.size<=b)(hn:H' b=a6):Ze X pins H' b:=by
 refine⟨hn,T5 (Xj I.lt hb),I.nofs hb,.inr (Xk I.sz hb),λx c e z=>?_,λp hp z=>?_⟩
 .obtain⟨v,q⟩:=I.cell x c e;exact absurd (Xj q.lt (by rw[z];exact hb)) (ph _)
 .exact absurd (Xj (xu (I.pin p hp).1) (by rw[z];exact hb)) (ph _)
structure Turn(P:au)(w:az)(K:k8d)(tg:aj)(J:It)(fp:List aa)(it:aa)(tn:Nat->aD->Prop):Prop where
 mem:it∈fp
 obj:∀i h,tn i h->∀b∈fp,∃o,h.get? b=a3 o/\∀v,o.data≠.cell v
 keep:∀i h h',tn i h->(∀b∈fp,∀o,h.get? b=a3 o->h'.get? b=a3 o)->tn i h'
 item:∀(X:Cx),X.prog=P->X.w=w->X.K=K->X.calm=a5->∀(i:Nat)(pins:k8f) (s:af) (σ:St) (H:Hp) (E:k8e),Inv X pins σ H s->(∀b∈fp,Ze X pins H b)->tn i s.heap->J.go i H ->
  ar (ax P w) X.A (dF (.ref it)) (λr s1=>∃u,r=a3 u /\
   ar (ax P w) X.A (eE tg (.ref it) u) (λ_ s2=>∃x H',Inv X pins σ H' s2/\RelV x u/\J.yld i H x H'/\tn (i+1) s2.heap/\∀b∈fp,H' b=a6) E s1) E s
 done:∀(X:Cx),X.prog=P->X.w=w->X.K=K->X.calm=a5->∀(i:Nat)(pins:k8f) (s:af) (σ:St) (H:Hp) (E:k8e),Inv X pins σ H s->(∀b∈fp,Ze X pins H b)->tn i s.heap->J.stop i H ->
  ar (ax P w) X.A (dF (.ref it)) (λr s1=>r=a6/\Inv X pins σ H s1) E s
 self:∀(A:aC)(i:Nat)(s:af)(Q:k8e)(E:k8e),tn i s.heap->Q (.ref it) s->ar (ax P w) A (hZ (.ref it)) Q E s
abbrev TI:=St->Hp->(It->Hp->Prop)->Prop
def PIE(X:Cx)(pins:k8f)(σ:St)(tg:aj)(R:It->Hp->Prop)(itv:a9)(s2:af):Prop :=
 ∃(it:aa)(fp:List aa)(tn:Nat->aD->Prop)(J:It)(H':Hp),itv=.ref it/\Inv X pins σ H' s2/\Turn X.prog X.w X.K tg J fp it tn/\tn 0 s2.heap/\(∀b∈fp,Ze X pins H' b)/\R J H'
def PI(X:Cx)(tg iter:aj)(wi:TI):Prop :=
 ∀(pins:k8f) (s:af) (σ:St) (H:Hp) (R:It->Hp->Prop),Inv X pins σ H s->wi σ H R ->
  ar (ax X.prog X.w) X.A (ay iter X.env) (λv s1=>ar (ax X.prog X.w) X.A (hZ v) (PIE X pins σ tg R) X.xe s1) X.xe s
theorem Im{M:ky}{A:aC}{E:k8e}{s:af}{tg:aj}{it:aa}{u:a9}{o:d8}{n:String}{vs:Array a9}{Q:Unit->af->Prop}(ho:s.heap.get? it=a3 o)(hc:o.cls=.type n)(hd:o.data=.fields vs)
  (hn:["enumerate","zip","dict_itemiterator","dict_reverseitemiterator","odict_iterator","itertools.zip_longest","itertools.pairwise"].contains n=a4) (hQ:Q () s):ar M A (eE tg (.ref it) u) Q E s:=by
 unfold eE;cases tg<;>first
  |exact ai hQ
  |(cases u<;>first
    |exact ai hQ
    |(refine a7 (wpAny_load ho ?_);rw[hc,hd];show ar M A (if (["enumerate","zip","dict_itemiterator","dict_reverseitemiterator","odict_iterator","itertools.zip_longest","itertools.pairwise"].contains n&&vs[0]?==a3 (dE _))=a5 then _ else _) Q E s;rw[if_neg (by intro h;rw[hn,fY]at h;cases h)];exact ai hQ))
noncomputable def Itl(K:k8d)(a:aa):It :=
 ⟨λi H=>∃xs x,SqL K H a xs/\xs[i]?=a3 x,λi H x H'=>H'=H/\∀xs,SqL K H a xs->xs[i]?=a3 x,λi H=>∃xs,SqL K H a xs/\xs.length<=i⟩
noncomputable def Itt(K:k8d)(a:aa):It :=
 ⟨λi H=>∃xs x,SqT K H a xs/\xs[i]?=a3 x,λi H x H'=>H'=H/\∀xs,SqT K H a xs->xs[i]?=a3 x,λi H=>∃xs,SqT K H a xs/\xs.length<=i⟩
noncomputable def Itr(lo:Int)(n:Nat):It:=⟨λi _=>i<n,λi H x H'=>H'=H/\x=.int (lo+i),λi _=>n<=i⟩
theorem j4g{P:au}{w:az}{K:k8d}{tg:aj}(a it:aa):Turn P w K tg (Itl K a) [it] it (λi h=>h.IsListIter it a i) where
 mem:=by simp
 obj:=λi h st b hb=>by
  have e:b=it:=by simpa using hb
  subst e;obtain⟨o,e,c,d⟩:=st;exact⟨o,e,λv z=>by rw[d]at z;cases z⟩
 keep:=λi h h' st k=>st.at λo e=>k it (by simp) o e
 item:=by intro X hP hw hK hc i pins s σ H E I hf st hg;subst hP hw hK;obtain⟨xs,x,hq,hx⟩:=hg;obtain⟨its,rv,p,hz⟩:=I.list hq;obtain⟨u,hu,ru⟩:=rv.get hx;obtain⟨f0,f1,f2,f3,f4,f5⟩:=hf it (by simp);refine dY st p.isList (x:=u) (by simpa using hu) λh' st' sb=>?_;have I1:Inv X pins σ H { s with heap:=h' }:=I.turned (t':=s.toks) (λb o hb e=>(sb.2 b hb).trans e) f0 f1 f3 f4 f5;obtain⟨o,e,c,d⟩:=id st';exact⟨u,rfl,Im (s:={ s with heap:=h' }) e c d (by decide) ⟨x,H,I1,ru,⟨rfl,λys hy=>by rw[I.list_inj hy hq];exact hx⟩,st',λb hb=>(hf b hb).1⟩⟩
 done:=by intro X hP hw hK hc i pins s σ H E I hf st hg;subst hP hw hK;obtain⟨xs,hq,hx⟩:=hg;obtain⟨its,rv,p,hz⟩:=I.list hq;obtain⟨f0,f1,f2,f3,f4,f5⟩:=hf it (by simp);have hl:=rv.length;exact jF (I.ok.hd hc) st p.isList (by simp;omega) λh' eb=>⟨rfl,I.turned (t':=s.toks) (λb o hb e=>eb b o hb e) f0 f1 f3 f4 f5⟩
 self:=λ_ _ _ _ _ st h=>wpAny_pyIter_listiter st h
theorem j35{P:au}{w:az}{K:k8d}{tg:aj}(a it:aa):Turn P w K tg (Itt K a) [it] it (λi h=>h.IsTupleIter it a i) where
 mem:=by simp
 obj:=λi h st b hb=>by
  have e:b=it:=by simpa using hb
  subst e;obtain⟨o,e,c,d⟩:=st;exact⟨o,e,λv z=>by rw[d]at z;cases z⟩
 keep:=λi h h' st k=>st.at λo e=>k it (by simp) o e
 item:=by intro X hP hw hK hc i pins s σ H E I hf st hg;subst hP hw hK;obtain⟨xs,x,hq,hx⟩:=hg;obtain⟨its,rv,p,hz⟩:=I.tuple hq;obtain⟨u,hu,ru⟩:=rv.get hx;obtain⟨f0,f1,f2,f3,f4,f5⟩:=hf it (by simp);refine wpAny_pyNext_tuple_item st (show s.heap.IsTuple a its.toArray from p) (x:=u) (by simpa using hu) λh' st' sb=>?_;have I1:Inv X pins σ H { s with heap:=h' }:=I.turned (t':=s.toks) (λb o hb e=>(sb.2 b hb).trans e) f0 f1 f3 f4 f5;obtain⟨o,e,c,d⟩:=id st';exact⟨u,rfl,Im (s:={ s with heap:=h' }) e c d (by decide) ⟨x,H,I1,ru,⟨rfl,λys hy=>by rw[I.tuple_inj hy hq];exact hx⟩,st',λb hb=>(hf b hb).1⟩⟩
 done:=by intro X hP hw hK hc i pins s σ H E I hf st hg;subst hP hw hK;obtain⟨xs,hq,hx⟩:=hg;obtain⟨its,rv,p,hz⟩:=I.tuple hq;obtain⟨f0,f1,f2,f3,f4,f5⟩:=hf it (by simp);have hl:=rv.length;exact wpAny_pyNext_tuple_end (I.ok.hd hc) st (show s.heap.IsTuple a its.toArray from p) (by simp;omega) λh' eb=>⟨rfl,I.turned (t':=s.toks) (λb o hb e=>eb b o hb e) f0 f1 f3 f4 f5⟩
 self:=λ_ _ _ _ _ st h=>wpAny_pyIter_tupleiter st h
theorem j36{P:au}{w:az}{K:k8d}{tg:aj}(it:aa)(lo:Int)(n:Nat):Turn P w K tg (Itr lo n) [it] it (λi h=>IsRangeIter h it (lo+(i:Nat)*1) ((n:Int)-(i:Nat)) 1) where
 mem:=by simp
 obj:=λi h st b hb=>by
  have e:b=it:=by simpa using hb
  subst e;exact⟨_,st,λv z=>by
   have z':Data.fields _=Data.cell v:=z
   cases z'⟩
 keep:=λi h h' st k=>k it (by simp) _ st
 item:=by intro X hP hw hK hc i pins s σ H E I hf st hg;subst hP hw hK;obtain⟨f0,f1,f2,f3,f4,f5⟩:=hf it (by simp);have W:=Walks.range (prog:=X.prog) (w:=X.w) (I.ok.hd hc) it lo 1 n;refine W.item i s _ _ hg st λv h' tk hv st' kk=>?_;obtain⟨t,rfl⟩:=hv;have I1:Inv X pins σ H { s with heap:=h',toks:=tk }:=I.turned (λb o hb e=>kk b o (by simpa using hb) e) f0 f1 f3 f4 f5;refine⟨_,rfl,Im (s:={ s with heap:=h',toks:=tk }) (n:="range_iterator") st' rfl rfl (by decide) ⟨.int (lo+i),H,I1,⟨t,?_⟩,⟨rfl,rfl⟩,st',λb hb=>(hf b hb).1⟩⟩;rw[lN]
 done:=by intro X hP hw hK hc i pins s σ H E I hf st hg;subst hP hw hK;obtain⟨f0,f1,f2,f3,f4,f5⟩:=hf it (by simp);exact wpAny_pyNext_range_end (I.ok.hd hc) st (by have:n<=i:=hg;omega) λh' eb=>⟨rfl,I.turned (t':=s.toks) (λb o hb e=>eb b o hb e) f0 f1 f3 f4 f5⟩
 self:=λ_ _ _ _ _ st h=>wpAny_pyIter_rangeiter st h
section
variable{X:Cx}{tg:aj}
def jjq(K:k8d)(tl:TE):TI:=λσ H R=>tl σ H λx H1=>∃a,x=.ref a/\(∃xs,SqL K H1 a xs)/\R (Itl K a) H1
def jlc(K:k8d)(tl:TE):TI:=λσ H R=>tl σ H λx H1=>∃a,x=.ref a/\(∃xs,SqT K H1 a xs)/\R (Itt K a) H1
theorem jc6{l:aj}{tl:TE}(hl:PE X l tl):PI X tg l (jjq X.K tl):=by
 intro pins s σ H R I h;refine thn (hl pins s σ H _ I h) λv s1 ⟨x,H1,I1,r1,q1⟩=>?_;obtain⟨a,e,⟨xs,hq⟩,q⟩:=q1;subst e;cases r1;obtain⟨its,rv,p,hz⟩:=I1.list hq;refine bo p.isList ?_;refine⟨s1.heap.objs.size,[s1.heap.objs.size],_,_,H1,rfl,I1.kept (t':=s1.toks) λb o e=>xj _ e,j4g a _,⟨_,X5 _ rfl,rfl,rfl⟩,λb hb=>?_,q⟩;have e:b=s1.heap.objs.size:=by simpa using hb
 subst e;exact I1.fpOk (xx _) (I1.hok.fresh (xx _))
theorem jfd{l:aj}{tl:TE}(hl:PE X l tl):PI X tg l (jlc X.K tl):=by
 intro pins s σ H R I h;refine thn (hl pins s σ H _ I h) λv s1 ⟨x,H1,I1,r1,q1⟩=>?_;obtain⟨a,e,⟨xs,hq⟩,q⟩:=q1;subst e;cases r1;obtain⟨its,rv,p,hz⟩:=I1.tuple hq;refine fE (show s1.heap.IsTuple a its.toArray from p) ?_;refine⟨s1.heap.objs.size,[s1.heap.objs.size],_,_,H1,rfl,I1.kept (t':=s1.toks) λb o e=>xj _ e,j35 a _,⟨_,X5 _ rfl,rfl,rfl⟩,λb hb=>?_,q⟩;have e:b=s1.heap.objs.size:=by simpa using hb
 subst e;exact I1.fpOk (xx _) (I1.hok.fresh (xx _))
theorem Ez{pins:k8f}{σ:St}{H:Hp}{s:af}{R:It->Hp->Prop}{E:k8e}{lo hi:Int}{t u v:gL}{tk:Nat}(I:Inv X pins σ H s)(h1:-(2^62)<=lo)(h2:lo<2^62)(h3:-(2^62)<=hi)(h4:hi<2^62)
  (q:R (Itr lo (hi-lo).toNat) H):ar (ax X.prog X.w) X.A (hZ (.ref s.heap.objs.size)) (PIE X pins σ tg R) E { s with heap:=s.heap.push { cls:=.type "range",data:=.fields #[.int lo t,.int hi u,.int 1 v] },toks:=tk }:=by
 refine wpAny_pyIter_range (IsRange.new ..) (small_one h1 h2 h3 h4) ?_;have I1:Inv X pins σ H { s with heap:=s.heap.push { cls:=.type "range",data:=.fields #[.int lo t,.int hi u,.int 1 v] },toks:=tk }:=I.kept λb o e=>xj _ e;refine⟨(s.heap.push { cls:=.type "range",data:=.fields #[.int lo t,.int hi u,.int 1 v] }).objs.size,[(s.heap.push { cls:=.type "range",data:=.fields #[.int lo t,.int hi u,.int 1 v] }).objs.size],_,_,H,rfl,
  I1.kept (t':=tk) λb o e=>xj _ e,j36 _ lo (hi-lo).toNat,?_,λb hb=>?_,q⟩
 .have e1:lo+((0:Nat):Int)*1=lo:=by simp
  have e2:(((hi-lo).toNat:Nat):Int)-((0:Nat):Int)=Builtin.Range.rangeSize lo hi 1:=by rw[rangeSize_one];split<;>omega
  show IsRangeIter _ _ (lo+((0:Nat):Int)*1) ((((hi-lo).toNat:Nat):Int)-((0:Nat):Int)) 1;rw[e1,e2];exact X5 _ rfl
 .have e:b=(s.heap.push { cls:=.type "range",data:=.fields #[.int lo t,.int hi u,.int 1 v] }).objs.size:=by simpa using hb
  subst e;exact I1.fpOk (xx _) (I1.hok.fresh (xx _))
def jjp(ta:TA):TI:=λσ H R=>ta σ H λvs H1=>∃j:Int,vs=[.int j]/\-(2^62)<=j/\j<2^62/\R (Itr 0 j.toNat) H1
def jjo(ta:TA):TI:=λσ H R=>ta σ H λvs H1=>∃i j:Int,vs=[.int i,.int j]/\(-(2^62)<=i/\i<2^62/\-(2^62)<=j/\j<2^62)/\R (Itr i (j-i).toNat) H1
theorem j57 {a:aj} {ta:TA} {p pos:aK} (hg:Gl X "range") (hm:X.mg "range" = a6) (ha:PA X [a] ta) (hs:a8 [a] X.env=[(a4,ay a X.env)]:=by rfl):PI X tg (.Call (.Name "range" p) [a] [] pos) (jjp ta):=by
 intro pins s σ H R I h;refine Call_ (Qs I hg hm boot_range (callWith_type1 (thn (ha pos pins s σ H _ I h) λus s1 ⟨vs,H1,I1,r1,q1⟩=>?_) hs rfl));obtain⟨j,e,q1,q2,q⟩:=q1;subst e;cases r1 with
 |cons r rr =>cases rr;obtain⟨t,rfl⟩:=r;exact call_range_1 (Ez I1 nofun nofun q1 q2 (by simpa using q))
theorem j56 {a b:aj} {ta:TA} {p pos:aK} (hg:Gl X "range") (hm:X.mg "range" = a6) (ha:PA X [a,b] ta) (hs:a8 [a,b] X.env=[(a4,ay a X.env),(a4,ay b X.env)]:=by rfl) (hs2:a8 [b] X.env=[(a4,ay b X.env)]:=by rfl) :
  PI X tg (.Call (.Name "range" p) [a,b] [] pos) (jjo ta):=by
 intro pins s σ H R I h;refine Call_ (Qs I hg hm boot_range (callWith_type1 (thn (ha pos pins s σ H _ I h) λus s1 ⟨vs,H1,I1,r1,q1⟩=>?_) (by rw[hs,hs2]) (by rw[hs2];rfl)));obtain⟨i,j,e,⟨q1,q2,q3,q4⟩,q⟩:=q1;subst e;cases r1 with
 |cons r rr =>
  cases rr with
  |cons r' rr =>cases rr;obtain⟨t,rfl⟩:=r;obtain⟨t',rfl⟩:=r';exact call_range_2 (Ez I1 q1 q2 q3 q4 q)
def jkw(wi:TI)(g:TG)(tb:TS):TS:=λD σ H=>wi σ H λJ H1=>∃W:Nat->Nat->St->Hp->Prop,(∃m,W 0 m σ H1)/\∀i m σ H,W i m σ H ->
 (J.stop i H/\D.nx σ H)\/(J.go i H/\∃N:St->Hp->Prop,(∀σ' H',N σ' H'->∃m',m'<m/\W (i+1) m' σ' H')/\∀x H',J.yld i H x H'->g x σ H' λσ2 H2=>tb { D with nx:=N,ct:=N,bk:=D.nx } σ2 H2)
noncomputable def Ym(fp:List aa)(h:aD):List (aa×d8):=fp.filterMap λb=>(h.get? b).map λo=>(b,o)
theorem Qy{fp:List aa}{h:aD}{b:aa}{o:d8}(hb:b∈fp)(e:h.get? b=a3 o):(b,o)∈Ym fp h:=Te.mpr ⟨b,hb,by rw[e];rfl⟩
theorem Ly{fp:List aa}{h:aD}{p:aa×d8}(hp:p∈Ym fp h):p.1∈fp/\h.get? p.1=a3 p.2:=by
 obtain⟨b,hb,e⟩:=Te.mp hp;cases q:h.get? b with
 |none=>rw[q]at e;cases e
 |some o =>rw[q]at e;have e':(b,o)=p:=av e;subst e';exact⟨hb,q⟩
theorem Inv.pinned{pins:k8f}{σ:St}{H:Hp}{s:af}{fp:List aa}(I:Inv X pins σ H s)(hf:∀b∈fp,Ze X pins H b)(ho:∀b∈fp,∃o,s.heap.get? b=a3 o/\∀v,o.data≠.cell v):Inv X (pins++Ym fp s.heap) σ H s :=
 I.pins_of λp hp=>(pq.mp hp).elim (λz=>I.pin p (Xe _ z)) λz=>by obtain⟨hb,e⟩:=Ly z;obtain⟨f0,f1,f2,_⟩:=hf p.1 hb;obtain⟨o,e',d⟩:=ho p.1 hb;rw[e]at e';cases e';exact⟨e,f0,f1,f2,d⟩
theorem Inv.unpinned{pins pl:k8f}{σ:St}{H:Hp}{s:af}(I:Inv X (pins++pl) σ H s):Inv X pins σ H s:=I.pins_of λp hp=>I.pin p (Xe _ (Pn _ hp))
theorem j01{iter:aj}{body:List aQ}{wi:TI}{g:TG}{tb:TS}{pos:aK}(hp:fg (ax X.prog X.w) X.A X.env X.xe)(hc:X.calm=a5)(hi:PI X tg iter wi)(hg:PG X tg g)(hb:PSs X body tb)
  (hs:∀x,aB iter X.env x=pure x:=by intro _;rfl):PS X (.For tg iter body [] pos) (jkw wi g tb):=by
 intro pins s σ H D I h;refine wpAny_For (thn (hi pins s σ H _ I h) λv s1 h1=>thn h1 λitv s2 h2=>?_) hs;obtain⟨it,fp,tn,J,H2,e,I2,T,st2,f2,W,⟨m0,w0⟩,turn⟩:=h2;subst e;have stat:∀{H':Hp},(∀b∈fp,H' b=a6)->∀b∈fp,Ze X pins H' b:=λhn b hb=>⟨hn b hb,(f2 b hb).2⟩
 refine codeAny_forLoop_any (λn s'=>∃i σ' H',Inv X pins σ' H' s'/\tn i s'.heap/\(∀b∈fp,H' b=a6)/\W i n σ' H') ?_ m0 ⟨0,σ,H2,I2,st2,λb hb=>(f2 b hb).1,w0⟩;rintro n s3 ⟨i,σ3,H3,I3,st3,fr3,w3⟩;rcases turn i n σ3 H3 w3 with ⟨stop,qn⟩|⟨go,N,hN,step⟩
 .refine d4 hp (thn (T.done X rfl rfl rfl hc i pins s3 σ3 H3 X.xe I3 (stat fr3) st3 stop) λr s4 ⟨hr,I4⟩=>?_);subst hr;exact gD ⟨σ3,H3,I4,qn⟩
 .refine d4 hp (thn (T.item X rfl rfl rfl hc i pins s3 σ3 H3 X.xe I3 (stat fr3) st3 go) λr s4 ⟨u,hr,h4⟩=>?_);subst hr;refine d4 hp (thn h4 λ_ s5 ⟨x,H5,I5,r5,y5,st5,fr5⟩=>?_);have I5':=I5.pinned (stat fr5) (T.obj _ _ st5);refine d4 hp (thn (hg _ s5 σ3 H5 x u _ I5' r5 (step x H5 y5)) λ_ s6 ⟨σ6,H6,I6,q6⟩=>?_);refine d4 hp (thn (hb _ s6 σ6 H6 _ I6 q6) λf s7 q7=>?_);have iG:∀{σ7:St}{H7:Hp},Inv X (pins++Ym fp s5.heap) σ7 H7 s7->N σ7 H7->∃m,m<n/\∃i σ' H',Inv X pins σ' H' s7/\tn i s7.heap/\(∀b∈fp,H' b=a6)/\W i m σ' H':=λ{σ7 H7} I7 n7=>by obtain⟨m',hm,w7⟩:=hN σ7 H7 n7;refine⟨m',hm,i+1,σ7,H7,I7.unpinned,T.keep _ _ _ st5 λb hb o e=>(I7.pin (b,o) (Xe _ (Xe _ (Qy hb e)))).1,λb hb=>?_,w7⟩;obtain⟨o,e,d⟩:=T.obj _ _ st5 b hb;exact(I7.pin (b,o) (Xe _ (Xe _ (Qy hb e)))).2.1
  cases f with
  |next=>obtain⟨σ7,H7,I7,n7⟩:=q7;exact iG I7 n7
  |cont=>obtain⟨σ7,H7,I7,n7⟩:=q7;exact iG I7 n7
  |brk=>obtain⟨σ7,H7,I7,q7⟩:=q7;exact⟨σ7,H7,I7.unpinned,q7⟩
  |ret v=>obtain⟨x7,σ7,H7,H8,I7,r7,x8,q7⟩:=q7;exact⟨x7,σ7,H7,H8,I7.unpinned,r7,x8,q7⟩
end
abbrev R2:=V->V->Hp->VK->Prop
def OpR(X:Cx)(f:a9->a9->Sem a9)(r:R2):Prop :=
 ∀(pins:k8f) (s:af) (σ:St) (H:Hp) (x y:V) (v u:a9) (Q:VK),Inv X pins σ H s->RelV x v->RelV y u->r x y H Q ->
  ar (ax X.prog X.w) X.A (f v u) (EP X pins σ Q) X.xe s
def Jq(X:Cx)(f:a9)(r:List V->Hp->VK->Prop):Prop :=
 ∀(pins:k8f) (s:af) (σ:St) (H:Hp) (xs:List V) (us:List a9) (Q:VK),Inv X pins σ H s->Vals xs us->r xs H Q ->
  ar (ax X.prog X.w) X.A (call f us) (EP X pins σ Q) X.xe s
def tOp(r:R2)(ta tb:TE):TE:=λσ H Q=>ta σ H λx H1=>tb σ H1 λy H2=>r x y H2 Q
def rI(C:Int->Int->Prop)(g:Int->Int->V):R2:=λx y H Q=>∃i j,x=.int i/\y=.int j/\C i j/\Q (g i j) H
def rI0(g:Int->Int->V):R2:=λx y H Q=>∃i j,x=.int i/\y=.int j/\Q (g i j) H
section
variable{X:Cx}{a b c:aj}{ta tb tc:TE}{pos:aK}
theorem j9y(ha:PE X a ta)(hb:PE X b tb){pins:k8f}{s:af}{σ:St}{H:Hp}{R:V->V->Hp->Prop}(I:Inv X pins σ H s)
  (h:ta σ H λx H1=>tb σ H1 λy H2=>R x y H2) {Q:k8e} {f:a9->a9->Sem a9}
  (hf:∀v u s2 x y H2,Inv X pins σ H2 s2->RelV x v->RelV y u->R x y H2->ar (ax X.prog X.w) X.A (f v u) Q X.xe s2) :
  ar (ax X.prog X.w) X.A (ay a X.env) (λv s₁=>ar (ax X.prog X.w) X.A (ay b X.env) (λu s₂=>ar (ax X.prog X.w) X.A (f v u) Q X.xe s₂) X.xe s₁) X.xe s:=by
 refine thn (ha pins s σ H _ I h) λv s1 ⟨x,H1,I1,r1,q1⟩=>?_;refine thn (hb pins s1 σ H1 _ I1 q1) λu s2 ⟨y,H2,I2,r2,q2⟩=>?_;exact hf v u s2 x y H2 I2 r1 r2 q2
theorem U7{op:jO}{r:R2}(ho:OpR X (aZ op) r)(ha:PE X a ta)(hb:PE X b tb):PE X (.BinOp a op b pos) (tOp r ta tb):=by intro pins s σ H Q I h;exact wpAny_BinOp (j9y ha hb I h λv u s2 x y H2 I2 rx ry q=>ho pins s2 σ H2 x y v u Q I2 rx ry q)
theorem opI{f:a9->a9->Sem a9}{C:Int->Int->Prop}{g:Int->Int->Int}
  (rule:∀(i j:Int)(t u:gL)(s:af)(Q:k8e)(E:k8e),C i j->Q (.int (g i j) s.toks) { s with toks:=s.toks+1 }->ar (ax X.prog X.w) X.A (f (.int i t) (.int j u)) Q E s) :
  OpR X f (rI C λi j=>.int (g i j)):=by
 intro pins s σ H x y v u Q I rx ry h;obtain⟨i,j,rfl,rfl,hc,q⟩:=h;obtain⟨t,rfl⟩:=rx;obtain⟨t',rfl⟩:=ry;exact rule i j t t' s _ _ hc ⟨.int (g i j),H,I.tok _,⟨_,rfl⟩,q⟩
theorem j3h{f:a9->a9->Sem a9}{g:Int->Int->Int}
  (rule:∀(i j:Int)(t u:gL)(s:af)(Q:k8e)(E:k8e),Q (.int (g i j) s.toks) { s with toks:=s.toks+1 }->ar (ax X.prog X.w) X.A (f (.int i t) (.int j u)) Q E s) :
  OpR X f (rI0 λi j=>.int (g i j)):=by
 intro pins s σ H x y v u Q I rx ry h;obtain⟨i,j,rfl,rfl,q⟩:=h;obtain⟨t,rfl⟩:=rx;obtain⟨t',rfl⟩:=ry;exact rule i j t t' s _ _ ⟨.int (g i j),H,I.tok _,⟨_,rfl⟩,q⟩
theorem j3i{f:a9->a9->Sem a9}{g:Int->Int->Bool}
  (rule:∀(i j:Int)(t u:gL)(s:af)(Q:k8e)(E:k8e),Q (.bool (g i j)) s->ar (ax X.prog X.w) X.A (f (.int i t) (.int j u)) Q E s) :
  OpR X f (rI0 λi j=>.bl (g i j)):=by
 intro pins s σ H x y v u Q I rx ry h;obtain⟨i,j,rfl,rfl,q⟩:=h;obtain⟨t,rfl⟩:=rx;obtain⟨t',rfl⟩:=ry;exact rule i j t t' s _ _ ⟨.bl (g i j),H,I,rfl,q⟩
def j4b(i j:Int):Prop:=0<=j/\j<=1000000/\i.natAbs<2^64
def j4c(i j:Int):Prop:=(-(2^64)<i/\i<2^64)\/(-(2^64)<j/\j<2^64)
theorem j4c.ok{i j:Int}(h:j4c i j):IntMulOk i j:=by
 rcases h with ⟨h1,h2⟩|⟨h1,h2⟩
 .exact .of_left (m8 h1 h2)
 .exact .of_right (m8 h1 h2)
theorem j34(k:Nat):(0:Int)<=2^k:=by rw[two_pow_cast];exact Int.natCast_nonneg _
theorem jfr:OpR X (aZ .Add) (rI0 λi j=>.int (i+j)):=j3h λ_ _ _ _ _ _ _ q=>add_int q
theorem jfj:OpR X (aZ .Sub) (rI0 λi j=>.int (i-j)):=j3h λ_ _ _ _ _ _ _ q=>sub_int q
theorem jfo:OpR X (aZ .Mult) (rI j4c λi j=>.int (i*j)):=opI λ_ _ _ _ _ _ _ hc q=>mul_int q hc.ok
theorem jfp:OpR X (aZ .Mod) (rI (λ_ j=>0<j) λi j=>.int (i%j)):=opI λi j _ _ _ _ _ hc q=>by have h1:(0:Int)<j:=hc;exact mod_int' nofun (by rw[Int.fmod_eq_emod_of_nonneg i nofun];exact q)
theorem jfn:OpR X (aZ .Pow) (rI j4b λi j=>.int (i^j.toNat)):=opI λ_ _ _ _ _ _ _ hc q=>pow_int_small hc.1 hc.2.1 hc.2.2 q
theorem jfl:OpR X (aZ .LShift) (rI j4b λi j=>.int (i*2^j.toNat)):=opI λ_ _ _ _ _ _ _ hc q=>lshift_int_small hc.1 hc.2.1 hc.2.2 q
theorem jfk:OpR X (aZ .RShift) (rI (λ_ j=>0<=j) λi j=>.int (i/2^j.toNat)):=opI λi j _ _ _ _ _ hc q =>rshift_int hc (by rw[gn i (j34 _)];exact q)
theorem jfq:OpR X (aZ .BitAnd) (rI0 λi j=>.int (Builtin.bitAnd i j)):=j3h λ_ _ _ _ _ _ _ q=>and_int q
theorem jfi:OpR X (aZ .BitXor) (rI0 λi j=>.int (Builtin.bitXor i j)):=j3h λ_ _ _ _ _ _ _ q=>xor_int q
end
noncomputable def Dr:V->V->Bool
 |.non,.non=>a5|.non,.int _=>a5|.int _,.non=>a5|.non,.bl _=>a5|.bl _,.non=>a5|.non,.str _=>a5|.str _,.non=>a5
 |.int _,.int _=>a5|.bl _,.bl _=>a5|.str _,.str _=>a5|.byt _,.byt _=>a5
 |.int _,.str _=>a5|.str _,.int _=>a5|.bl _,.str _=>a5|.str _,.bl _=>a5
 |_,_=>a4
def rEq:R2:=λx y H Q=>Dr x y=a5/\Q (.bl (decide (x=y))) H
def rNe:R2:=λx y H Q=>Dr x y=a5/\Q (.bl (!decide (x=y))) H
theorem j2r{i j:Int}:decide (V.int i=V.int j)=(i==j):=by rw[dN];simp
theorem j6d{i j:Bool}:decide (V.bl i=V.bl j)=(i==j):=by rw[dN];simp
theorem j2q{i j:ah}:decide (V.str i=V.str j)=(i==j):=by rw[dN];simp
theorem j2s{i j:Array UInt8}:decide (V.byt i=V.byt j)=(i.toList==j.toList):=by rw[dN];cases i;cases j;simp
section
variable{X:Cx}{a b c:aj}{ta tb tc:TE}{pos:aK}
theorem jw{pins:k8f}{σ:St}{H:Hp}{s:af}{Q:VK}{k k':Bool}(I:Inv X pins σ H s)(q:Q (.bl k) H)(e:k=k'):EP X pins σ Q (.bool k') s:=by subst e;exact⟨.bl k,H,I,rfl,q⟩
theorem jap:OpR X (aN .Eq) rEq:=by
 intro pins s σ H x y v u Q I rx ry h;obtain⟨hs,q⟩:=h;cases x with
 |non =>
  cases rx;cases y with
  |non=>cases ry;exact lB (jw I q (by simp))
  |bl j=>cases ry;exact lD (jw I q (by simp))
  |int j=>obtain⟨t',rfl⟩:=ry;exact lC (jw I q (by simp))
  |str j=>obtain⟨t',rfl⟩:=ry;exact lA (jw I q (by simp))
  |_=>exact absurd (show a4=a5 from hs) xf
 |bl i =>
  cases rx;cases y with
  |non=>cases ry;exact lF (jw I q (by simp))
  |bl j=>cases ry;exact eq_bool (jw I q j6d)
  |str j=>obtain⟨t',rfl⟩:=ry;exact kO (jw I q (by simp))
  |_=>exact absurd (show a4=a5 from hs) xf
 |int i =>
  obtain⟨t,rfl⟩:=rx;cases y with
  |non=>cases ry;exact lE (jw I q (by simp))
  |int j=>obtain⟨t',rfl⟩:=ry;exact eq_int (jw I q j2r)
  |str j=>obtain⟨t',rfl⟩:=ry;exact kN (jw I q (by simp))
  |_=>exact absurd (show a4=a5 from hs) xf
 |str i =>
  obtain⟨t,rfl⟩:=rx;cases y with
  |non=>cases ry;exact lz (jw I q (by simp))
  |bl j=>cases ry;exact kM (jw I q (by simp))
  |int j=>obtain⟨t',rfl⟩:=ry;exact kL (jw I q (by simp))
  |str j=>obtain⟨t',rfl⟩:=ry;exact eq_str (jw I q j2q)
  |_=>exact absurd (show a4=a5 from hs) xf
 |byt i =>
  obtain⟨t,rfl⟩:=rx;cases y with
  |byt j=>obtain⟨t',rfl⟩:=ry;exact W.eq_bytes (jw I q j2s)
  |_=>exact absurd (show a4=a5 from hs) xf
 |_=>cases y<;>exact absurd (show a4=a5 from hs) xf
theorem jal:OpR X (aN .NotEq) rNe:=by
 intro pins s σ H x y v u Q I rx ry h;obtain⟨hs,q⟩:=h;cases x with
 |non =>
  cases rx;cases y with
  |non=>cases ry;exact l9 (jw I q (by simp))
  |bl j=>cases ry;exact lj (jw I q (by simp))
  |int j=>obtain⟨t',rfl⟩:=ry;exact lh (jw I q (by simp))
  |str j=>obtain⟨t',rfl⟩:=ry;exact l7 (jw I q (by simp))
  |_=>exact absurd (show a4=a5 from hs) xf
 |bl i =>
  cases rx;cases y with
  |non=>cases ry;exact lr (jw I q (by simp))
  |bl j=>cases ry;exact ne_bool (jw I q (congrArg not j6d))
  |str j=>obtain⟨t',rfl⟩:=ry;exact kK (jw I q (by simp))
  |_=>exact absurd (show a4=a5 from hs) xf
 |int i =>
  obtain⟨t,rfl⟩:=rx;cases y with
  |non=>cases ry;exact lq (jw I q (by simp))
  |int j=>obtain⟨t',rfl⟩:=ry;exact ne_int (jw I q (congrArg not j2r))
  |str j=>obtain⟨t',rfl⟩:=ry;exact kJ (jw I q (by simp))
  |_=>exact absurd (show a4=a5 from hs) xf
 |str i =>
  obtain⟨t,rfl⟩:=rx;cases y with
  |non=>cases ry;exact l6 (jw I q (by simp))
  |bl j=>cases ry;exact kI (jw I q (by simp))
  |int j=>obtain⟨t',rfl⟩:=ry;exact kH (jw I q (by simp))
  |str j=>obtain⟨t',rfl⟩:=ry;exact ne_str (jw I q (congrArg not j2q))
  |_=>exact absurd (show a4=a5 from hs) xf
 |byt i =>
  obtain⟨t,rfl⟩:=rx;cases y with
  |byt j=>obtain⟨t',rfl⟩:=ry;exact W.ne_bytes (jw I q (congrArg not j2s))
  |_=>exact absurd (show a4=a5 from hs) xf
 |_=>cases y<;>exact absurd (show a4=a5 from hs) xf
theorem Ij:OpR X (aN .Lt) (rI0 λi j=>.bl (decide (i<j))):=j3i λ_ _ _ _ _ _ _ q=>lt_int q
theorem jam:OpR X (aN .LtE) (rI0 λi j=>.bl (decide (i<=j))):=j3i λ_ _ _ _ _ _ _ q=>le_int q
theorem jan:OpR X (aN .Gt) (rI0 λi j=>.bl (decide (j<i))):=j3i λ_ _ _ _ _ _ _ q=>gt_int q
theorem jao:OpR X (aN .GtE) (rI0 λi j=>.bl (decide (j<=i))):=j3i λ_ _ _ _ _ _ _ q=>ge_int q
theorem Ls:OpR X (aN .Lt) (λx y H Q=>∃i j,x=.str i/\y=.str j/\Q (.bl (decide (i.cps.toList<j.cps.toList))) H):=by intro pins s σ H x y v u Q I rx ry h;obtain⟨i,j,rfl,rfl,q⟩:=h;obtain⟨t,rfl⟩:=rx;obtain⟨t',rfl⟩:=ry;exact lt_str (jw I q rfl)
theorem Lw:OpR X (aN .In) (λx y H Q=>∃i j,x=.str i/\y=.str j/\Q (.bl (!(fv j i 0 j.length 1).isEmpty)) H):=by intro pins s σ H x y v u Q I rx ry h;obtain⟨i,j,rfl,rfl,q⟩:=h;obtain⟨t,rfl⟩:=rx;obtain⟨t',rfl⟩:=ry;exact in_str (jw I q rfl)
theorem jca:OpR X (aN .IsNot) (λx y H Q=>y=.non/\Q (.bl (!decide (x=.non))) H):=by
 intro pins s σ H x y v u Q I rx ry h;obtain⟨rfl,q⟩:=h;cases ry;refine isnot_none_gen (jw I q ?_);cases x<;>first
  |(cases rx;rfl)
  |(obtain⟨t,rfl⟩:=rx;rfl)
theorem zf(b:aj){op:fV}(h:op≠.In:=by decide)(h2:op≠.NotIn:=by decide):aG op b=a4:=by
 have e1:(op==CmpOp.In)=a4:=by cases op<;>first|rfl|exact absurd rfl h
 have e2:(op==CmpOp.NotIn)=a4:=by cases op<;>first|rfl|exact absurd rfl h2
 cases b<;>simp[aG,e1,e2]
theorem Jr{op:fV}{r:R2}(ho:OpR X (aN op) r)(ha:PE X a ta)(hb:PE X b tb)(hm:aG op b=a4):PE X (.Compare a [op] [b] pos) (tOp r ta tb):=by intro pins s σ H Q I h;exact lT (j9y ha hb I h λv u s2 x y H2 I2 rx ry q=>ho pins s2 σ H2 x y v u Q I2 rx ry q) hm
def jil(t:TE):TT:=λσ H Q=>t σ H λx H'=>∃k,x=.bl k/\Q k H'
theorem Qf{op:fV}{r:R2}(ho:OpR X (aN op) r)(ha:PE X a ta)(hb:PE X b tb)(hm:aG op b=a4):PT X (.Compare a [op] [b] pos) (jil (tOp r ta tb)):=by
 intro pins s σ H Q I h;refine jG (thn (ha pins s σ H _ I h) λv s1 ⟨x,H1,I1,r1,q1⟩=>thn (hb pins s1 σ H1 _ I1 q1) λu s2 ⟨y,H2,I2,r2,q2⟩ =>
  thn (ho pins s2 σ H2 x y v u _ I2 r1 r2 q2) λc s3 ⟨z,H3,I3,r3,k,e,q3⟩=>?_) hm
 subst e;cases r3;exact b9 ⟨H3,I3,q3⟩
def jeh(r r':R2)(ta tb tc:TE):TE:=λσ H Q=>ta σ H λx H1=>tb σ H1 λy H2=>r x y H2 λz H3=>∃k,z=.bl k /\
 (if k=a5 then tc σ H3 λw' H4=>r' y w' H4 Q else Q (.bl a4) H3)
theorem j83{op op':fV}{r r':R2}(ho:OpR X (aN op) r)(ho':OpR X (aN op') r')(ha:PE X a ta)(hb:PE X b tb)(hc:PE X c tc)
  (hm:kU [op,op'] [b,c]=a4:=by with_unfolding_all rfl):PE X (.Compare a [op,op'] [b,c] pos) (jeh r r' ta tb tc):=by
 intro pins s σ H Q I h;refine Compare_chain (thn (ha pins s σ H _ I h) λv s1 ⟨x,H1,I1,r1,q1⟩=>chain_link (thn (hb pins s1 σ H1 _ I1 q1) λu s2 ⟨y,H2,I2,r2,q2⟩ =>
  thn (ho pins s2 σ H2 x y v u _ I2 r1 r2 q2) λd s3 ⟨z,H3,I3,r3,k,e,q3⟩=>?_)) hm
 subst e;cases r3;refine b9 ?_;cases k with
 |false=>exact ite_ff ⟨.bl a4,H3,I3,rfl,q3⟩
 |true=>exact ite_tt (chain_last (thn (hc pins s3 σ H3 _ I3 q3) λw' s4 ⟨z',H4,I4,r4,q4⟩=>ho' pins s4 σ H4 y z' u w' Q I4 r2 r4 q4))
theorem W2:(ak:Nat)<2^63:=by rw[jJ];decide
theorem j3g:OpR X (aZ .Add) (λx y H Q=>∃i j,x=.str i/\y=.str j/\i.length+j.length<=ak/\Q (.str (i++j)) H):=by intro pins s σ H x y v u Q I rx ry h;obtain⟨i,j,rfl,rfl,hz,q⟩:=h;obtain⟨t,rfl⟩:=rx;obtain⟨t',rfl⟩:=ry;exact add_str (λt' tk=>⟨.str (i++j),H,I.tok _,⟨_,rfl⟩,q⟩) hz
theorem vals1{x:V}{us:List a9}(r:Vals [x] us):∃u,us=[u]/\RelV x u:=by
 cases r with
 |cons r1 r2=>cases r2;exact⟨_,rfl,r1⟩
theorem vals2{x y:V}{us:List a9}(r:Vals [x,y] us):∃u w',us=[u,w']/\RelV x u/\RelV y w':=by
 cases r with
 |cons r1 r2 =>
  cases r2 with
  |cons r3 r4=>cases r4;exact⟨_,_,rfl,r1,r3⟩
theorem j6x (hc:X.calm=a5):Jq X (.builtin "max") (λxs H Q=>∃i j,xs=[.int i,.int j]/\Q (.int (if j>i then j else i)) H):=by
 intro pins s σ H xs us Q I r h;obtain⟨i,j,rfl,q⟩:=h;obtain⟨u,w',rfl,⟨t,rfl⟩,⟨t',rfl⟩⟩:=vals2 r;refine max_two_ints (I.ok.hd hc) λh' tk k=>⟨_,H,I.kept k,?_,q⟩
 by_cases hj:j>i
 .rw[if_pos hj,if_pos hj];exact⟨_,rfl⟩
 .rw[if_neg hj,if_neg hj];exact⟨_,rfl⟩
theorem j6v (hc:X.calm=a5):Jq X (.builtin "min") (λxs H Q=>∃i j,xs=[.int i,.int j]/\Q (.int (if j<i then j else i)) H):=by
 intro pins s σ H xs us Q I r h;obtain⟨i,j,rfl,q⟩:=h;obtain⟨u,w',rfl,⟨t,rfl⟩,⟨t',rfl⟩⟩:=vals2 r;refine min_two_ints (I.ok.hd hc) λh' tk k=>⟨_,H,I.kept k,?_,q⟩
 by_cases hj:j<i
 .rw[if_pos hj,if_pos hj];exact⟨_,rfl⟩
 .rw[if_neg hj,if_neg hj];exact⟨_,rfl⟩
theorem j70:Jq X (.type "int") (λxs H Q=>(∃i,xs=[.int i]/\Q (.int i) H)\/∃k,xs=[.bl k]/\Q (.int (if k then 1 else 0)) H):=by
 intro pins s σ H xs us Q I r h;rcases h with ⟨i,rfl,q⟩|⟨k,rfl,q⟩
 .obtain⟨u,rfl,t,rfl⟩:=vals1 r;exact call_int_int ⟨.int i,H,I,⟨_,rfl⟩,q⟩
 .obtain⟨u,rfl,r1⟩:=vals1 r;cases r1;exact call_int_bool ⟨.int (if k then 1 else 0),H,I.tok _,⟨_,rfl⟩,q⟩
end
structure ObjM(h:aD)(x dx C:aa)(mA:k8g):Prop where
 obj:h.get? x=a3 (W.instObj C dx)
 ns:h.Ns1 dx mA
 ne:dx≠x
section
variable{prog:au}{w:az}{A:aC}{E:k8e}{s:af}{K:k8d}{x dx C f:aa}{mA:k8g}{name:ah}{v:a9}
end
noncomputable def j7y(f:ah)(v:V):List (ah×V)->List (ah×V)
 |[]=>[(f,v)]
 |(g,x)::r=>if g=f then(g,v)::r else(g,x)::j7y f v r
section
variable{P:au}{w:az}{H H':Hp}{h h':aD}{a C dx:aa}{fs fs':List (ah×V)}
end
structure Cls(K:k8d)(C:aa):Prop where
 pg:W.plainGet K C Str.empty=a5
 hd:W.hasDictIn K C=a5
 po:W.plainOver K C=a5
 sa:W.findIn K (.ref C) "__setattr__" = a3 (a3 (.builtin "object.__setattr__"))
structure Con(K:k8d)(C:aa)(f:ah)(v:V)(u:a9):Prop where
 at_:W.findIn K (.ref C) f=a3 (a3 u)
 rel:RelV v u
 get:W.specialIn K u "__get__" = a3 a6
 cp:W.copiedNames.contains f=a4
structure Meth(K:k8d)(C:aa)(m:ah)(f:aa):Prop where
 at_:W.findIn K (.ref C) m=a3 (a3 (.ref f))
 fn:W.isFn K (.ref f)=a5
 kp:W.keepIn K (.ref f)=a5
section
variable{X:Cx}{pins:k8f}{σ:St}{H:Hp}{s:af}{a C dx:aa}{fs:List (ah×V)}{f:ah}{v:V}{A:aC}{E:k8e}
end
section
variable{X:Cx}{o e value:aj}{f:ah}{pos pos' tpos:aK}{ta tv:TE}
end
section
variable{X:Cx}{pins:k8f}{σ:St}{H:Hp}{s:af}{A:aC}{E:k8e}{Q:k8e}{c:a9}{b:Bool}
inductive TyOf(K:k8d)(H:Hp):V->a9->Prop where
 |non:TyOf K H .non (.type "NoneType")
 |bl (x:Bool):TyOf K H (.bl x) (.type "bool")
 |int (i:Int):TyOf K H (.int i) (.type "int")
 |str (x:ah):TyOf K H (.str x) (.type "str")
 |flt (x:UInt64):TyOf K H (.flt x) (.type "float")
 |lst {a:aa} {xs:List V} (e:H a=a3 (.lst xs)):TyOf K H (.ref a) (.type "list")
 |frz {a:aa} {o:d8} {xs:List V} (e:H a=a3 (.frz o (.lst xs))):TyOf K H (.ref a) (.type "list")
 |tup {a:aa} {xs:List V} (e:H a=a3 (.tup xs)):TyOf K H (.ref a) (.type "tuple")
 |dK {a:aa} {kvs:List (Key×V)} (e:H a=a3 (.dK kvs)):TyOf K H (.ref a) (.type "dict")
 |dT {a:aa} {kvs:List (List Key×V)} (e:H a=a3 (.dT kvs)):TyOf K H (.ref a) (.type "dict")
 |ins {a C dx:aa} {fs:List (ah×V)} (e:H a=a3 (.ins C dx fs)) (cl:Cls K C) (ha:W.findIn K (.ref C) "__class__" = a3 (a3 (.builtin "object.__class__")))
   (hn:W.specialIn K (.builtin "object.__class__") "__get__" = a3 (a3 (.builtin "getset_descriptor.__get__"))) (htk:W.takesIn K (.builtin "object.__class__")=a3 a5)
   (hm:W.mroIn K C (.type "object")=a3 a5):TyOf K H (.ref a) (.ref C)
end
structure Room(k:Nat)(A:aC):Prop where
 hd:A.handled=a6
 dp:A.depth+3*k+5<eT
 un:A.units+16*k+200<aS
theorem Room.mono{j k:Nat}{A:aC}(r:Room k A)(h:j<=k):Room j A:=⟨r.hd,by have:=r.dp;omega,by have:=r.un;omega⟩
theorem Room.deeper{k:Nat}{A:aC}(r:Room (k+1) A)(env:dB):Room k (A.deeper env) :=
 ⟨r.hd,by have:=r.dp;show A.depth+1+3*k+5<_;omega,by have:=r.un;show A.units+3+16*k+200<_;omega⟩
theorem Room.depth{k:Nat}{A:aC}(r:Room k A):A.depth<eT:=by have:=r.dp;omega
def jeg:TA:=λ_ H Q=>Q [] H
def jae(ta:TE)(tr:TA):TA:=λσ H Q=>ta σ H λx H1=>tr σ H1 λxs H2=>Q (x::xs) H2
section
variable{X:Cx}{e:aj}{es:List aj}{te:TE}{t:TA}{pos:aK}
theorem jz:PA X [] jeg:=λ_ _ _ _ H Q I h=>eQ ⟨[],H,I,.nil,h⟩
theorem jd(ha:PE X e te)(hr:PA X es t)(hs:a8 (e::es) X.env=(a4,ay e X.env)::a8 es X.env:=by rfl):PA X (e::es) (jae te t):=by intro pos pins s σ H Q I h;rw[hs];show ar _ _ (iS ((a4,ay e X.env)::aM pos (a8 es X.env))) _ _ s;refine eL (thn (ha pins s σ H _ I h) λu s1 ⟨x,H1,I1,r1,q1⟩=>?_);exact thn (hr pos pins s1 σ H1 _ I1 q1) λus s2 ⟨xs,H2,I2,r2,q2⟩=>⟨x::xs,H2,I2,.cons r1 r2,q2⟩
def jko(t:TA):TE:=λσ H Q=>t σ H λxs H1=>xs.length<=ak/\∀p,H1 p=a6->Q (.ref p) (upd H1 p (.tup xs))
def jks(t:TA):TE:=λσ H Q=>t σ H λxs H1=>xs.length<=ak/\∀p,H1 p=a6->Q (.ref p) (upd H1 p (.lst xs))
theorem j59{x1}(h:PA X es t):PE X (.Tuple es x1 pos) (jko t):=by intro pins s σ H Q I hq;refine wpAny_Tuple_spliced (thn (h pos pins s σ H _ I hq) λus s1 ⟨xs,H1,I1,r,z,q⟩=>⟨by rw[<-r.length];exact z,?_⟩);have hf:H1 s1.heap.objs.size=a6:=I1.hok.fresh (xx _);refine⟨.ref s1.heap.objs.size,upd H1 s1.heap.objs.size (.tup xs),I1.laid (t':=s1.toks) (λb u e=>xj _ e) (xx _) ?_,rfl,q _ hf⟩;exact⟨z,us,r,⟨_,X5 _ rfl,rfl,_,rfl⟩,V8.new _ _⟩
theorem j5d(h:PA X es t):PE X (.List es pos) (jks t):=by intro pins s σ H Q I hq;refine wpAny_List_spliced (thn (h pos pins s σ H _ I hq) λus s1 ⟨xs,H1,I1,r,z,q⟩=>⟨by rw[<-r.length];exact z,?_⟩);have hf:H1 s1.heap.objs.size=a6:=I1.hok.fresh (xx _);refine⟨.ref s1.heap.objs.size,upd H1 s1.heap.objs.size (.lst xs),I1.laid (t':=s1.toks) (λb u e=>xj _ e) (xx _) ?_,rfl,q _ hf⟩;exact⟨z,us,0,r,X5 _ rfl⟩
end
abbrev Sp:=List V->Hp->VK->XK->Prop
abbrev CXT:=List dB->Hp->af->XK->a9->af->Prop
structure Env0(P:au)(w:az)(K:k8d)(mg:k8g)(base:aD)(A:aC)(outer:List dB)(s:af)(H:Hp):Prop where
 frames:A.frames=a3 outer
 mod:Mod K mg base
 bs:∀b o,base.get? b=a3 o->s.heap.get? b=a3 o/\H b=a6
 bsz:base.objs.size<=s.heap.objs.size
 funs:s.heap.FunFrames base outer
 frf:∀b∈frs outer,H b=a6
 hok:HOk P w H s.heap
 bare:dD s.gens
def CE(outer:List dB)(P:au)(w:az)(H:Hp)(s:af)(Q:VK)(u:a9)(s':af):Prop :=
 ∃v H',s'.os=s.os/\dD s'.gens/\Un (frs outer) [] H H' s.heap s'.heap/\HOk P w H' s'.heap/\RelV v u/\Q v H'
def CR(CX:CXT)(outer:List dB)(P:au)(w:az)(H:Hp)(s:af)(Q:VK)(E:XK)(r:eX)(s':af):Prop :=
 match r with
 |.ok (.ret u)=>CE outer P w H s Q u s'
 |.ok _=>False
 |.error e=>CX outer H s E e s'
structure FnOk(P:au)(w:az)(K:k8d)(mg:k8g)(base:aD)(CX:CXT)(k:Nat)(f:aa)(fd:aL)(ps:List ah)(sp:Sp):Prop where
 len:∀vs H Q E,sp vs H Q E->vs.length=ps.length
 run:∀(A:aC)(outer:List dB)(s:af)(H:Hp)(args:Args)(us:List a9)(vs:List V) (Q:VK) (E:XK),Room k A->Env0 P w K mg base A outer s H->d9 s fd args (ps.zip us)->Vals vs us->sp vs H Q E ->
  ck (ax P w) A (.call (.ref f) args) (CR CX outer P w H s Q E) s
theorem FnOk.imp{P:au}{w:az}{K:k8d}{mg:k8g}{base:aD}{CX:CXT}{k:Nat}{f:aa}{fd:aL}{ps:List ah}{sp sp':Sp}(F:FnOk P w K mg base CX k f fd ps sp)
  (h:∀vs H Q E,sp' vs H Q E->sp vs H Q E):FnOk P w K mg base CX k f fd ps sp' :=
 ⟨λvs H Q E q=>F.len vs H Q E (h _ _ _ _ q),λA outer s H args us vs Q E hr he hb hv hs=>F.run A outer s H args us vs Q E hr he hb hv (h _ _ _ _ hs)⟩
section
variable{X:Cx}{pins:k8f}{σ:St}{H:Hp}{s s':af}
theorem Inv.env0(I:Inv X pins σ H s):Env0 X.prog X.w X.K X.mg X.base X.A X.stack s H :=
 ⟨I.ok.frames,I.ok.mod,I.bs,Xk I.ok.bsz I.sz,I.stack,I.stkFree,I.hok,I.bare⟩
theorem Inv.after{Q:VK}{u:a9}(I:Inv X pins σ H s)(h:CE X.stack X.prog X.w H s Q u s'):EP X pins σ Q u s':=by obtain⟨v,H',os,bare,un,hok,r,q⟩:=h;obtain⟨hh,g,d,t,os'⟩:=s';obtain rfl:os'=s.os:=os;exact⟨v,H',I.call (h':=hh) (g':=g) (d':=d) (t':=t) (ch:=[]) un hok bare (λb z=>absurd z (by simp)),r,q⟩
end
def jiq(sp:Sp)(dvs:List V)(E:XK)(t:TA):TE:=λσ H Q=>t σ H λvs H1=>sp (vs++dvs) H1 Q E
def Binds(K:k8d)(fd:aL)(ps:List ah)(ds:List a9):Prop :=
 ∀(s:af)(us:List a9),K.In s.heap->(us++ds).length=ps.length->d9 s fd ⟨us,[]⟩ (ps.zip (us++ds))
theorem Binds.all{K:k8d}{fd:aL}{ps:List ah}(h:∀us:List a9,us.length=ps.length->eW fd ⟨us,[]⟩=pure (ps.zip us)):Binds K fd ps []:=λs us _ hl=>by rw[Xv]at hl ⊢;exact .of_eq (h us hl)
def Mh(CX:CXT)(X:Cx)(E:XK):Prop:=∀(pins:k8f) (σ:St) (H:Hp) (s:af) (e:a9) (s':af),Inv X pins σ H s->CX X.stack H s E e s'->X.xe e s'
section
variable{X:Cx}{CX:CXT}{k:Nat}{f C:aa}{fd:aL}{ps:List ah}{sp:Sp}{dvs:List V}{ds:List a9}{E:XK}{x m:ah}{p pos apos:aK}{e o:aj}{es:List aj}{ta:TE}{t:TA}
theorem jew{pins:k8f}{σ:St}{H:Hp}{s:af}{Q:VK}{us:List a9}{vs:List V}(F:FnOk X.prog X.w X.K X.mg X.base CX k f fd ps sp)(hr:Room k X.A)(hb:Binds X.K fd ps ds)(hd:Vals dvs ds)(hx:Mh CX X E)
  (I:Inv X pins σ H s) (r:Vals vs us) (h:sp (vs++dvs) H Q E):ar (ax X.prog X.w) X.A (call (.ref f) us) (EP X pins σ Q) X.xe s:=by
 have r2:Vals (vs++dvs) (us++ds):=r.append hd;have hl:(us++ds).length=ps.length:=by rw[<-r2.length];exact F.len _ _ _ _ h
 refine dZ (bf (F.run X.A X.stack s H ⟨us,[]⟩ (us++ds) (vs++dvs) Q E hr I.env0 (hb s us I.kIn hl) r2 h) λr s' hq=>?_);cases r with
 |error e=>exact hx pins σ H s e s' I hq
 |ok fl =>
  cases fl with
  |ret u=>exact I.after hq
  |next=>exact aT hq
  |brk=>exact aT hq
  |cont=>exact aT hq
theorem Mt(F:FnOk X.prog X.w X.K X.mg X.base CX k f fd ps sp)(hr:Room k X.A)(hg:Gl X x)(hm:X.mg x=a3 (.ref f))(hk:W.keepIn X.K (.ref f)=a5)(hb:Binds X.K fd ps ds)(hd:Vals dvs ds)(hx:Mh CX X E)
  (ha:PA X (e::es) t) (hdb:(x==k8h)=a4:=by decide) (he:a8 (e::es) X.env=(a4,ay e X.env)::a8 es X.env:=by rfl) (hpl:(aM pos (a8 es X.env)).any (·.1)=a4:=by rfl) :
  PE X (.Call (.Name x p) (e::es) [] pos) (jiq sp dvs E t):=by
 intro pins s σ H Q I h;refine aH (Yd I hg hm ?_ hdb);refine W.callWith_K (h₀:=X.base) I.ok.mod.kin hk (thn (ha pos pins s σ H _ I h) λus s1 ⟨vs,H1,I1,r,q⟩=>⟨I1.kIn,?_⟩) he hpl;exact jew F hr hb hd hx I1 r q
structure Mk(K:k8d)(C f:aa):Prop where
 makes:W.makesIn K C=a5
 init:W.findIn K (.ref C) "__init__" = a3 (a3 (.ref f))
 fn:W.isFn K (.ref f)=a5
 kp:W.keepIn K (.ref C)=a5
end
def PK(X:Cx)(kws:List ba)(t:TA):Prop :=
 ∀(pos:aK)(pins:k8f) (s:af) (σ:St) (H:Hp) (Q:List V->Hp->Prop),Inv X pins σ H s->t σ H Q->ar (ax X.prog X.w) X.A (evalAll ((b0 pos (aJ kws X.env)).map (·.2))) (AP X pins σ Q) X.xe s
section
variable{X:Cx}{CX:CXT}{k:Nat}{f C:aa}{fd:aL}{ps ks:List ah}{sp:Sp}{E:XK}{x m:ah}{p pos apos kpos:aK}{e o:aj}{es:List aj}{kws:List ba}{te ta:TE}{t tk:TA}{nm:Option ah}
theorem jfc:PK X [] jeg:=λ_ _ _ _ H Q I h=>wpAny_evalAll_nil ⟨[],H,I,.nil,h⟩
theorem Vd(ha:PE X e te)(hr:PK X kws t):PK X (⟨nm,e,kpos⟩::kws) (jae te t):=by intro pos pins s σ H Q I h;show ar _ _ (evalAll ((do let v <-ay e X.env;fR pos;pure v)::(b0 pos (aJ kws X.env)).map (·.2))) _ _ s;refine wpAny_evalAll_cons (a7 (thn (ha pins s σ H _ I h) λu s1 ⟨x,H1,I1,r1,q1⟩=>a7 (fw (ai ?_))));exact thn (hr pos pins s1 σ H1 _ I1 q1) λus s2 ⟨xs,H2,I2,r2,q2⟩=>⟨x::xs,H2,I2,.cons r1 r2,q2⟩
structure KBinds(K:k8d)(fd:aL)(ps ks:List ah)(g:List a9->List a9->List a9)(gV:List V->List V->List V):Prop where
 to:∀(s:af)(us ws:List a9),K.In s.heap->(g us ws).length=ps.length->d9 s fd ⟨us,ks.zip ws⟩ (ps.zip (g us ws))
 rel:∀{vs:List V}{us:List a9}{zs:List V}{ws:List a9},Vals vs us->Vals zs ws->Vals (gV vs zs) (g us ws)
def jei(sp:Sp)(gV:List V->List V->List V)(E:XK)(t tk:TA):TE:=λσ H Q=>t σ H λvs H1=>tk σ H1 λzs H2=>sp (gV vs zs) H2 Q E
variable{g:List a9->List a9->List a9}{gV:List V->List V->List V}
theorem jbp{pins:k8f}{σ:St}{H:Hp}{s:af}{Q:VK}{us ws:List a9}{vs zs:List V}(F:FnOk X.prog X.w X.K X.mg X.base CX k f fd ps sp)(hr:Room k X.A)(hb:KBinds X.K fd ps ks g gV)(hx:Mh CX X E)
  (I:Inv X pins σ H s) (r:Vals vs us) (rz:Vals zs ws) (h:sp (gV vs zs) H Q E):ar (ax X.prog X.w) X.A (call (.ref f) us (ks.zip ws)) (EP X pins σ Q) X.xe s:=by
 have r2:=hb.rel r rz;have hl:(g us ws).length=ps.length:=by rw[<-r2.length];exact F.len _ _ _ _ h
 refine dZ (bf (F.run X.A X.stack s H ⟨us,ks.zip ws⟩ (g us ws) (gV vs zs) Q E hr I.env0 (hb.to s us ws I.kIn hl) r2 h) λr s' hq=>?_);cases r with
 |error e=>exact hx pins σ H s e s' I hq
 |ok fl =>
  cases fl with
  |ret u=>exact I.after hq
  |next=>exact aT hq
  |brk=>exact aT hq
  |cont=>exact aT hq
theorem j84(F:FnOk X.prog X.w X.K X.mg X.base CX k f fd ps sp)(hr:Room k X.A)(hg:Gl X x)(hm:X.mg x=a3 (.ref f))(hk:W.keepIn X.K (.ref f)=a5)(hb:KBinds X.K fd ps ks g gV)(hx:Mh CX X E)
  (ha:PA X (e::es) t) (hkw:PK X kws tk) (hall:(b0 pos (aJ kws X.env)).all (·.1.isSome)=a5:=by rfl) (hks:(b0 pos (aJ kws X.env)).filterMap (·.1)=ks:=by rfl)
  (hdb:(x==k8h)=a4:=by decide) (he:a8 (e::es) X.env=(a4,ay e X.env)::a8 es X.env:=by rfl)
  (hpl:((aM pos (a8 (e::es) X.env)).any (·.1) || (b0 pos (aJ kws X.env)).any (·.1.isNone))=a4:=by rfl) :
  PE X (.Call (.Name x p) (e::es) kws pos) (jei sp gV E t tk):=by
 intro pins s σ H Q I h;refine aH (Yd I hg hm ?_ hdb);refine W.callWith_KW (h₀:=X.base) I.ok.mod.kin hk hall (thn (ha pos pins s σ H _ I h) λus s1 ⟨vs,H1,I1,r,q⟩=>?_) hpl he;refine thn (hkw pos pins s1 σ H1 _ I1 q) λws s2 ⟨zs,H2,I2,rz,q2⟩=>⟨I2.kIn,?_⟩
 rw[hks];exact jbp F hr hb hx I2 r rz q2
end
structure FnScope(N P:List ah)(sc:b7):Prop where
 kind:sc.kind=.function
 co:sc.isCoroutine=a4
 gen:sc.isGenerator=a4
 nd:N.Nodup
 pre:N.take P.length=P
 par:∀x∈P,sc.names.lookup x=a3 .local\/sc.names.lookup x=a3 .cell
 nofree:∀y∈sc.names,y.2≠.free
theorem Kg{kindOf:ah->Option bh}{x:ah}:∀{binds:List (ah×a9)} {m:k8g},(∀v,(x,v)∉binds)->iE kindOf binds m x=m x
 |[],_,_=>rfl
 |(n,v)::r,m,h=>by
  unfold iE;rw[Kg λw hw=>h w (xg _ hw)];split
  .have:x≠n:=by rintro rfl;exact h v xm
   simp[this]
  .rfl
theorem Kl{kindOf:ah->Option bh}{x:ah}:∀{binds:List (ah×a9)} {m:k8g},(∀v,(x,v)∉binds)->iF kindOf binds m x=m x
 |[],_,_=>rfl
 |(n,v)::r,m,h=>by
  unfold iF;rw[Kl λw hw=>h w (xg _ hw)];split
  .rfl
  .have:x≠n:=by rintro rfl;exact h v xm
   simp[this]
theorem Kh{kindOf:ah->Option bh}{x:ah}{v:a9}:∀{P:List ah}{vs:List a9}{i:Nat}{m:k8g},P.Nodup->P[i]?=a3 x->vs[i]?=a3 v->kindOf x=a3 .local ->
  iE kindOf (P.zip vs) m x=a3 v
 |[],_,_,_,_,h,_,_=>by simp at h
 |_::_,[],_,_,_,_,h,_=>by simp at h
 |p::P,w::vs,0,m,nd,h1,h2,hk=>by simp at h1 h2;subst h1;subst h2;show iE kindOf ((p,w)::P.zip vs) m p=_;unfold iE;rw[Kg λv hv=>(Xn.mp nd).1 (dJ hv).1,if_pos hk];simp
 |p::P,w::vs,i+1,m,nd,h1,h2,hk=>by show iE kindOf ((p,w)::P.zip vs) m x=_;unfold iE;exact Kh (i:=i) (Xn.mp nd).2 (by simpa using h1) (by simpa using h2) hk
theorem Km{kindOf:ah->Option bh}{x:ah}{v:a9}:∀{P:List ah}{vs:List a9}{i:Nat}{m:k8g},P.Nodup->P[i]?=a3 x->vs[i]?=a3 v->kindOf x≠a3 .local ->
  iF kindOf (P.zip vs) m x=a3 v
 |[],_,_,_,_,h,_,_=>by simp at h
 |_::_,[],_,_,_,_,h,_=>by simp at h
 |p::P,w::vs,0,m,nd,h1,h2,hk=>by simp at h1 h2;subst h1;subst h2;show iF kindOf ((p,w)::P.zip vs) m p=_;unfold iF;rw[Kl λv hv=>(Xn.mp nd).1 (dJ hv).1,if_neg hk];simp
 |p::P,w::vs,i+1,m,nd,h1,h2,hk=>by show iF kindOf ((p,w)::P.zip vs) m x=_;unfold iF;exact Km (i:=i) (Xn.mp nd).2 (by simpa using h1) (by simpa using h2) hk
noncomputable def start(N:List ah)(vs:List V):St:=vs.map a3++ae (N.length-vs.length) a6
noncomputable def vy(CX:CXT)(P:au)(w:az)(K:k8d)(mg:k8g)(base:aD)(N:List ah)(qual:ah)(scope:b7)(f:aa)(cd:a9)(A:aC)(outer:List dB)(s:af)(H:Hp)(E:XK):Cx where
 prog:=P
 w:=w
 K:=K
 mg:=mg
 base:=base
 A:=A.deeper (br qual scope s.heap.objs.size f cd)
 N:=N
 s₀:=s
 H₀:=H
 env:=br qual scope s.heap.objs.size f cd
 outer:=outer
 stack:=br qual scope s.heap.objs.size f cd::outer
 ex:=[]
 calm:=a5
 fn:=λ_=>a5
 pn:=[]
 xe:=λe s'=>ar (ax P w) (A.deeper (br qual scope s.heap.objs.size f cd)) (leaving (br qual scope s.heap.objs.size f cd) e) (λ_ s''=>CX outer H s E e s'') (λe' s''=>CX outer H s E e' s'') s'
theorem j0z{sc:b7}{n:Nat}{x:ah}(h:sc.names.lookup x=a3 .cell):∃c,(aO n sc.names []).lookup x=a3 c:=by have q:=W.cellsFrom_some sc.names n [] (.inl h);exact Xw.mp q
theorem j62{CX:CXT}{P:au}{w:az}{K:k8d}{mg:k8g}{base:aD}{N ps:List ah}{qual:ah}{scope:b7}{f:aa}{cd:a9}{A:aC}{outer:List dB}{s s1:af}{H:Hp}{E:XK}{us:List a9}{vs:List V}
  (S:FnScope N ps scope) (cm:Bool) (hd:cm=a5->A.handled=a6) (e0:Env0 P w K mg base A outer s H) (hl:vs.length=ps.length) (r:Vals vs us)
  (x:InCallC s s.heap.objs.size (iE (br qual scope s.heap.objs.size f cd).kindOf (ps.zip us) λ_=>a6) (aO (s.heap.objs.size+1) scope.names []) (iF (br qual scope s.heap.objs.size f cd).kindOf (ps.zip us) λ_=>a6) s1) :
  Inv { vy CX P w K mg base N qual scope f cd A outer s H E with calm:=cm } [] (start N vs) H s1:=by
 have hpl:ps.length<=N.length:=by have:=congrArg cG S.pre;rw[Xo]at this;omega
 obtain⟨h1,tk,rfl,hk⟩:=x.done;have noA:∀b:aa,b∉(vy CX P w K mg base N qual scope f cd A outer s H E).ex:=λb z=>absurd (show b∈([]:List aa)from z) (by simp);refine⟨⟨e0.mod,S.kind,rfl,rfl,xx _,λy z c h1 h2=>?_,λy hy=>?_,λy c _ h=>?_,hd,Around.frames_deeper e0.frames,.inr ⟨rfl,rfl⟩,λb z=>absurd z (noA b),e0.bs,e0.bsz,λb _ _=>noA b,λb z=>absurd z (noA b),e0.funs,e0.frf⟩,
  rfl,e0.bare,Un.kept hk,⟨_,x.toInCall.ns,λi y v h1 h2 h3=>?_⟩,λy c h=>⟨_,x.cell y c h⟩,e0.hok.fresh (xx _),λy c h=>?_,λp hp=>absurd (show p∈([]:k8f)from hp) (by simp),e0.hok.kept hk,?_⟩
 .exact name_of_addr x.apart (Pu h1) (Pu h2)
 .have hy:scope.names.lookup y=a3 .cell\/scope.names.lookup y=a3 .free:=hy;rcases hy with hy|hy
  .exact j0z hy
  .exact absurd rfl (S.nofree _ (Pu hy))
 .exact cT (x.above y c (Pu h))
 .have hi:i<vs.length:=by
   unfold start at h2;by_cases hi:i<vs.length
   .exact hi
   .rw[bM (by simpa using hi)]at h2;rw[dy]at h2;split at h2<;>cases h2
  have ha:vs[i]?=a3 v:=by
   unfold start at h2;rw[Pr (by simpa using hi),X3]at h2;cases e:vs[i]? with
   |none=>rw[e]at h2;cases h2
   |some a=>rw[e]at h2;cases h2;rfl
  obtain⟨u,hu,rv⟩:=r.get ha;have hp:ps[i]?=a3 y:=by rw[<-S.pre,List.getElem?_take_of_lt nofun];exact h1
  have ndP:ps.Nodup:=by rw[<-S.pre];exact S.nd.sublist (List.take_sublist _ _)
  refine⟨u,rv,?_⟩;rcases S.par y (Xm hp)with k|k
  .exact .inl ⟨k,Kh ndP hp hu k⟩
  .obtain⟨c,e⟩:=j0z (n:=s.heap.objs.size+1) k;refine .inr ⟨.inl k,c,e,?_⟩;have q:=x.cell y c e;rw[Km ndP hp hu (by show scope.names.lookup y≠_;rw[k];decide)]at q;exact q
 .exact e0.hok.fresh (cT (x.above y c (Pu h)))
 .unfold start;show _=N.length;rw[Xb,kj,Px];omega
theorem Inv.extOut{X:Cx}{pins:k8f}{σ:St}{H H2:Hp}{s:af}(J:Inv X pins σ H s)(x:Ext X H H2 s):HOk X.prog X.w H2 s.heap/\(X.ex=[]->Un X.fs [] X.H₀ H2 X.s₀.heap s.heap):=by
 have old:∀b o,X.s₀.heap.get? b=a3 o->H2 b=H b:=λb o e=>(x b).elim id λ⟨y,ob,v,hc,hf,_⟩=>absurd (Xj (xu e) (J.ok.cab y b hf hc)) (ph _);have trk:∀{b:aa}{u:HO},H b=a3 u->H2 b=a3 u:=λ{b u} e=>(x b).elim (λz=>z.trans e) λ⟨y,ob,v,hc,_⟩=>by rw[J.freeC y b hc]at e;cases e
 refine⟨λa o e=>?_,λhx=>?_⟩
 .rcases x a with z|⟨y,ob,v,_,_,e2,e3,_⟩
  .exact(J.hok a o (z▸e)).stay (λ_ _ _ q=>q) (λ_ q=>trk q) (λ_ _ q=>trk q) λ_ _ _ q=>trk q
  .rw[e2]at e;cases e;exact⟨e3,ob,e3⟩
 .have nx:∀b,b∉X.ex:=λb=>by rw[hx];simp
  exact⟨λb o e n hb _=>J.base.keep b o e n hb (nx b),λb o e n hb _=>J.base.slot b o e n hb (nx b),λb o e n _=>(old b o e).trans (J.base.free b o e n (nx b)),λb o e _=>J.base.there b o e (nx b),
   λb xs e=>trk (J.base.tups b xs e),λb o u e=>trk (J.base.frzs b o u e),λb ps e=>let ⟨m,z⟩:=J.base.tbls b ps e;⟨m,trk z⟩⟩
theorem jaw{CX:CXT}{P:au}{w:az}{K:k8d}{mg:k8g}{base:aD}{k:Nat}{f:aa}{name qual:ah}{params:dh}{body:List aQ}{scope:b7}{dV kV doc pm cdv ct oc:a9}{an od:Option aa}
  {osl:Array (Option a9)} {N ps:List ah} {sp:Sp} (lk:K.lookup f=a3 ⟨oc,od,.func (W.fnOf name qual params body scope dV kV doc pm an cdv ct),osl⟩) (hcd:W.codeIn K cdv qual=a5) (S:FnScope N ps scope)
  (len:∀vs H Q E,sp vs H Q E->vs.length=ps.length)
  (hbody:∀(A:aC)(outer:List dB)(s:af)(H:Hp)(vs:List V)(Q:VK)(E:XK),Room k (A.deeper (br qual scope s.heap.objs.size f cdv))->sp vs H Q E ->
   ∃t,PSs (vy CX P w K mg base N qual scope f cdv A outer s H E) body t/\t { nx:=λ_ H'=>Q .non H',rt:=Q } (start N vs) H) :
  FnOk P w K mg base CX (k+1) f (W.fnOf name qual params body scope dV kV doc pm an cdv ct) ps sp:=by
 refine⟨len,λA outer s H args us vs Q E hr e0 hb r hsp=>?_⟩;have hl:=len _ _ _ _ hsp;have KX:K.In s.heap:=e0.mod.kin.keeps λb o e=>(e0.bs b o e).1;have lim:s.heap.NoLimit:=e0.mod.nolimit.keeps λb o e=>(e0.bs b o e).1;have hkind:∀y∈ps.zip us,scope.names.lookup y.1=a3 .local\/(scope.names.lookup y.1=a3 .cell/\((aO (s.heap.objs.size+1) scope.names []).lookup y.1).isSome=a5):=λ⟨n,v⟩ hy=>by
  rcases S.par n (dJ hy).1 with q|q
  .exact .inl q
  .exact .inr ⟨q,W.cellsFrom_some _ _ _ (.inl q)⟩
 refine codeAny_call_function hr.depth (KX _ _ lk) rfl S.co S.gen rfl (W.codeRec_of KX hcd) (hb _ _ _ _ ?_);refine wpAny_newFunctionEnv_cells S.kind hkind λenv he s1 x=>?_;subst he;refine⟨lim.keeps x.toInCall.keep,codeAny_func ?_⟩;obtain⟨t,ht,hq⟩:=hbody A outer s H vs Q E (hr.deeper _) hsp;have I:Inv (vy CX P w K mg base N qual scope f cdv A outer s H E) [] (start N vs) H s1:=j62 S a5 (λ_=>hr.hd) e0 hl r x;refine bH (ht [] s1 (start N vs) H _ I hq) (λfl s' hs=>?_) λe s' hs=>hs;have fin:∀{σ':St}{H':Hp}{v:V}{u:a9},Inv (vy CX P w K mg base N qual scope f cdv A outer s H E) [] σ' H' s'->RelV v u->Q v H'->CE outer P w H s Q u s' :=
  λ{σ' H' v u} J rv q=>⟨v,H',J.os,J.bare,J.base,J.hok,rv,q⟩
 cases fl with
 |ret u =>obtain⟨v,σ',H',H2,J,rv,x,q⟩:=hs;exact⟨v,H2,J.os,J.bare,(J.extOut x).2 rfl,(J.extOut x).1,rv,q⟩
 |next =>obtain⟨σ',H',J,q⟩:=hs;exact fin (v:=V.non) (u:=aR) J rfl q
 |brk =>obtain⟨_,_,_,q⟩:=hs;exact aT q
 |cont =>obtain⟨_,_,_,q⟩:=hs;exact aT q
section
variable{X:Cx}{x:ah}{p pos:aK}{e:aj}{es:List aj}{t:TA}{id T:String}{r:List V->Hp->VK->Prop}
def tCB(r:List V->Hp->VK->Prop)(t:TA):TE:=λσ H Q=>t σ H λvs H1=>r vs H1 Q
theorem vq (hc:Jq X (.builtin id) r) (hg:Gl X x) (hm:X.mg x=a6) (hv:aY x=a3 (.builtin id)) (ha:PA X (e::es) t) (hn:x ≠ "__name__":=by decide) (hdb:(x==k8h)=a4:=by decide)
  (he:a8 (e::es) X.env=(a4,ay e X.env)::a8 es X.env:=by rfl) (hpl:(aM pos (a8 es X.env)).any (·.1)=a4:=by rfl):PE X (.Call (.Name x p) (e::es) [] pos) (tCB r t):=by
 intro pins s σ H Q I h;refine aH (Qs I hg hm hv ?_ hn hdb);exact callWith_builtin1 (thn (ha pos pins s σ H _ I h) λus s1 ⟨vs,H1,I1,r1,q1⟩=>hc pins s1 σ H1 vs us Q I1 r1 q1) he hpl
theorem Rp (hc:Jq X (.type T) r) (hg:Gl X x) (hm:X.mg x=a6) (hv:aY x=a3 (.type T)) (ha:PA X (e::es) t) (hn:x ≠ "__name__":=by decide) (hdb:(x==k8h)=a4:=by decide)
  (he:a8 (e::es) X.env=(a4,ay e X.env)::a8 es X.env:=by rfl) (hpl:(aM pos (a8 es X.env)).any (·.1)=a4:=by rfl):PE X (.Call (.Name x p) (e::es) [] pos) (tCB r t):=by
 intro pins s σ H Q I h;refine aH (Qs I hg hm hv ?_ hn hdb);exact callWith_type1 (thn (ha pos pins s σ H _ I h) λus s1 ⟨vs,H1,I1,r1,q1⟩=>hc pins s1 σ H1 vs us Q I1 r1 q1) he hpl
end
end L2
namespace HT
open PySem PyProof.Rows
noncomputable def lexLt:List Int->List Int->Bool
 |[],[]=>a4
 |[],_::_=>a5
 |_::_,[]=>a4
 |x::xs,y::ys=>if x=y then lexLt xs ys else decide (x<y)
theorem lexLt_cons(x y:Int)(xs ys:List Int):lexLt (x::xs) (y::ys)=if x=y then lexLt xs ys else decide (x<y):=rfl
theorem Kw:lexLt [] []=a4:=rfl
theorem Cd(y:Int)(ys:List Int):lexLt [] (y::ys)=a5:=rfl
theorem Ce(x:Int)(xs:List Int):lexLt (x::xs) []=a4:=rfl
theorem eqAt_int(A:aC)(s:af)(a:Int)(t:gL)(c:Int)(u:gL):∃e,cR A s (.int a t) (.int c u) e/\(e=a5↔a=c) :=
 ⟨(a==c),SeqAt.EqAt.int_int a t c u,by simp⟩
theorem rcLt_int(A:aC)(s:af)(a:Int)(t:gL)(c:Int)(u:gL)(prog:au)(w:az)(E:k8e)(Q:k8e)(h:Q (.bool (decide (a<c))) s) :
  ar (ax prog w) A (gw .Lt (.int a t) (.int c u)) Q E s :=
 (lt_int h:ar (ax prog w) A (aN .Lt (.int a t) (.int c u)) Q E s)
section
open PySem.SeqAt
open PySem.AutoSeq1 (wpAny_loadPart')
open PySem.MeetsSeq PySem.MeetsSeq2 PySem.MeetsSeq3
theorem Kq(l b:aa)(items items2:Array a9)(n n2:Nat)(dd dd2:Option aa)(sl sl2:Array (Option a9))(ns ms:List Int)(hi:cP items.toList ns)(hj:cP items2.toList ms) :
  kz (dC.«tuple.__lt__» ⟨[.ref l,.ref b],[]⟩)
   (λ_ R s=>s.heap.get? l=a3 { cls:=.type "tuple",dict:=dd,data:=.seq items n,slots:=sl }/\s.heap.get? b=a3 { cls:=.type "tuple",dict:=dd2,data:=.seq items2 n2,slots:=sl2 } /\
    R (.ok (.ret (.bool (lexLt ns ms)))) s) :=
 .of_wp λprog w A R s h=>by
  obtain⟨hp,g,d,tk,os⟩:=s;obtain⟨hl,hb,h⟩:=h;have f2:=fM;have z1:items.size=ns.length:=by rw[<-hi.length];simp
  have z2:items2.size=ms.length:=by rw[<-hj.length];simp
  wp_walk using eD hl,eD hb,kS _ (λrest b s'=>b.1=a6/\s'=⟨hp,g,d,tk,os⟩/\∃(vs ws:List a9)(ns' ms':List Int),rest=vs.zip ws /\
   cP vs ns'/\cP ws ms'/\ns'.length+items2.size=ms'.length+items.size/\R (.ok (.ret (.bool (lexLt ns' ms')))) ⟨hp,g,d,tk,os⟩) _
  case turn =>
   rintro⟨y,x⟩ rest b s' ⟨hb',rfl,vs,ws,ns',ms',hz,hvi,hwi,hlen,hR⟩;cases hvi with
   |nil=>rw[List.zip_nil_left]at hz;cases hz
   |cons a t hvi' =>
    cases hwi with
    |nil=>rw[List.zip_nil_right]at hz;cases hz
    |cons c u hwi' =>
     rw[iK]at hz;injection hz with hyx hrest;injection hyx with hy hx;subst hy hx;rw[lexLt_cons]at hR;simp only[X8]at hlen;obtain⟨e,he,hiff⟩:=eqAt_int A.in1 ⟨hp,g,d,tk,os⟩ a t c u;refine a7 (he prog w _ _ ?_);cases e with
     |true =>
      rw[if_pos (hiff.mp rfl)]at hR
      wp_walk
      exact⟨rfl,rfl,_,_,_,_,hrest,hvi',hwi',by omega,hR⟩
     |false =>
      rw[if_neg (λq=>absurd (hiff.mpr q) xf)]at hR;have hri:=rcLt_int A.in1 ⟨hp,g,d,tk,os⟩ a t c u prog w
      wp_walk using hri
      exact⟨_,rfl,by simpa using hR⟩
  case fin =>
   rintro⟨b1,b2⟩ s' ⟨hb',rfl,vs,ws,ns',ms',hz,hvi,hwi,hlen,hR⟩;simp only at hb';subst hb';have hv:lexLt ns' ms'=decide (items.size<items2.size):=by
    cases hvi with
    |nil =>
     cases hwi with
     |nil =>simp only[T7]at hlen;rw[Kw];exact(decide_eq_false nofun).symm
     |cons c u hw =>simp only[T7,X8]at hlen;rw[Cd];exact(decide_eq_true nofun).symm
    |cons a t hv =>
     cases hwi with
     |nil =>simp only[T7,X8]at hlen;rw[Ce];exact(decide_eq_false nofun).symm
     |cons c u hw =>rw[iK]at hz;cases hz
   rw[hv]at hR
   wp_walk
   exact⟨_,rfl,by simpa [dP]using hR⟩
  case h =>exact⟨rfl,rfl,items.toList,items2.toList,ns,ms,rfl,hi,hj,by omega,h⟩
end
section
variable{prog:au}{w:az}{A:aC}{E:k8e}{s:af}
theorem lt_tupInts{l b:aa}{items items2:Array a9}{ns ms:List Int}{Q:k8e}(hl:i4 s.heap l items)(hb:i4 s.heap b items2)(hi:cP items.toList ns)(hj:cP items2.toList ms)
  (hu:A.units<aS) (h:Q (.bool (lexLt ns ms)) s):ar (ax prog w) A (aN .Lt (.ref l) (.ref b)) Q E s:=by
 obtain⟨⟨cls,dd,data,sl⟩,ho,hc,n,hd⟩:=id hl;obtain⟨⟨cls2,dd2,data2,sl2⟩,ho2,hc2,n2,hd2⟩:=id hb;simp only at hc hd hc2 hd2;subst hc hd hc2 hd2;exact iV (op:=.Lt) ⟨_,ho,rfl⟩ ⟨_,ho2,rfl⟩ gp g6 (fW _ _) (Kq l b items items2 n n2 dd dd2 sl sl2 ns ms hi hj)
  ⟨ho,ho2,show bu (lexLt ns ms)≠gR/\Q (.bool (lexLt ns ms)) s from⟨(λx=>nomatch x),h⟩⟩ hu
theorem cat_tup{t b:aa}{vs ws:List a9}{Q:k8e}(ht:i4 s.heap t vs.toArray)(hb:i4 s.heap b ws.toArray)(hv:vs≠[])
  (h1:ws=[]->Q (.ref t) s) (h2:ws≠[]->Q (.ref s.heap.objs.size) { s with heap:=s.heap.push { cls:=.type "tuple",data:=.seq (vs++ws).toArray } })
  (hsz:vs.length+ws.length<=ak):ar (ax prog w) A (aZ .Add (.ref t) (.ref b)) Q E s:=by
 obtain⟨⟨cls,dd,data,sl⟩,ho,hc,n,hd⟩:=id ht;obtain⟨⟨cls2,dd2,data2,sl2⟩,ho2,hc2,n2,hd2⟩:=id hb;simp only at hc hd hc2 hd2;subst hc hd hc2 hd2;have e:vs.toArray++ws.toArray=(vs++ws).toArray:=by simp
 by_cases hw:ws=[]
 .exact fT ⟨_,ho,rfl⟩ ⟨_,ho2,rfl⟩ gf iz dm d6 (cZ _ _)
   (tuple_addW1 t b vs.toArray ws.toArray n n2 dd dd2 sl sl2 (by simpa using hv) (by simp[hw])) ⟨ho,ho2,h1 hw⟩
 .refine fT ⟨_,ho,rfl⟩ ⟨_,ho2,rfl⟩ gf iz dm d6 (cZ _ _)
   (tuple_addW2 t b vs.toArray ws.toArray n n2 dd dd2 sl sl2 (by simpa using hv) (by simpa using hw) (by rw[X4,X4];exact hsz)) ⟨ho,ho2,?_⟩
  rw[e];exact h2 hw
noncomputable def sIx(n d:Nat):Option Int->Nat
 |none=>d
 |some v=>if v<0 then(v+(n:Int)).toNat else min v.toNat n
theorem sIx_none(n d:Nat):sIx n d a6=d:=rfl
theorem sIx_nat(n d k:Nat):sIx n d (a3 (k:Int))=min k n:=by show(if (k:Int)<0 then((k:Int)+(n:Int)).toNat else min (k:Int).toNat n)=min k n;rw[if_neg nofun,X6]
theorem jev(n d:Nat)(hd:d<=n)(o:Option Int):sIx n d o<=n:=by
 cases o with
 |none=>exact hd
 |some v =>
  show(if v<0 then(v+(n:Int)).toNat else min v.toNat n)<=n;by_cases hv:v<0
  .rw[if_pos hv];omega
  .rw[if_neg hv];exact Nat.min_le_right _ _
theorem j2w(v:Int)(n d:Nat):(if v<0 then max (v+(n:Int)) 0 else min v (n:Int))=((sIx n d (a3 v):Nat):Int):=by
 show(if v<0 then max (v+(n:Int)) 0 else min v (n:Int))=(((if v<0 then(v+(n:Int)).toNat else min v.toNat n):Nat):Int)
 by_cases hv:v<0
 .simp only[if_pos hv];omega
 .simp only[if_neg hv];omega
theorem j46(lo hi:Option Int)(n:Nat):cE lo hi 1 (n:Int)=(((sIx n 0 lo:Nat):Int),((sIx n n hi:Nat):Int)):=by
 have h1:¬((1:Int)<0):=by omega
 unfold cE;simp only[h1,if_false];refine Prod.ext ?_ ?_
 .cases lo with
  |none=>rfl
  |some v=>exact j2w v n 0
 .cases hi with
  |none=>rfl
  |some v=>exact j2w v n n
theorem j3d(i j:Nat):bD (i:Int) (j:Int) 1=j-i:=by
 unfold bD;have h1:(1:Int)>0:=by omega
 simp only[h1,if_true,Int.ediv_one];split<;>omega
theorem Nt{v:a9}{o:Option Int}{Q:Option Int->af->Prop}(p:eZ v o)(h:Q o s):ar (ax prog w) A (kQ v) Q E s:=by
 cases p with
 |none=>exact lX h
 |int i t=>exact slicePart_int h
theorem Ox{sl:aa}{vl vu:a9}{lo hi:Option Int}{n:Nat}{Q:Int×Int×Nat->af->Prop}(hs:s.heap.IsSliceOf sl vl vu .none)(pl:eZ vl lo)(pu:eZ vu hi)
  (h:Q (((sIx n 0 lo:Nat):Int),1,sIx n n hi-sIx n 0 lo) s):ar (ax prog w) A (eN (.ref sl) (pure (n:Int))) Q E s:=by
 obtain⟨os,hos,hcs,hds⟩:=id hs;unfold eN kR;refine a7 (a7 (cB hos hds (x:=vl) rfl (a7 (cB hos hds (x:=vu) rfl (a7 (cB hos hds (x:=.none) rfl (ai ?_)))))));refine a7 (lX ?_);show ar _ _ (if ((1:Int)==0)=a5 then _ else _) _ _ s;rw[if_neg (by decide)];refine a7 (Nt pl (a7 (Nt pu (a7 (ai ?_)))));show ar _ _ (match cE lo hi 1 (n:Int)with|(lo,hi)=>pure (lo,(1:Int),bD lo hi 1)) _ _ s;rw[j46 lo hi n];show ar _ _ (pure (((sIx n 0 lo:Nat):Int),(1:Int),bD ((sIx n 0 lo:Nat):Int) ((sIx n n hi:Nat):Int) 1)) _ _ s;rw[j3d];exact ai h
theorem j81(xs:Array a9)(i k:Nat):((aw k).filterMap λ(m:Nat)=>xs[((i:Int)+(m:Int)*1).toNat]?).toArray=((xs.toList.drop i).take k).toArray:=by
 have e:(λ(m:Nat)=>xs[((i:Int)+(m:Int)*1).toNat]?)=λm=>xs[i+m]?:=by
  funext m
  have:((i:Int)+(m:Int)*1).toNat=i+m:=by omega
  rw[this]
 rw[e];have:=pick_run xs i k;rw[List.filterMap_map]at this;have e2:((λx=>xs[x]?) ∘ λx=>i+x)=λm=>xs[i+m]?:=rfl;rw[e2]at this;rw[this]
theorem getItem_tuple_cut{t sl:aa}{items:Array a9}{vl vu:a9}{lo hi:Option Int}{Q:k8e}(ht:i4 s.heap t items)(hs:s.heap.IsSliceOf sl vl vu .none)(pl:eZ vl lo)(pu:eZ vu hi)
  (hw:¬(sIx items.size 0 lo=0/\sIx items.size items.size hi=items.size))
  (h:Q (.ref s.heap.objs.size) { s with heap:=s.heap.push { cls:=.type "tuple",data:=.seq ((items.toList.drop (sIx items.size 0 lo)).take (sIx items.size items.size hi-sIx items.size 0 lo)).toArray } })
  (hsz:items.size<=ak):ar (ax prog w) A (iW (.ref t) (.ref sl)) Q E s:=by
 have htake:sizeOk (.seq ((items.toList.drop (sIx items.size 0 lo)).take (sIx items.size items.size hi-sIx items.size 0 lo)).toArray):=by show((items.toList.drop (sIx items.size 0 lo)).take (sIx items.size items.size hi-sIx items.size 0 lo)).toArray.size<=ak;rw[X4,Xo,Tw,cK];omega
 have hj:sIx items.size items.size hi<=items.size:=jev _ _ (xx _) hi;obtain⟨os,hos,hcs,hds⟩:=id hs;have hTs:s.TypeIs (.ref sl) "slice":=⟨os,hos,hcs⟩
 unfold iW
 try with_reducible refine bq ?_
 first|refine a7 (ai ?_)|skip
 refine a7 (wpAny_sequenceKey ht.typeIs (by decide) ?_);refine a7 (bB (name:=cQ "__getitem__") ht.typeIs kc
  (bA kc ht.typeIs entry_tuple_getitem ?_ (args_tuple_getitem _ _)))
 show ar _ _ (kP (.ref t) >>= _) _ _ s;refine a7 (tupleItemsOf_ ht ?_);refine a7 (wpAny_typeOf hTs ?_);rw[if_pos (by decide)];refine a7 (Ox hs pl pu ?_);have hno:¬((((sIx items.size 0 lo:Nat):Int)==0&&(1:Int)==1&&(sIx items.size items.size hi-sIx items.size 0 lo)==items.size)=a5):=by intro q;rw[Xg,Xg]at q;have q1:((sIx items.size 0 lo:Nat):Int)=0:=eq_of_beq q.1.1;have q2:sIx items.size items.size hi-sIx items.size 0 lo=items.size:=eq_of_beq q.2;exact hw ⟨by omega,by omega⟩
 show ar _ _ (if (((sIx items.size 0 lo:Nat):Int)==0&&(1:Int)==1&&(sIx items.size items.size hi-sIx items.size 0 lo)==items.size)=a5 then _ else _) _ _ s;rw[if_neg hno,j81]
 first
  |exact a7 (m:=aX _) (aI (ai ⟨_,rfl,ai h⟩) htake)
  |exact a7 (m:=aX _) (aI (a7 (ai (ai ⟨_,rfl,ai h⟩))) htake)
  |exact a7 (a7 (m:=aX _) (aI (ai (ai ⟨_,rfl,ai h⟩)) htake))
  |exact a7 (a7 (m:=aX _) (aI (ai ⟨_,rfl,ai h⟩) htake))
end
end HT
namespace L2
open PySem PySem.Spec PyProof.Rows
abbrev TO:=St->Hp->(Option Int->Hp->Prop)->Prop
def PO(X:Cx)(e:Option aj)(t:TO):Prop :=
 ∀(pins:k8f) (s:af) (σ:St) (H:Hp) (Q:Option Int->Hp->Prop),Inv X pins σ H s->t σ H Q ->
  ar (ax X.prog X.w) X.A (evalPart e X.env) (λu s'=>∃o H',Inv X pins σ H' s'/\eZ u o/\Q o H') X.xe s
def jbe:TO:=λ_ H Q=>Q a6 H
def jim(t:TE):TO:=λσ H Q=>t σ H λx H1=>∃i,x=.int i/\Q (a3 i) H1
theorem intsAre_of{ns:List Int}:∀{us:List a9},Vals (ns.map V.int) us->cP us ns:=by
 induction ns with
 |nil=>intro us r;rw[cu]at r;cases r;exact .nil
 |cons n ns ih =>
  intro us r;rw[xr]at r;cases r with
  |cons r1 r2 =>obtain⟨t,e⟩:=r1;subst e;exact .cons n t (ih r2)
section
variable{X:Cx}{e:aj}{te:TE}{lo hi:Option aj}{tl th:TO}{pos p2:aK}
theorem jc5:PO X a6 jbe:=by intro pins s σ H Q I h;rw[m9];exact ai ⟨a6,H,I,.none,h⟩
theorem jc4(h:PE X e te):PO X (a3 e) (jim te):=by intro pins s σ H Q I hw;rw[evalPart_some];refine thn (h pins s σ H _ I hw) λu s1 ⟨x,H1,I1,r1,q1⟩=>?_;obtain⟨i,rfl,q⟩:=q1;obtain⟨t,rfl⟩:=r1;exact⟨a3 i,H1,I1,.int i t,q⟩
def SlR(X:Cx)(r:V->Option Int->Option Int->Hp->VK->Prop):Prop :=
 ∀(pins:k8f) (s:af) (σ:St) (H:Hp) (x:V) (v vl vu:a9) (lo hi:Option Int) (sl:aa) (Q:VK),Inv X pins σ H s->RelV x v->s.heap.IsSliceOf sl vl vu .none->eZ vl lo->eZ vu hi->r x lo hi H Q ->
  ∃T id,typeLookup (.type T) "__getitem__" = pure (a3 (.builtin id))/\s.TypeIs v T/\ar (ax X.prog X.w) X.A (iW v (.ref sl)) (EP X pins σ Q) X.xe s
def tSl(r:V->Option Int->Option Int->Hp->VK->Prop)(te:TE)(tl th:TO):TE:=λσ H Q=>te σ H λx H1=>tl σ H1 λl H2=>th σ H2 λu H3=>r x l u H3 Q
theorem Be{r:V->Option Int->Option Int->Hp->VK->Prop}(hr:SlR X r)(he:PE X e te)(hl:PO X lo tl)(hu:PO X hi th):PE X (.Subscript e (.Slice lo hi a6 p2) pos) (tSl r te tl th):=by intro pins s σ H Q I h;refine Subscript_ (thn (he pins s σ H _ I h) λv s1 ⟨x,H1,I1,r1,q1⟩=>?_);refine wpAny_Slice (thn (hl pins s1 σ H1 _ I1 q1) λvl s2 ⟨l,H2,I2,pl,q2⟩=>thn (hu pins s2 σ H2 _ I2 q2) λvu s3 ⟨u,H3,I3,pu,q3⟩=>?_);rw[m9];refine ai ?_;have I4:Inv X pins σ H3 { s3 with heap:=s3.heap.push { cls:=.type "slice",data:=.fields #[vl,vu,.none] } }:=I3.kept (t':=s3.toks) λb ob q=>xj _ q;obtain⟨T,id,hT,ht,hg⟩:=hr pins { s3 with heap:=s3.heap.push { cls:=.type "slice",data:=.fields #[vl,vu,.none] } } σ H3 x v vl vu l u s3.heap.objs.size Q I4 r1 (Heap.IsSliceOf.new ..) pl pu q3;show ar (ax X.prog X.w) X.A (md e (.Slice lo hi a6 p2) v (.ref s3.heap.objs.size)) (EP X pins σ Q) X.xe { s3 with heap:=s3.heap.push { cls:=.type "slice",data:=.fields #[vl,vu,.none] } };exact lW (ops:=[.ref s3.heap.objs.size,v]) ht hT hg (by with_unfolding_all rfl)
noncomputable def M6(xs:List V)(lo hi:Option Int):List V:=(xs.drop (HT.sIx xs.length 0 lo)).take (HT.sIx xs.length xs.length hi-HT.sIx xs.length 0 lo)
theorem Om(xs:List V)(lo hi:Option Int):(M6 xs lo hi).length<=xs.length:=by unfold M6;rw[Xo,Tw];omega
def jl2(K:k8d):V->Option Int->Option Int->Hp->VK->Prop:=λx lo hi H Q=>∃a xs,x=.ref a/\SqT K H a xs /\
 ¬(HT.sIx xs.length 0 lo=0/\HT.sIx xs.length xs.length hi=xs.length)/\∀p,H p=a6->Q (.ref p) (upd H p (.tup (M6 xs lo hi)))
theorem jeo:SlR X (jl2 X.K):=by
 intro pins s σ H x v vl vu lo hi sl Q I rx hs pl pu h;obtain⟨a,xs,rfl,hx,hw,q⟩:=h;cases rx;obtain⟨its,r,ht,hz⟩:=I.tuple hx;have hlen:its.toArray.size=xs.length:=by rw[X4];exact r.length.symm
 refine⟨"tuple",_,slot_tuple_getitem.lookup,ht.typeIs,?_⟩;refine HT.getItem_tuple_cut ht hs pl pu (by rw[hlen];exact hw) ?_ (by rw[hlen];exact hz);rw[hlen];refine⟨.ref s.heap.objs.size,_,I.laid (t':=s.toks) (o:=.tup (M6 xs lo hi)) (λb ob q=>xj _ q) (xx _) ?_,rfl,q _ (I.hok.fresh (xx _))⟩;exact⟨Xk (Om xs lo hi) hz,_,(r.drop (HT.sIx xs.length 0 lo)).take (HT.sIx xs.length xs.length hi-HT.sIx xs.length 0 lo),IsTup.new _ _,V8.new _ _⟩
def jj1(K:k8d):R2:=λx y H Q=>∃a b xs ys,x=.ref a/\y=.ref b/\SqT K H a xs/\SqT K H b ys/\xs≠[]/\xs.length+ys.length<=ak /\
 (ys=[]->Q (.ref a) H)/\(ys≠[]->∀p,H p=a6->Q (.ref p) (upd H p (.tup (xs++ys))))
theorem Vals.nil_iff{xs:List V}{us:List a9}(r:Vals xs us):us=[]↔xs=[]:=by
 cases r with
 |nil=>simp
 |cons _ _=>simp
theorem jcb:OpR X (aZ .Add) (jj1 X.K):=by intro pins s σ H x y v u Q I rx ry h;obtain⟨a,b,xs,ys,rfl,rfl,ha,hb,hx,hz,q1,q2⟩:=h;cases rx;cases ry;obtain⟨its,r1,p1,_⟩:=I.tuple ha;obtain⟨its2,r2,p2,_⟩:=I.tuple hb;refine HT.cat_tup p1 p2 (λz=>hx (r1.nil_iff.mp z)) (λz=>⟨.ref a,H,I,rfl,q1 (r2.nil_iff.mp z)⟩) (λz=>?_) (by rw[<-r1.length,<-r2.length];exact hz);refine⟨.ref s.heap.objs.size,_,I.laid (t':=s.toks) (o:=.tup (xs++ys)) (λb ob q=>xj _ q) (xx _) ?_,rfl,q2 (λw=>z (r2.nil_iff.mpr w)) _ (I.hok.fresh (xx _))⟩;exact⟨by rw[Xb];exact hz,_,r1.append r2,IsTup.new _ _,V8.new _ _⟩
end
noncomputable def ixN(n:Nat)(i:Int):Option Nat:=if 0<=i then(if i<n then a3 i.toNat else a6)else if -(n:Int)<=i then a3 (i+n).toNat else a6
noncomputable def atI{α:Type}(xs:List α)(i:Int):Option α:=(ixN xs.length i).bind λj=>xs[j]?
theorem j2d{n:Nat}{i:Int}{j:Nat}(h:ixN n i=a3 j):seqIndex? i n=a3 j/\j<n/\-(n:Int)<=i/\i<n:=by
 unfold ixN at h;by_cases h0:0<=i
 .rw[if_pos h0]at h;by_cases h1:i<n
  .rw[if_pos h1]at h;have e:i.toNat=j:=av h;exact⟨by rw[jK h0 h1,e],by omega,by omega,h1⟩
  .rw[if_neg h1]at h;cases h
 .rw[if_neg h0]at h;by_cases h1:-(n:Int)<=i
  .rw[if_pos h1]at h;have e:(i+n).toNat=j:=av h;exact⟨by rw[iU nofun h1,e],by omega,h1,by omega⟩
  .rw[if_neg h1]at h;cases h
theorem Cy{α:Type}{xs:List α}{i:Int}{v:α}(h:atI xs i=a3 v):∃j,seqIndex? i xs.length=a3 j/\xs[j]?=a3 v/\j<xs.length/\-(xs.length:Int)<=i/\i<xs.length:=by
 unfold atI at h;cases e:ixN xs.length i with
 |none=>rw[e]at h;cases h
 |some j =>rw[e]at h;obtain⟨h1,h2,h3,h4⟩:=j2d e;exact⟨j,h1,h,h2,h3,h4⟩
theorem jdy{α:Type}{xs:List α}{j:Nat}{v:α}(h:xs[j]?=a3 v):atI xs (j:Int)=a3 v:=by
 have hj:j<xs.length:=(X7.mp h).1;have e:ixN xs.length (j:Int)=a3 j:=by unfold ixN;rw[if_pos nofun,if_pos nofun];simp
 unfold atI;rw[e];exact h
def Zw(b:aj):Prop:=∀o i,subscripted b a4 o i=operate [o,i] (iW o i)
def IxR(X:Cx)(r:R2):Prop :=
 ∀(value slice:aj)(pins:k8f) (s:af) (σ:St) (H:Hp) (x y:V) (v u:a9) (Q:VK),Inv X pins σ H s->RelV x v->RelV y u->r x y H Q ->
  subscripted slice a4 v u=operate [v,u] (iW v u)->ar (ax X.prog X.w) X.A (md value slice v u) (EP X pins σ Q) X.xe s
def MtR(X:Cx)(id:String)(r:V->List V->Hp->VK->Prop):Prop :=
 ∀(pins:k8f) (s:af) (σ:St) (H:Hp) (x:V) (xs:List V) (v:a9) (us:List a9) (Q:VK),Inv X pins σ H s->RelV x v->Vals xs us->r x xs H Q ->
  ar (ax X.prog X.w) X.A (call (.builtin id) (v::us)) (EP X pins σ Q) X.xe s
section
variable{X:Cx}{a b:aj}{ta tb:TE}{pos:aK}
theorem Ms{r:R2}(hr:IxR X r)(ha:PE X a ta)(hb:PE X b tb)(hs:Zw b):PE X (.Subscript a b pos) (tOp r ta tb):=by intro pins s σ H Q I h;exact Subscript_ (j9y ha hb I h λv u s2 x y H2 I2 rx ry q=>hr a b pins s2 σ H2 x y v u Q I2 rx ry q (hs _ _))
def jf3(K:k8d):R2:=λx y H Q=>∃p xs i v,x=.ref p/\y=.int i/\SqL K H p xs/\atI xs i=a3 v/\Q v H
def jf1(K:k8d):R2:=λx y H Q=>∃p xs i v,x=.ref p/\y=.int i/\SqT K H p xs/\atI xs i=a3 v/\Q v H
def jf2:R2:=λx y H Q=>∃z i c,x=.str z/\y=.int i/\z.length<=ak/\atI z.cps.toList i=a3 c/\Q (.str ⟨#[c]⟩) H
theorem j2c:IxR X (jf3 X.K):=by
 intro value slice pins s σ H x y v u Q I rx ry h hs;obtain⟨p,xs,i,z,rfl,rfl,hq,he,q⟩:=h;cases rx;obtain⟨t,rfl⟩:=ry;obtain⟨its,r,pl,hz⟩:=I.list hq;obtain⟨j,h1,h2,h3,h4,h5⟩:=Cy he;obtain⟨w,ew,rw'⟩:=r.get h2;have hl:=r.length;have hn:=W2;have fin:EP X pins σ Q w s:=⟨z,H,I,rw',q⟩
 by_cases h0:0<=i
 .have hj:i.toNat=j:=by rw[jK h0 h5]at h1;exact av h1
  exact item_listR pl.isList h0 nofun (by rw[hj];simpa using ew) fin hs
 .have hj:(i+(its.toArray.size:Int)).toNat=j:=by rw[iU nofun h4]at h1;rw[X4,<-hl];exact av h1
  exact iX (x:=w) pl.isList.typeIs slot_list_getitem.lookup
   (wpAny_getItem_list_neg (Q:=λr s'=>r=w/\EP X pins σ Q r s') pl.isList nofun (by rw[X4]<;>omega) nofun (by rw[hj];simpa using ew) ⟨rfl,fin⟩) hs
theorem j5y:IxR X (jf1 X.K):=by
 intro value slice pins s σ H x y v u Q I rx ry h hs;obtain⟨p,xs,i,z,rfl,rfl,hq,he,q⟩:=h;cases rx;obtain⟨t,rfl⟩:=ry;obtain⟨its,r,pl,hz⟩:=I.tuple hq;obtain⟨j,h1,h2,h3,h4,h5⟩:=Cy he;obtain⟨w,ew,rw'⟩:=r.get h2;have hl:=r.length;have hn:=W2;have fin:EP X pins σ Q w s:=⟨z,H,I,rw',q⟩
 exact iX (x:=w) pl.typeIs slot_tuple_getitem.lookup
  (getItem_tuple (j:=j) (Q:=λr s'=>r=w/\EP X pins σ Q r s') pl nofun nofun (by rw[X4,<-hl];exact h1) (by simpa using ew) ⟨rfl,fin⟩) hs
theorem jgd:IxR X jf2:=by
 intro value slice pins s σ H x y v u Q I rx ry h hs;obtain⟨z,i,c,rfl,rfl,hz,he,q⟩:=h;obtain⟨t,rfl⟩:=rx;obtain⟨t',rfl⟩:=ry;obtain⟨j,h1,h2,h3,h4,h5⟩:=Cy he;have hl:z.cps.toList.length=z.length:=by simp[lP]
 rw[hl]at h1 h4 h5;have hn:=W2;exact lW (hV s z t) slot_str_getitem.lookup (getItem_str (c:=c) (by
  have e1:decide (i < -(2^63:Int))=a4:=decide_eq_false nofun
  have e2:decide (i>=2^63)=a4:=decide_eq_false nofun
  rw[e1,e2,gy]) (by rw[h1];simpa using h2) ⟨.str ⟨#[c]⟩,H,I.tok _,⟨_,rfl⟩,q⟩) hs
theorem j3m(its:List a9)(n j:Nat)(u:a9):bN (·.setIfInBounds j u) { cls:=.type "list",data:=.seq its.toArray n }={ cls:=.type "list",data:=.seq (its.set j u).toArray n }:=by simp[bN]
theorem Inv.lst{pins:k8f}{σ:St}{H:Hp}{s:af}{p:aa}{xs:List V}(I:Inv X pins σ H s)(h:H p=a3 (.lst xs)) :
  ∃(its:List a9)(n:Nat),Vals xs its/\s.heap.get? p=a3 { cls:=.type "list",data:=.seq its.toArray n }/\xs.length<=ak:=by
 obtain⟨z,its,n,r,e⟩:=I.hok p _ h;exact⟨its,n,r,e,z⟩
theorem Inv.lstUpd{pins:k8f}{σ:St}{H:Hp}{s:af}{p:aa}{xs ys:List V}{its its':List a9}{n n':Nat}{f:d8->d8}(I:Inv X pins σ H s)(h:H p=a3 (.lst xs))
  (ho:s.heap.get? p=a3 { cls:=.type "list",data:=.seq its.toArray n }) (hf:f { cls:=.type "list",data:=.seq its.toArray n }={ cls:=.type "list",data:=.seq its'.toArray n' }) (r:Vals ys its') (hz:ys.length<=ak) (t:Nat) :
  Inv X pins σ (upd H p (.lst ys)) { s with heap:=s.heap.update p f,toks:=t }:=by
 have e:(s.heap.update p f).get? p=a3 { cls:=.type "list",data:=.seq its'.toArray n' }:=by rw[dO f ho (by rw[hf]<;>rfl),hf]
 refine I.write (x:=p) (e:=p) (by rw[h];trivial) (.inl rfl) (λb u hb q=>(gJ _ _ (c7 hb)).trans q) ⟨_,e⟩ ?_;exact⟨hz,its',n',r,e⟩
def jj0:V->V->V->Hp->(Hp->Prop)->Prop:=λo i v H Q=>∃p xs k j,o=.ref p/\i=.int k/\H p=a3 (.lst xs)/\ixN xs.length k=a3 j/\Q (upd H p (.lst (xs.set j v)))
theorem set_list:jif X jj0:=by
 intro pins s σ H o i v ov iv u Q I ro ri rv h;obtain⟨p,xs,k,j,rfl,rfl,hp,hj,q⟩:=h;cases ro;obtain⟨t,rfl⟩:=ri;obtain⟨its,n,r,ho,hz⟩:=I.lst hp;obtain⟨h1,h2,h3,h4⟩:=j2d hj;have hl:=r.length;have hn:=W2;have I':Inv X pins σ (upd H p (.lst (xs.set j v))) { s with heap:=s.heap.update p (bN (·.setIfInBounds j u)) } :=
  I.lstUpd hp ho (j3m its n j u) (r.set rv j) (by rw[Tg];exact hz) s.toks
 by_cases h0:0<=k
 .have hk:k.toNat=j:=by rw[jK h0 h4]at h1;exact av h1
  exact W.ki_setAt ho h0 nofun (by rw[X4,<-hl];exact h4) (by rw[hk];exact⟨_,I',q⟩)
 .have hk:(k+(its.toArray.size:Int)).toNat=j:=by rw[iU nofun h3]at h1;rw[X4,<-hl];exact av h1
  exact W.ki_setBack ho nofun (by rw[X4,<-hl];exact h3) nofun (by rw[hk];exact⟨_,I',q⟩)
theorem El(lo hi:Option Int)(n:Nat):(cS lo hi a6 n).1=((HT.sIx n 0 lo:Nat):Int)/\(cS lo hi a6 n).2.1=((HT.sIx n n hi:Nat):Int)/\(cS lo hi a6 n).2.2=1:=by
 refine⟨?_,?_,rfl⟩
 .cases lo with
  |none=>simp[cS,HT.sIx]
  |some i =>
   simp only[cS,HT.sIx,iJ,show(1:Int)>0 by decide,if_true];by_cases h:i<0
   .simp only[h,if_true]<;>omega
   .simp only[h,if_false]<;>omega
 .cases hi with
  |none=>simp[cS,HT.sIx]
  |some i =>
   simp only[cS,HT.sIx,iJ,show(1:Int)>0 by decide,if_true];by_cases h:i<0
   .simp only[h,if_true]<;>omega
   .simp only[h,if_false]<;>omega
theorem Ku(its:List a9)(lo hi:Option Int):slicePick its.toArray lo hi a6=((its.drop (HT.sIx its.length 0 lo)).take (HT.sIx its.length its.length hi-HT.sIx its.length 0 lo)).toArray:=by obtain⟨h1,h2,h3⟩:=El lo hi its.toArray.size;unfold slicePick;rw[h1,h2,h3];simp only[sliceRange_one,pick_run,X4]<;>rfl
def jl4(K:k8d):V->Option Int->Option Int->Hp->VK->Prop:=λx lo hi H Q=>∃a xs,x=.ref a/\SqL K H a xs/\∀p,H p=a6->Q (.ref p) (upd H p (.lst (M6 xs lo hi)))
theorem jbg:SlR X (jl4 X.K):=by intro pins s σ H x v vl vu lo hi sl Q I rx hs pl pu h;obtain⟨a,xs,rfl,hx,q⟩:=h;cases rx;obtain⟨its,r,ht,hz⟩:=I.list hx;have hlen:=r.length;refine⟨"list",_,slot_list_getitem.lookup,ht.isList.typeIs,?_⟩;refine wpAny_getItem_list_slice ht.isList hs pl pu .none (by simp) ?_ (by rw[X4]<;>omega);rw[Ku,<-hlen];refine⟨.ref s.heap.objs.size,_,I.laid (t':=s.toks) (o:=.lst (M6 xs lo hi)) (λb ob q=>xj _ q) (xx _) ?_,rfl,q _ (I.hok.fresh (xx _))⟩;exact⟨Xk (Om xs lo hi) hz,_,0,(r.drop (HT.sIx xs.length 0 lo)).take (HT.sIx xs.length xs.length hi-HT.sIx xs.length 0 lo),X5 _ rfl⟩
theorem M8:Jq X (.builtin "len") (λxs H Q=>∃p ys,xs=[.ref p]/\(SqL X.K H p ys\/SqT X.K H p ys)/\Q (.int ys.length) H):=by
 intro pins s σ H xs us Q I r h;obtain⟨p,ys,rfl,hq,q⟩:=h;obtain⟨u,rfl,rx⟩:=vals1 r;cases rx;have hn:=W2;rcases hq with hq|hq
 .obtain⟨its,r',pl,hz⟩:=I.list hq;have hlen:=r'.length;exact Calls.call_len_list pl.isList (by simp only[X4]<;>omega) ⟨.int ys.length,H,I.tok _,⟨s.toks+1,by rw[X4,hlen]⟩,q⟩
 .obtain⟨its,r',pl,hz⟩:=I.tuple hq;have hlen:=r'.length;exact len_tuple pl (by simp only[X4]<;>omega) ⟨.int ys.length,H,I.tok _,⟨s.toks+1,by rw[X4,hlen]⟩,q⟩
theorem j11:Jq X (.builtin "len") (λxs H Q=>∃z,xs=[.str z]/\z.length<=ak/\Q (.int z.length) H):=by intro pins s σ H xs us Q I r h;obtain⟨z,rfl,hz,q⟩:=h;obtain⟨u,rfl,t,rfl⟩:=vals1 r;have hn:=W2;exact len_str nofun ⟨.int z.length,H,I.tok _,⟨_,rfl⟩,q⟩
theorem j10:Jq X (.type "list") (λxs H Q=>∃p ys,xs=[.ref p]/\(SqL X.K H p ys\/SqT X.K H p ys)/\∀l,H l=a6->Q (.ref l) (upd H l (.lst ys))):=by
 intro pins s σ H xs us Q I r h;obtain⟨p,ys,rfl,hq,q⟩:=h;obtain⟨u,rfl,rx⟩:=vals1 r;cases rx;have fin:∀(its:List a9),Vals ys its->ys.length<=ak->∀(h':aD)(c':Nat),(∀b o',s.heap.get? b=a3 o'->h'.get? b=a3 o') ->
   h'.get? s.heap.objs.size=a3 { cls:=.type "list",dict:=a6,data:=.seq its.toArray c',slots:=#[] }->EP X pins σ Q (.ref s.heap.objs.size) { s with heap:=h' }:=λits r' hz h' c' kp e =>
  ⟨.ref s.heap.objs.size,_,I.laid (t':=s.toks) kp (xx _) (show jj X.prog X.w _ h' _ (.lst ys) from⟨hz,its,c',r',e⟩),rfl,q _ (I.hok.fresh (xx _))⟩
 rcases hq with hq|hq
 .obtain⟨its,r',pl,hz⟩:=I.list hq;have hlen:=r'.length;obtain⟨o,ho,hc,n,hd⟩:=pl.isList;exact ma p (.inl rfl) ho hc hd (λh' c' kp e=>fin its r' hz h' c' kp e) (by simp only[X4]<;>omega)
 .obtain⟨its,r',pl,hz⟩:=I.tuple hq;have hlen:=r'.length;obtain⟨o,ho,hc,n,hd⟩:=pl;exact ma p (.inr rfl) ho hc hd (λh' c' kp e=>fin its r' hz h' c' kp e) (by simp only[X4]<;>omega)
theorem Ia:Jq X (.type "tuple") (λxs H Q=>∃p ys,xs=[.ref p]/\((SqL X.K H p ys/\∀l,H l=a6->Q (.ref l) (upd H l (.tup ys)))\/(SqT X.K H p ys/\Q (.ref p) H))):=by
 intro pins s σ H xs us Q I r h;obtain⟨p,ys,rfl,h⟩:=h;obtain⟨u,rfl,rx⟩:=vals1 r;cases rx;rcases h with ⟨hq,q⟩|⟨hq,q⟩
 .obtain⟨its,r',pl,hz⟩:=I.list hq;have hlen:=r'.length;refine call_tuple_list pl.isList (λh' kp=>?_) (by simp only[X4]<;>omega);have I1:Inv X pins σ H { s with heap:=h' }:=I.kept (t':=s.toks) kp;have I2:Inv X pins σ (upd H h'.objs.size (.tup ys)) { s with heap:=h'.push { cls:=.type "tuple",data:=.seq its.toArray } } :=
   I1.laid (t':=s.toks) (λb o e=>xj _ e) (xx _) (show jj X.prog X.w _ _ _ (.tup ys) from⟨hz,its,r',IsTup.new _ _,V8.new _ _⟩)
  exact⟨.ref h'.objs.size,_,I2,rfl,q _ (I1.hok.fresh (xx _))⟩
 .obtain⟨its,r',pl,hz⟩:=I.tuple hq;exact call_tuple_same pl ⟨.ref p,H,I,rfl,q⟩
def tyV(K:k8d)(T:String)(x:V)(H:Hp):Prop:=match x with
 |.str _=>T = "str"
 |.int _=>T = "int"
 |.ref p=>(T = "list"/\∃xs,SqL K H p xs)\/(T = "tuple"/\∃xs,SqT K H p xs) \/
   (T = "dict"/\((∃kvs,H p=a3 (.dK kvs))\/∃kvs,H p=a3 (.dT kvs)))\/(T = "set"/\∃S n,H p=a3 (.set S n))
 |_=>False
theorem j4f{pins:k8f}{σ:St}{H:Hp}{s:af}{T:String}{x:V}{v:a9}(I:Inv X pins σ H s)(r:RelV x v)(ty:tyV X.K T x H) :
  s.TypeIs v T/\∀a,v=.ref a->∃ob,s.heap.get? a=a3 ob/\ob.dict=a6:=by
 cases x with
 |str z =>obtain⟨t,rfl⟩:=r;cases(show T = "str" from ty);exact⟨hV s z t,λ_ e=>nomatch e⟩
 |int i =>obtain⟨t,rfl⟩:=r;cases(show T = "int" from ty);exact⟨fF s i t,λ_ e=>nomatch e⟩
 |ref p =>
  cases r;rcases ty with ⟨rfl,xs,hq⟩|⟨rfl,xs,hq⟩|⟨rfl,hk⟩|⟨rfl,S,n,hk⟩
  .obtain⟨its,_,pl,_⟩:=I.list hq;refine⟨pl.isList.typeIs,λa e=>?_⟩;cases e;obtain⟨o,n,e,c,hd,_⟩:=pl;exact⟨o,e,hd⟩
  .obtain⟨its,_,⟨o,e1,e2,_⟩,_⟩:=I.tuple hq;refine⟨⟨o,e1,e2⟩,λa e=>?_⟩;cases e;exact⟨o,e1,I.tupD hq o e1⟩
  .have z:∃o,s.heap.get? p=a3 o/\o.ExactDict:=by
    rcases hk with ⟨kvs,hk⟩|⟨kvs,hk⟩
    .obtain⟨_,_,_,_,o,_,_,e,ex,_⟩:=I.hok p _ hk;exact⟨o,e,ex⟩
    .obtain⟨_,_,_,_,o,_,_,e,ex,_⟩:=I.hok p _ hk;exact⟨o,e,ex⟩
   obtain⟨o,e,ex⟩:=z;refine⟨⟨o,e,ex.1⟩,λa e2=>?_⟩;cases e2;exact⟨o,e,ex.2.1⟩
  .obtain⟨o,_,_,_,e,ex,_⟩:=I.hok p _ hk;refine⟨⟨o,e,ex.1⟩,λa e2=>?_⟩;cases e2;exact⟨o,e,ex.2.1⟩
 |_=>exact aT ty
def jkx(K:k8d)(T:String)(r:V->List V->Hp->VK->Prop)(to:TE):TE:=λσ H Q=>to σ H λx H1=>tyV K T x H1/\r x [] H1 Q
def tBM(K:k8d)(T:String)(r:V->List V->Hp->VK->Prop)(to:TE)(t:TA):TE:=λσ H Q=>to σ H λx H1=>tyV K T x H1/\t σ H1 λxs H2=>r x xs H2 Q
variable{o e:aj}{es:List aj}{to:TE}{t:TA}{name:ah}{apos cpos:aK}{T id:String}{r:V->List V->Hp->VK->Prop}
theorem jfg (pa:PlainAttrs T) (slot:Slot T name id) (hty:typeOf (.builtin id)=pure (.type "method_descriptor")) (hm:MtR X id r) (ho:PE X o to)
  (hbase:aP o name X.env (ay o X.env)=ay o X.env:=by rfl) (hline:(apos.endLine==cpos.line)=a5:=by rfl):PE X (.Call (.Attribute o name apos) [] [] cpos) (jkx X.K T r to):=by
 intro pins s σ H Q I h;refine iC hbase hline (thn (ho pins s σ H _ I h) λv s1 ⟨x,H1,I1,r1,ty,q1⟩=>?_);obtain⟨h1,h2⟩:=j4f I1 r1 ty;exact⟨T,id,pa,slot,hty,h1,h2,cb rfl (ig (hm pins s1 σ H1 x [] v [] Q I1 r1 .nil q1))⟩
theorem Fb (pa:PlainAttrs T) (slot:Slot T name id) (hty:typeOf (.builtin id)=pure (.type "method_descriptor")) (hm:MtR X id r) (ho:PE X o to) (ha:PA X (e::es) t)
  (hbase:aP o name X.env (ay o X.env)=ay o X.env:=by rfl)
  (hfew:((aM cpos (a8 (e::es) X.env)).all (λx=>!x.1)&&(b0 cpos (aJ [] X.env)).all (λx=>x.1.isSome)
   && decide ((e::es).length+([]:List ba).length+(if ([]:List ba).isEmpty then 0 else 1)<30))=a5:=by rfl)
  (hline:(apos.endLine==cpos.line)=a5:=by rfl) (hs:a8 (e::es) X.env=(a4,ay e X.env)::a8 es X.env:=by rfl) (hplain:(aM cpos (a8 es X.env)).any (·.1)=a4:=by rfl) :
  PE X (.Call (.Attribute o name apos) (e::es) [] cpos) (tBM X.K T r to t):=by
 intro pins s σ H Q I h;refine wpAny_Call_method_late hbase hfew hline rfl (thn (ho pins s σ H _ I h) λv s1 ⟨x,H1,I1,r1,ty,q1⟩=>?_);obtain⟨h1,h2⟩:=j4f I1 r1 ty;refine⟨T,id,pa,slot,hty,h1,h2,?_⟩;have hA:=ha cpos pins s1 σ H1 _ I1 q1;rw[hs]at hA ⊢;refine cb (by show(a4 || (aM cpos (a8 es X.env)).any (·.1))=a4;rw[hplain]<;>rfl) (hJ ?_);exact thn hA λus s2 ⟨vs,H2,I2,r2,q2⟩=>hm pins s2 σ H2 x vs v us Q I2 r1 r2 q2
/- xs.append(e),list.index on a module's tuple .. are MtR facts of 06m -/
end
def MtM(X:Cx)(id:String)(r:V->List V->Hp->VK->Prop):Prop :=
 ∀(pins:k8f) (s:af) (σ:St) (H:Hp) (x:V) (xs:List V) (v:a9) (us:List a9) (Q:VK),Inv X pins σ H s->RelV x v->Vals xs us->r x xs H Q ->
  ar (ax X.prog X.w) X.A (call (.builtin id) (v::us)) (EP X pins σ Q) X.xe s
theorem Vals.one{x:V}{us:List a9}(h:Vals [x] us):∃u,us=[u]/\RelV x u:=by cases h with|cons r t=>cases t;exact⟨_,rfl,r⟩
theorem Vals.two:∀{x y:V}{us:List a9},Vals [x,y] us->∃u v,us=[u,v]/\RelV x u/\RelV y v
 |_,_,_,.cons r (.cons q .nil)=>⟨_,_,rfl,r,q⟩
theorem Vals.zero:∀{us:List a9},Vals [] us->us=[]
 |_,.nil=>rfl
theorem Vals.dropLast{xs:List V}{us:List a9}(h:Vals xs us):Vals xs.dropLast us.dropLast:=by
 induction h with
 |nil=>exact .nil
 |cons r t ih =>
  cases t with
  |nil=>exact .nil
  |cons q t'=>exact .cons r ih
theorem Vals.reverse{xs:List V}{us:List a9}(h:Vals xs us):Vals xs.reverse us.reverse:=by
 induction h with
 |nil=>exact .nil
 |cons r t ih=>rw[ja,ja];exact Vals.append ih (.cons r .nil)
theorem Vals.rep{xs:List V}{us:List a9}(h:Vals xs us):∀k:Nat,Vals (ae k xs).flatten (ae k us).flatten
 |0=>.nil
 |k+1=>by rw[Ph,Ph,T6,T6];exact Vals.append h (Vals.rep h k)
theorem foldl_rep(its:List a9):∀(k:Nat)(acc:List a9),
  cW (λx1 x2=>x1++x2) acc.toArray (ae k its.toArray)=(acc++(ae k its).flatten).toArray
 |0,acc=>by simp
 |k+1,acc=>by
  have e:acc.toArray++its.toArray=(acc++its).toArray:=by simp
  have e2:(acc++its)++(ae k its).flatten=acc++(ae (k+1) its).flatten:=by rw[Ph,T6,Tn]
  rw[<-e2,<-foldl_rep its k (acc++its),<-e,Ph,Th]
section
variable{X:Cx}{pins:k8f}{σ:St}{H:Hp}{s:af}{l b:aa}{xs ys zs:List V}
theorem Inv.lset{its its':List a9}{n:Nat}{f:Array a9->Array a9}{t':Nat}(I:Inv X pins σ H s)(hH:H l=a3 (.lst xs))
  (e:s.heap.get? l=a3 { cls:=.type "list",data:=.seq its.toArray n }) (hf:f its.toArray=its'.toArray) (hv:Vals ys its') (hz:ys.length<=ak) :
  Inv X pins σ (upd H l (.lst ys)) { s with heap:=s.heap.update l (bN f),toks:=t' }:=by
 have q:=PySem.IsL.update e f;rw[hf]at q;refine I.write (x:=l) (e:=l) (by rw[hH];exact trivial) (.inl rfl) (λb' u hb hu=>(gJ s.heap (bN f) (c7 hb)).trans hu) ⟨_,q⟩ ?_;exact⟨hz,its',_,hv,q⟩
theorem Inv.lnew{its:List a9}{t':Nat}(I:Inv X pins σ H s)(hv:Vals ys its)(hz:ys.length<=ak) :
  Inv X pins σ (upd H s.heap.objs.size (.lst ys)) { s with heap:=s.heap.push { cls:=.type "list",data:=.seq its.toArray },toks:=t' } :=
 I.laid (λ_ _ q=>xj _ q) (xx _) ⟨hz,its,0,hv,X5 _ rfl⟩
theorem Inv.fresh(I:Inv X pins σ H s):H s.heap.objs.size=a6:=I.hok.fresh (xx _)
theorem Inv.lstM(I:Inv X pins σ H s)(hH:H l=a3 (.lst xs)):xs.length<=ak/\∃(its:List a9)(n:Nat),Vals xs its/\xs.length=its.length/\s.heap.get? l=a3 { cls:=.type "list",data:=.seq its.toArray n }:=by obtain⟨z,its,n,r,e⟩:=I.hok l _ hH;exact⟨z,its,n,r,r.length,e⟩
theorem j09{n:Nat}(h:n<=ak):bK n=a4:=by unfold bK;exact decide_eq_false nofun
end
section
variable{X:Cx}
def jc1:V->List V->Hp->VK->Prop:=λx vs H Q=>∃l xs y,x=.ref l/\vs=[y]/\H l=a3 (.lst xs)/\xs.length<ak/\Q .non (upd H l (.lst (xs++[y])))
theorem Lz:MtM X "list.append" jc1:=by intro pins s σ H x vs v us Q I rx rv h;obtain⟨l,xs,y,rfl,rfl,hH,hz,q⟩:=h;cases rx;obtain⟨u,rfl,ru⟩:=rv.one;obtain⟨z,its,n,r,hl,e⟩:=I.lstM hH;refine bI gY ⟨_,e,rfl⟩ F.entry_list_append (F.args_list_append_2 _ _) (PySem.list_append l its.toArray n u (by rw[X4];omega)) ⟨e,?_⟩;refine⟨.non,_,I.lset (its':=its++[u]) hH e (by simp) (r.append (.cons ru .nil)) ?_,rfl,q⟩;rw[Xb,i7];omega
def jc0:V->List V->Hp->VK->Prop:=λx vs H Q=>∃l b xs zs,x=.ref l/\vs=[.ref b]/\H l=a3 (.lst xs)/\H b=a3 (.lst zs)/\xs.length+zs.length<=ak/\Q .non (upd H l (.lst (xs++zs)))
theorem j5n:MtM X "list.extend" jc0:=by
 intro pins s σ H x vs v us Q I rx rv h;obtain⟨l,b,xs,zs,rfl,rfl,hH,hB,hz,q⟩:=h;cases rx;obtain⟨u,rfl,ru⟩:=rv.one;cases ru;obtain⟨z,its,n,r,hl,e⟩:=I.lstM hH;obtain⟨z2,its2,n2,r2,hl2,e2⟩:=I.lstM hB;have hsz:its.toArray.size+its2.toArray.size<=ak:=by rw[X4,X4];omega
 have hlong:¬(!its.toArray.isEmpty&&bK (its.toArray.size+its2.toArray.size))=a5:=by rw[j09 hsz,fZ];exact xf
 refine bI gX ⟨_,e,rfl⟩ F.entry_list_extend (F.args_list_extend_2 _ _)
  (AutoSeq1.list_extend_list_list_0 l its.toArray n b its2.toArray n2 hlong (by rw[X4];omega) nofun) ⟨e,e2,?_⟩
 refine⟨.non,_,I.lset (its':=its++its2) hH e (by simp) (r.append r2) ?_,rfl,q⟩;rw[Xb];omega
def j7x:V->List V->Hp->VK->Prop:=λx vs H Q=>∃l xs,x=.ref l/\vs=[]/\H l=a3 (.lst xs)/\Q .non (upd H l (.lst xs.reverse))
theorem j3j:MtM X "list.reverse" j7x:=by intro pins s σ H x vs v us Q I rx rv h;obtain⟨l,xs,rfl,rfl,hH,q⟩:=h;cases rx;have hus:=rv.zero;subst hus;obtain⟨z,its,n,r,hl,e⟩:=I.lstM hH;refine bI gK ⟨_,e,rfl⟩ F.entry_list_reverse (F.args_list_reverse_1 _) (AutoSeq1.list_reverse_list_0 l its.toArray n (by rw[X4];omega)) ⟨e,?_⟩;refine⟨.non,_,I.lset (its':=its.reverse) hH e (by simp) r.reverse ?_,rfl,q⟩;rw[List.length_reverse];omega
def jl5:R2:=λx y H Q=>∃l k xs,x=.ref l/\y=.int k/\H l=a3 (.lst xs)/\-(2^63)<=k/\k<2^63/\xs.length*k.toNat<=ak /\
 ∀p,H p=a6->Q (.ref p) (upd H p (.lst (ae k.toNat xs).flatten))
theorem len_rep{α:Type}(xs:List α)(k:Nat):(ae k xs).flatten.length=k*xs.length:=by
 induction k with
 |zero=>simp
 |succ k ih=>rw[Ph,T6,Xb,ih,kW,Nat.add_comm]
theorem jfm:OpR X (aZ .Mult) jl5:=by
 intro pins s σ H x y v u Q I rx ry h;obtain⟨l,k,xs,rfl,rfl,hH,h1,h2,hz,q⟩:=h;cases rx;obtain⟨t,rfl⟩:=ry;obtain⟨z,its,n,r,hl,e⟩:=I.lstM hH;have hlen:its.toArray.size*k.toNat<=ak:=by rw[X4,<-hl];exact hz
 have hcap:¬its.toArray.size*k.toNat>(2^63-1)/8:=by
  have:(ak:Nat)<=(2^63-1)/8:=by decide
  omega
 have hfit:¬(!Builtin.List.listFitsIndex k)=a5:=by rw[fitsIndex_both h1 h2];exact xf
 have hlong:¬bK (its.toArray.size*k.toNat)=a5:=by rw[j09 hlen];exact xf
 have hnew:cW (λx1 x2=>x1++x2) #[] (ae (if its.toArray.isEmpty=a5 then 0 else k.toNat) its.toArray)=(ae k.toNat its).flatten.toArray:=by
  have f0:∀m:Nat,cW (λx1 x2=>x1++x2) #[] (ae m its.toArray)=(ae m its).flatten.toArray:=λm=>by have:=foldl_rep its m [];rw[cJ]at this;exact this
  rw[f0];cases its with
  |nil=>simp
  |cons a r'=>rw[if_neg (by simp)]
 refine ie (T:="list") (U:="int") (by decide) ⟨_,e,rfl⟩ (λs'=>fF s' k t) noFill_list_mul kq dW repeat_list F.slot_int_index.lookup
  (bI dW (fF s k t) k6 (jZ _ _) (int___rmul___int_list k t l its.toArray n)
   ⟨e,rfl,⟨_,e,rfl⟩,bI F.slot_list_mul ⟨_,e,rfl⟩ F.entry_list_mul (F.args_list_mul_2 _ _) (AutoListH.list___mul___list_int_3 l its.toArray n k t hfit hcap hlong) ⟨e,?_⟩⟩)
 rw[hnew];exact⟨.ref _,_,I.lnew (t':=s.toks) (r.rep k.toNat) (by rw[len_rep,fm];exact hz),rfl,q _ I.fresh⟩
end
section
variable{prog:au}{w:az}{A:aC}{E:k8e}{s:af}
end
section
variable{X:Cx}
end
end L2
namespace Att
open PySem PySem.W PySem.Calls PyProof.Rows
theorem Fo{P:lV}{h:aD}:∀(ns:List Int)(vs:List a9),WellAll P h vs (ns.map WData.int)->cP vs ns:=by
 intro ns;induction ns with
 |nil =>intro vs w;rw[cu]at w;cases w;exact .nil
 |cons n ns ih =>
  intro vs w;rw[xr]at w;cases w with
  |cons a b =>cases a;exact .cons _ _ (ih _ b)
theorem j4v{l:df}{n:Nat}(hn:l.most=a3 n){P:lV}{h:aD}{args:List WData}{vals:List a9}
  (hpre:l.row.toRowW.claim.pre args=a5) (hwl:WellAll P h vals args) :
  ∃a vs ns,vals=[aA a]/\args=[WData.list (ns.map WData.int)]/\h.get? a=a3 { cls:=.type "list",data:=.seq vs.toArray }/\cP vs ns/\ns.length<=n:=by
 have hsh:WShape.hasAll [] args [.list .int]=a5:=(pre_splitW hpre).1;have hc:l.pre.holds [] { args:=args }=a5:=(pre_splitW hpre).2;obtain⟨d,r,rfl,h1,h2⟩:=hasAllW_cons hsh;obtain rfl:=hasAllW_nil h2;obtain⟨xs,rfl,h3⟩:=hasW_list h1;obtain⟨ns,rfl⟩:=items_int h3;have hlen:ns.length<=n:=by
  unfold OpenLaw.pre at hc;have h4:(WTm.not (.lt (.lit (.int (n:Int))) (.len (.arg 0)))).holds [] { args:=[.list (ns.map .int)] }=a5:=by have h4:=(holds_andW hc).1;rw[hn]at h4;exact h4
  have h5:=condW_of h4 (w_not (w_lt w_lit (w_len_list (w_arg rfl))));rw[kj]at h5;refine Nat.le_of_not_lt λq=>?_;have q':(n:Int)<((ns.length:Nat):Int):=by omega
  first
   |(rw[decide_eq_true q']at h5;exact absurd h5 (by decide))
   |(simp at h5;omega)
 cases hwl with
 |cons w1 w2 =>
  cases w2;cases w1 with
  |list ho hall=>exact⟨_,_,ns,rfl,rfl,ho,Fo ns _ hall,hlen⟩
theorem j52(l:df)(args:List WData):l.row.toRowW.claim.post args (.bool a5) args=a5 :=
 postW_of (r:=l.row.toRowW) (X:=(a5==a5))
  (show WShape.has [] (.bool a5) .bool=a5 by first|rfl|decide|simp[WShape.has,WShape.arms,WShape.armsAll])
  (show(WTm.eq .res (.lit (.bool a5))).value [] { args:=args,res:=a3 (.bool a5),after:=args }=a3 (.bool (a5==a5))from w_eq_bool (w_res rfl) w_lit) rfl
theorem attach_call{l:df}{n:Nat}{q:au}{loose:List ah}{XP:(ah->Option a9)->aD->Prop}{YP:az->aD->Prop}{d:DefRec}
  (hn:l.most=a3 n) (hdf:d.params.defaults=[])
  (call:∀(w:az)(s₀ s₁:af)(mg mb:k8g)(fa:aa)(o:d8)(pm cd doc:a9)(a:aa) (vs:List a9) (ns:List Int),
   Ground q loose [] XP w s₀ mg mb s₁.heap->YP w s₁.heap ->
   s₁.heap.get? fa=a3 o->o.data=.func (docDef d.name d.params d.body d.scope pm cd doc)->s₁.heap.CodeRec cd d.name->mg d.name=a3 (.ref fa) ->
   s₁.heap.get? a=a3 { cls:=.type "list",data:=.seq vs.toArray }->cP vs ns->ns.length<=n->s₁.gens = #[] ->
   ck (ax l.prog w) fU (.call (.ref fa) ⟨[.ref a],[]⟩) (λr s'=>r=.ok (.ret (.bool a5))/\OldK s₁.heap s'.heap/\s'.os=s₁.os/\dD s'.gens) s₁) :
  ir q loose XP YP l.row.toRowW d [] (λf vs=>iA f vs):=by
 intro w s₀ s₁ mg mb G Y fa o pm cd doc dV kV ho hd hcd hD hmg hg args vals as hpre hlay hrd hwl hlo;obtain rfl:dV=.none:=Dflts.none hD hdf;obtain rfl:kV=.none:=Dflts.noKw hD;obtain⟨a,vs,ns,rfl,rfl,hobj,hints,hlen⟩:=j4v hn hpre hwl;refine enter_call (bf (call w s₀ s₁ mg mb fa o pm cd doc a vs ns G Y ho (fd_plain hd) hcd hmg hobj hints hlen hg) λr s' hq=>?_);obtain⟨rfl,h2,h3,h4⟩:=hq;exact⟨.inl ⟨.bool a5,.bool a5,[],rfl,λ_=>rfl,.bool a5,j52 l _,λ_=>⟨List.Pairwise.nil,λ_ hm=>(nomatch hm)⟩⟩,h2,h3,h4⟩
section
variable{prog:au}{w:az}{A:aC}{E:k8e}{s:af}{K:lO}
end
end Att
namespace L2
open PySem PySem.Spec PyProof.Rows
theorem Lh:∀{vs:List a9}{ns:List Int},cP vs ns->Vals (ns.map V.int) vs
 |_,_,.nil=>.nil
 |_,_,.cons n t h=>.cons ⟨t,rfl⟩ (Lh h)
def Only(ts:List (aa×ah))(H:Hp):Prop:=(∀b,H b=a6\/(∃o xs,H b=a3 (.frz o (.lst xs)))\/∃q,(b,q)∈ts/\H b=a3 (.cod q))/\∀t∈ts,H t.1=a3 (.cod t.2)
def jaa(ts:List (aa×ah))(h:aD):Prop:=(ts.map (·.1)).Nodup/\∀t∈ts,(∃c,iP h c t.1)/\h.get? t.1=a3 (W.tabObj #[])
theorem j1u:∀{ts:List (aa×ah)} {b:aa} {q:ah},ts.lookup b=a3 q->(b,q)∈ts
 |p::r,b,q,h=>by
  rw[Xl]at h;cases e:b==p.1 with
  |true=>rw[e]at h;cases h;rw[beq_iff_eq.mp e];exact xm ..
  |false=>rw[e]at h;exact xg _ (j1u h)
theorem lookup_tab:∀{ts:List (aa×ah)},(ts.map (·.1)).Nodup->∀t∈ts,ts.lookup t.1=a3 t.2
 |[],_,_,h=>by cases h
 |p::r,nd,t,ht=>by
  rw[xr]at nd;rcases xq.mp ht with e|ht
  .subst e;rw[Xl,beq_self_eq_true]
  .have ne:(t.1==p.1)=a4:=beq_eq_false_iff_ne.mpr λz=>(Xn.mp nd).1 (z▸eJ ht);rw[Xl,ne];exact lookup_tab (Xn.mp nd).2 t ht
theorem j8d{P:au}{w:az}{K:k8d}{mg mb:k8g}{CX:CXT}{k:Nat}{fa a:aa}{fd:aL}{x:ah}{sp:Sp}{s₁:af}{vs:List a9}{ns:List Int}{ts:List (aa×ah)}
  (KX:K.In s₁.heap) (hns:s₁.heap.Ns aq mg) (hb:s₁.heap.Ns dw mb) (hbb:∀x:ah,x ≠ "__name__"->mb x=aY x) (hlim:s₁.heap.NoLimit)
  (hbm:∃bm ob,mg "__builtins__" = a3 (.ref bm)/\bm≠dw/\s₁.heap.get? bm=a3 ob/\ob.cls=.type "module"/\ob.dict=a3 dw/\ob.data=.plain) (hT:jaa ts s₁.heap) (hK0:W.noTabs K=a5) (hg:s₁.gens = #[])
  (ha:s₁.heap.get? a=a3 { cls:=.type "list",data:=.seq vs.toArray }) (hi:cP vs ns) (hl:ns.length<=ak) (hr:Room k fU)
  (F:∀base:aD,K.In base->base.Ns aq mg->FnOk P w K mg base CX k fa fd [x] sp) (hbind:∀(s:af)(u:a9),d9 s fd ⟨[u],[]⟩ [(x,u)])
  (hsp:∀H:Hp,Only ts H->SqL K H a (ns.map V.int)->sp [.ref a] H (λv H'=>v=.bl a5/\∀b o,H b=a3 o->H' b=a3 o) λ_ _ _=>False)
  (hCX:∀H e s',CX [] H s₁ (λ_ _ _=>False) e s'->False) :
  ck (ax P w) fU (.call (.ref fa) ⟨[.ref a],[]⟩) (λr s'=>r=.ok (.ret (.bool a5))/\OldK s₁.heap s'.heap/\s'.os=s₁.os/\dD s'.gens) s₁:=by
 have rv:=Lh hi;have lenV:=hi.length;have at_:∀{q:ah}{b:aa},(b,q)∈ts->s₁.heap.get? b=a3 (W.tabObj #[]):=λ{q b} h=>(hT.2 _ h).2;have core:∀H:Hp,Only ts H->SqL K H a (ns.map V.int)->HOk P w H s₁.heap->(∀b,H b≠a6->b=a\/∃q,(b,q)∈ts)->(H a≠a6->K.lookup a=a6) ->
   ck (ax P w) fU (.call (.ref fa) ⟨[.ref a],[]⟩) (λr s'=>r=.ok (.ret (.bool a5))/\OldK s₁.heap s'.heap/\s'.os=s₁.os/\dD s'.gens) s₁:=by
  intro H hO hS hok hA hK;have base_of:∀{b:aa}{o:d8},s₁.heap.get? b=a3 o->H b=a6->(We s₁.heap H).get? b=a3 o:=λe n=>j8z e n;have noA:∀{b:aa}{o:d8},s₁.heap.get? b=a3 o->(∀vs n,o.data≠.seq vs n)->(∀vs,o.data≠.fields vs)->H b=a6:=λ{b o} e d d2=>by
   cases q:H b with
   |none=>rfl
   |some u =>
    rcases hA b (by rw[q];simp)with e'|⟨q',e'⟩
    .subst e';rw[ha]at e;cases e;exact absurd rfl (d _ _)
    .rw[at_ e']at e;cases e;exact absurd rfl (d2 _)
  have nsK:∀{b:aa}{m:k8g},s₁.heap.Ns b m->(We s₁.heap H).Ns b m:=λ{b m} ⟨o,es,ep,e,d,r⟩=>⟨o,es,ep,base_of e (noA e (λ_ _ z=>by rw[d]at z;cases z) λ_ z=>by rw[d]at z;cases z),d,r⟩
  have hKb:K.In (We s₁.heap H):=λb o e=>base_of (KX b o e) (by
   cases q:H b with
   |none=>rfl
   |some u =>
    rcases hA b (by rw[q];simp)with e'|⟨q',e'⟩
    .subst e'
     rw[hK (by rw[q];simp)]at e;cases e
    .have e2:=KX b o e
     rw[at_ e']at e2
     have h2:=Pa.mp hK0 (b,o) (W.mem_of_lookupK e)
     cases e2
     exact absurd (show a4=a5 from h2) xf)
  have hM:Mod K mg (We s₁.heap H):=⟨hKb,nsK hns,⟨mb,nsK hb,hbb⟩,(let ⟨mc,h1,h2⟩:=hlim;⟨mc,nsK h1,h2⟩),
   let ⟨bm,ob,b1,b2,b3,b4,b5,b6⟩:=hbm;⟨bm,ob,b1,b2,base_of b3 (noA b3 (λ_ _ z=>by rw[b6]at z;cases z) λ_ z=>by rw[b6]at z;cases z),b4,b5,b6⟩⟩
  have e0:Env0 P w K mg (We s₁.heap H) fU [] s₁ H:=⟨rfl,hM,λb o e=>jcf e,Nat.le_of_eq (j63 _ _),trivial,λb hb=>absurd (show b∈([]:List aa)from hb) (by simp),hok,.of_eq hg⟩
  refine bf ((F _ hKb (nsK hns)).run fU [] s₁ H ⟨[.ref a],[]⟩ [.ref a] [.ref a] _ _ hr e0 (hbind s₁ (.ref a)) (.cons rfl .nil) (hsp H hO hS)) λr s' h=>?_;cases r with
  |error e=>exact(hCX H e s' h).elim
  |ok fl =>
   cases fl with
   |next=>exact aT h
   |brk=>exact aT h
   |cont=>exact aT h
   |ret u =>
    obtain⟨v,H',os,bare,un,hok',r',q,sm⟩:=h;have q':v=.bl a5:=q;subst q';obtain rfl:u=bu a5:=r';have main:∀b o,s₁.heap.get? b=a3 o->s'.heap.get? b=a3 o\/((∃q,(b,q)∈ts)/\o=W.tabObj #[]/\∃ps,s'.heap.get? b=a3 (W.tabObj ps)):=λb o e=>by
     cases q:H b with
     |none=>exact .inl (un.keep b o e q (by intro z;exact absurd (show b∈([]:List aa)from z) (by simp)) (by simp))
     |some u =>
      rcases hO.1 b with z|⟨ob,xs,z⟩|⟨q',hq,z⟩
      .rw[q]at z;cases z
      .have z2:=un.frzs b ob _ z;obtain⟨e1,_⟩:=hok b _ z;obtain⟨e2,_⟩:=hok' b _ z2;rw[e]at e1;cases e1;exact .inl e2
      .obtain⟨ps,e2,_⟩:=(show jj P w H' s'.heap b (.cod q')from hok' b _ (sm b _ z))
       rw[at_ hq]at e;exact .inr ⟨⟨q',hq⟩,(av e).symm,ps,e2⟩
    refine⟨rfl,⟨λb o e=>?_,λb o e=>?_⟩,os,bare⟩
    .rcases main b o e with z|⟨⟨q,hq⟩,rfl,ps,z⟩
     .exact .inl z
     .obtain⟨c,hc⟩:=(hT.2 _ hq).1;exact .inr (.inl ⟨(hc.tab (at_ hq)).isCodeTable,rfl,#[],ps,rfl,by rw[z,Array.empty_append]⟩)
    .rcases main b o e with z|⟨_,_,ps,z⟩
     .exact⟨o,z⟩
     .exact⟨_,z⟩
 have lkT:∀b q,ts.lookup b=a3 q->(b,q)∈ts:=λb q h=>j1u h;have ofT:∀t∈ts,ts.lookup t.1=a3 t.2:=lookup_tab hT.1;have okT:∀(H:Hp) b q,(b,q)∈ts->jj P w H s₁.heap b (.cod q):=λH b q h=>⟨#[],at_ h,trivial,λpos cv z=>by cases z⟩
 cases hk:K.lookup a with
 |some o =>
  have e:=KX a o hk;rw[ha]at e;cases e;refine core (λb=>(ts.lookup b).map HO.cod) ⟨λb=>?_,λt ht=>by show(ts.lookup t.1).map HO.cod=_;rw[ofT t ht];rfl⟩ (.inr ⟨_,vs.toArray,_,hk,rfl,rfl,rfl,by rw[X4,lenV];exact hl,by simpa using rv⟩) (λb u z=>?_) (λb z=>?_) λz=>?_
  .cases e:ts.lookup b with
   |none=>exact .inl (by show(ts.lookup b).map HO.cod=_;rw[e];rfl)
   |some q=>exact .inr (.inr ⟨q,lkT b q e,by show(ts.lookup b).map HO.cod=_;rw[e];rfl⟩)
  .obtain⟨q,e,rfl⟩:=Xq.mp z;exact okT _ b q (lkT b q e)
  .cases e:ts.lookup b with
   |none=>exact absurd (by show(ts.lookup b).map HO.cod=_;rw[e];rfl) z
   |some q=>exact .inr ⟨q,lkT b q e⟩
  .cases e:ts.lookup a with
   |none=>exact absurd (by show(ts.lookup a).map HO.cod=_;rw[e];rfl) z
   |some q=>have:=at_ (lkT a q e);rw[ha]at this;cases this
 |none =>
  have na:∀q,(a,q)∉ts:=λq h=>by have:=at_ h;rw[ha]at this;cases this
  refine core (λb=>if b=a then a3 (.frz { cls:=.type "list",data:=.seq vs.toArray } (.lst (ns.map V.int))) else(ts.lookup b).map HO.cod) ⟨λb=>?_,λt ht=>?_⟩ (.inl (.inr ⟨{ cls:=.type "list",data:=.seq vs.toArray },if_pos rfl⟩)) (λb u z=>?_) (λb z=>?_) λ_=>hk
  .by_cases hb:b=a
   .exact .inr (.inl ⟨_,_,if_pos hb⟩)
   .cases e:ts.lookup b with
    |none=>exact .inl (by show(if b=a then _ else _)=_;rw[if_neg hb,e];rfl)
    |some q=>exact .inr (.inr ⟨q,lkT b q e,by show(if b=a then _ else _)=_;rw[if_neg hb,e];rfl⟩)
  .have nb:t.1≠a:=λz=>na t.2 (z▸ht);show(if t.1=a then _ else _)=_;rw[if_neg nb,ofT t ht];rfl
  .by_cases hb:b=a
   .have z':=(if_pos hb).symm.trans z;cases z';subst hb;exact⟨ha,by rw[kj];exact hl,vs,_,rv,ha⟩
   .have z':=(if_neg hb).symm.trans z;obtain⟨q,e,rfl⟩:=Xq.mp z';exact okT _ b q (lkT b q e)
  .by_cases hb:b=a
   .exact .inl hb
   .cases e:ts.lookup b with
    |none=>exact absurd (by show(if b=a then _ else _)=_;rw[if_neg hb,e];rfl) z
    |some q=>exact .inr ⟨q,lkT b q e⟩
theorem walk_of{l:df}{n k:Nat}{q:au}{loose:List ah}{XP:(ah->Option a9)->aD->Prop}{YP:az->aD->Prop}{d:DefRec}{K:lV->k8d}{CX:az->CXT}{sp:az->Sp}{x:ah}{ts:az->List (aa×ah)}
  (hn:l.most=a3 n) (hn2:n<=ak) (hdf:d.params.defaults=[]) (hr:Room k fU)
  (hY:∀(w:az)(h:aD),YP w h->(K w.params).In h/\jaa (ts w) h) (hK0:∀w:az,W.noTabs (K w.params)=a5)
  (F:∀(w:az)(mg:k8g)(fa:aa)(h:aD),(K w.params).In h->h.Ns aq mg->mg d.name=a3 (.ref fa) ->
   ∃fd:aL,(∀(s:af)(u:a9),d9 s fd ⟨[u],[]⟩ [(x,u)]) /\
    ∀base:aD,(K w.params).In base->base.Ns aq mg->FnOk l.prog w (K w.params) mg base (CX w) k fa fd [x] (sp w))
  (hsp:∀(w:az)(H:Hp)(a:aa)(ns:List Int),ns.length<=n->Only (ts w) H->SqL (K w.params) H a (ns.map V.int)->sp w [.ref a] H (λv H'=>v=.bl a5/\∀b o,H b=a3 o->H' b=a3 o) λ_ _ _=>False)
  (hCX:∀(w:az)(H:Hp)(s:af)(e:a9)(s':af),CX w [] H s (λ_ _ _=>False) e s'->False) :
  ir q loose XP YP l.row.toRowW d [] (λf vs=>iA f vs):=by
 refine Att.attach_call hn hdf λw s₀ s₁ mg mb fa o pm cd doc a vs ns G Y ho hd hcd hmg hobj hints hlen hg=>?_;obtain⟨KX,hT⟩:=hY w _ Y;obtain⟨fd,hb,hF⟩:=F w mg fa _ KX G.T.g hmg;exact j8d KX G.T.g G.T.b G.T.builtins G.T.nolimit G.T.bmain hT (hK0 w) hg hobj hints (Xk hlen hn2) hr hF hb (λH hO hS=>hsp w H a ns hlen hO hS) λH e s'=>hCX w H s₁ e s'
end L2
/- THE LAST THEOREM (shape;LID,My.* are yours):
 My.Adr: a structure of the addresses that your layer names (classes,functions);My.Txt K t: a structure (Prop) of the equations over K;
 My.txt_mk:{K} {implicit addresses ..} (e1:bG K aq "law" = a3 (a3 (.ref f))) (e2:K.lookup f=a3 ⟨oc,od,.func (fnOf "law" "law" params body scope dV kV doc pm an cdv ct),sl⟩) (e3:codeIn K cdv "law" = a5) ..:∃t,My.Txt K t
(the tactic k_is has no namespace: write k_is) -/
namespace L2
open PySem PySem.Spec PyProof.Rows
noncomputable def v9(s:aQ):dh:=match s with
 |.FunctionDef _ a _ _ _ _ _ _ _ _=>a
 |_=>{ posonlyargs:=[],args:=[],vararg:=a6,kwonlyargs:=[],kw_defaults:=[],kwarg:=a6,defaults:=[] }
noncomputable def jt(s:aQ):List aQ:=match s with
 |.FunctionDef _ _ b _ _ _ _ _ _ _=>b
 |_=>[]
noncomputable def jb(s:aQ):b7:=match s with
 |.FunctionDef _ _ _ _ _ _ sc _ _ _=>sc
 |_=>{ kind:=.function,names:=[],isGenerator:=a4,isCoroutine:=a4 }
noncomputable abbrev CX0:CXT:=λ_ _ _ _ _ _=>False
noncomputable abbrev E0:XK:=λ_ _ _=>False
theorem Fd{X:Cx}:Mh CX0 X E0:=λ_ _ _ _ _ _ _ h=>h.elim
structure Fun(K:k8d)(x qual:ah)(st:aQ)(f:aa)(fd:aL):Prop where
 ex:∃(oc:a9)(od:Option aa)(dV kV doc pm:a9)(an:Option aa)(cdv ct:a9)(osl:Array (Option a9)),
  fd=W.fnOf x qual (v9 st) (jt st) (jb st) dV kV doc pm an cdv ct/\K.lookup f=a3 ⟨oc,od,.func fd,osl⟩/\W.codeIn K cdv qual=a5
 kp:W.keepIn K (.ref f)=a5
section
variable{P:au}{w:az}{K:k8d}{mg:k8g}{base:aD}
theorem Fun.binds{x qual:ah}{st:aQ}{f:aa}{kV doc pm:a9}{an:Option aa}{cdv ct:a9}{ps:List ah}(F:Fun K x qual st f (W.fnOf x qual (v9 st) (jt st) (jb st) .none kV doc pm an cdv ct))
  (h:∀(kV doc pm:a9)(an:Option aa)(cdv ct:a9)(us:List a9),us.length=ps.length->eW (W.fnOf x qual (v9 st) (jt st) (jb st) .none kV doc pm an cdv ct) ⟨us,[]⟩=pure (ps.zip us)):Binds K (W.fnOf x qual (v9 st) (jt st) (jb st) .none kV doc pm an cdv ct) ps []:=.all (h kV doc pm an cdv ct)
theorem Ft{x qual:ah}{st:aQ}{f:aa}{oc:a9}{od an:Option aa}{osl:Array (Option a9)}{dV kV doc pm cdv ct:a9}(l:K.lookup f=a3 ⟨oc,od,.func (W.fnOf x qual (v9 st) (jt st) (jb st) dV kV doc pm an cdv ct),osl⟩)
  (c:W.codeIn K cdv qual=a5) (k:W.keepIn K (.ref f)=a5):Fun K x qual st f (W.fnOf x qual (v9 st) (jt st) (jb st) dV kV doc pm an cdv ct):=⟨⟨oc,od,dV,kV,doc,pm,an,cdv,ct,osl,rfl,l,c⟩,k⟩
end
section
variable{X:Cx}
end
theorem Bo{A B:Prop}(h:B):if a4=a5 then A else B:=by rw[if_neg xf];exact h
theorem Bm{A B:Prop}(h:A):if a5=a5 then A else B:=by rw[if_pos rfl];exact h
def j0(H H':Hp):Prop:=∀b o,H b=a3 o->H' b=a3 o
theorem j0.refl(H:Hp):j0 H H:=λ_ _ h=>h
theorem j0.trans{H H1 H2:Hp}(a:j0 H H1)(b:j0 H1 H2):j0 H H2:=λc o h=>b c o (a c o h)
theorem j0.free{H H':Hp}(e:j0 H H'){l:aa}(h:H' l=a6):H l=a6:=by
 cases q:H l with
 |none=>rfl
 |some o =>rw[e l o q]at h;cases h
theorem j0.seq{K:k8d}{H H':Hp}{a:aa}{xs:List V}(e:j0 H H')(h:SqL K H a xs):SqL K H' a xs:=by
 rcases h with (h|⟨o,h⟩)|h
 .exact .inl (.inl (e _ _ h))
 .exact .inl (.inr ⟨o,e _ _ h⟩)
 .exact .inr h
set_option genInjectivity true in
inductive D where
 |non
 |bl (b:Bool)
 |int (i:Int)
 |str (x:ah)
 |tup (ds:List D)
 |lst (ds:List D)
 |dct (ks:List (List Int)) (ds:List D)
 |sct (kvs:List (ah×Int))
 |fn (x:ah) (cs:List D)
noncomputable def kvI(kvs:List (ah×Int)):List (Key×V):=kvs.map λp=>(.inr p.1,.int p.2)
noncomputable def jx(x:ah):ah:=x ++ ".<locals>." ++ "<lambda>"
noncomputable abbrev Tx:=dh×aj×b7
noncomputable def jl9:aj->Option Tx
 |.Lambda a b sc _=>a3 (a,b,sc)
 |.Call _ es _ _=>match es.getLast? with
  |some (.Lambda a b sc _)=>a3 (a,b,sc)
  |_=>a6
 |_=>a6
noncomputable def Bl(b:List aQ):Option Tx:=match b.getLast? with
 |some (.Return (a3 e) _)=>jl9 e
 |_=>a6
noncomputable def Qz(K:k8d)(x:ah):Option Tx:=match W.nsIn K aq x with
 |some (a3 (.ref f))=>match K.lookup f with
  |some ⟨_,_,.func fd,_⟩=>match fd.body with
   |.stmts b=>Bl b
   |_=>a6
  |_=>a6
 |_=>a6
noncomputable def v5(sc:b7):List ah:=((sc.names.filter λp=>p.2==.free).map (·.1)).reverse
def vp(H:Hp):List aa->List V->Prop
 |[],vs=>vs=[]
 |c::cs,vs=>∃v r o u,vs=v::r/\H c=a3 (.frz o (.own 0))/\o.data=.cell (a3 u)/\RelV v u/\vp H cs r
theorem vp.mono{H H':Hp}(g:j0 H H'):∀{cs:List aa}{vs:List V},vp H cs vs->vp H' cs vs
 |[],_,h=>h
 |_::_,_,⟨v,r,o,u,e,h,d,rv,l⟩=>⟨v,r,o,u,e,g _ _ h,d,rv,l.mono g⟩
structure LamAt(K:k8d)(H:Hp)(x:ah)(a c:aa)(t:Tx)(cl:List (ah×aa))(vs:List V):Prop where
 tx:Qz K x=a3 t
 fo:∃pm ctv,H a=a3 (.frz (W.kla_obj "<lambda>" (jx x) t.1 t.2.1 t.2.2 cl pm c ctv) (.own 0))
 co:∃oc,H c=a3 (.frz oc (.own 0))/\Ob oc (jx x)
 nm:cl.map (·.1)=v5 t.2.2
 nd:(cl.map (·.2)).Nodup
 cs:vp H (cl.map (·.2)) vs
theorem LamAt.mono{K:k8d}{H H':Hp}{x:ah}{a c:aa}{tx:Tx}{cl:List (ah×aa)}{vs:List V}(g:j0 H H')(h:LamAt K H x a c tx cl vs):LamAt K H' x a c tx cl vs :=
 ⟨h.tx,let ⟨pm,ctv,e⟩:=h.fo;⟨pm,ctv,g _ _ e⟩,let ⟨oc,e,q⟩:=h.co;⟨oc,g _ _ e,q⟩,h.nm,h.nd,h.cs.mono g⟩
noncomputable def del(H:Hp)(A:List aa):Hp:=λb=>if b∈A then a6 else H b
section
variable{H H' F:Hp}{A A':List aa}{a b:aa}{o:HO}
theorem qp(h:b∈A):del H A b=a6:=if_pos h
theorem j5(h:b∉A):del H A b=H b:=if_neg h
theorem of_del(h:del H A b=a3 o):b∉A/\H b=a3 o:=by
 by_cases e:b∈A
 .rw[qp e]at h;cases h
 .rw[j5 e]at h;exact⟨e,h⟩
theorem je(g:j0 H H'):j0 (del H A) (del H' A):=λb o h=>by obtain⟨n,e⟩:=of_del h;rw[j5 n];exact g b o e
end
theorem j0.seqT{K:k8d}{H H':Hp}{a:aa}{xs:List V}(e:j0 H H')(h:SqT K H a xs):SqT K H' a xs:=by
 rcases h with (h|⟨o,h⟩)|h
 .exact .inl (.inl (e _ _ h))
 .exact .inl (.inr ⟨o,e _ _ h⟩)
 .exact .inr h
mutual
def Enc(K:k8d)(H:Hp):D->V->Prop
 |.non,v=>v=.non
 |.bl b,v=>v=.bl b
 |.int i,v=>v=.int i
 |.str x,v=>v=.str x
 |.tup ds,v=>∃a xs,v=.ref a/\SqT K H a xs/\j4 K H ds xs
 |.lst ds,v=>∃a xs,v=.ref a/\SqL K H a xs/\j4 K H ds xs
 |.dct ks ds,v=>∃(a:aa)(xs:List (List Int×aa×a9)) (ep:Nat) (vs:List V),v=.ref a/\H a=a3 (.dI xs ep)/\ks=(xs.map λx=>x.1)/\(∀x∈xs,SqT K H x.2.1 (x.1.map V.int))/\Vals vs (xs.map λx=>x.2.2)/\j4 K H ds vs
 |.sct kvs,v=>∃a:aa,v=.ref a/\H a=a3 (.dK (kvI kvs))
 |.fn x ds,v=>∃(a c:aa)(tx:Tx)(cl:List (ah×aa)) (vs:List V),v=.ref a/\LamAt K H x a c tx cl vs/\j4 K (del H (cl.map (·.2))) ds vs
def j4(K:k8d)(H:Hp):List D->List V->Prop
 |[],xs=>xs=[]
 |d::ds,xs=>∃x r,xs=x::r/\Enc K H d x/\j4 K H ds r
end
mutual
theorem Enc.mono{K:k8d}{H H':Hp}(g:j0 H H'):∀{d:D}{v:V},Enc K H d v->Enc K H' d v
 |.non,_,h=>h
 |.bl _,_,h=>h
 |.int _,_,h=>h
 |.str _,_,h=>h
 |.tup _,_,⟨a,xs,e,q,l⟩=>⟨a,xs,e,g.seqT q,j4.mono g l⟩
 |.lst _,_,⟨a,xs,e,q,l⟩=>⟨a,xs,e,g.seq q,j4.mono g l⟩
 |.dct _ _,_,⟨a,xs,ep,vs,e,q,ek,kt,rv,l⟩=>⟨a,xs,ep,vs,e,g _ _ q,ek,λx hx=>g.seqT (kt x hx),rv,j4.mono g l⟩
 |.sct _,_,⟨a,e,q⟩=>⟨a,e,g _ _ q⟩
 |.fn _ _,_,⟨a,c,tx,cl,vs,e,q,l⟩=>⟨a,c,tx,cl,vs,e,q.mono g,j4.mono (je g) l⟩
theorem j4.mono{K:k8d}{H H':Hp}(g:j0 H H'):∀{ds:List D}{xs:List V},j4 K H ds xs->j4 K H' ds xs
 |[],_,h=>h
 |_::_,_,⟨x,r,e,h,l⟩=>⟨x,r,e,Enc.mono g h,j4.mono g l⟩
end
section
variable{K:k8d}{H H':Hp}{ds ds':List D}{xs ys:List V}
theorem j4.length:∀{ds:List D}{xs:List V},j4 K H ds xs->xs.length=ds.length
 |[],_,h=>by cases h;rfl
 |_::_,_,⟨x,r,e,_,l⟩=>by subst e;simp[j4.length l]
theorem j4.get:∀{ds:List D}{xs:List V}{i:Nat}{d:D},j4 K H ds xs->ds[i]?=a3 d->∃x,xs[i]?=a3 x/\Enc K H d x
 |[],_,i,d,_,e=>by simp at e
 |_::_,_,0,d,⟨x,r,e,h,_⟩,q=>by subst e;simp at q;subst q;exact⟨x,rfl,h⟩
 |_::_,_,i+1,d,⟨x,r,e,_,l⟩,q=>by subst e;simp at q;obtain⟨y,hy,hd⟩:=j4.get l q;exact⟨y,by simpa using hy,hd⟩
theorem j4.get':∀{ds:List D}{xs:List V}{i:Nat}{x:V},j4 K H ds xs->xs[i]?=a3 x->∃d,ds[i]?=a3 d/\Enc K H d x
 |[],_,i,d,h,e=>by cases h;simp at e
 |d::_,_,0,y,⟨x,r,e,h,_⟩,q=>by subst e;simp at q;subst q;exact⟨d,rfl,h⟩
 |_::_,_,i+1,y,⟨x,r,e,_,l⟩,q=>by subst e;simp at q;obtain⟨y,hy,hd⟩:=j4.get' l q;exact⟨y,by simpa using hy,hd⟩
theorem j4.append:∀{ds ds':List D}{xs ys:List V},j4 K H ds xs->j4 K H ds' ys->j4 K H (ds++ds') (xs++ys)
 |[],_,_,_,h,h'=>by cases h;exact h'
 |_::_,_,_,_,⟨x,r,e,h,l⟩,h'=>by subst e;exact⟨x,_,rfl,h,j4.append l h'⟩
theorem j4.one{d:D}{x:V}(h:Enc K H d x):j4 K H [d] [x]:=⟨x,[],rfl,h,rfl⟩
theorem j4.set:∀{ds:List D}{xs:List V}{i:Nat}{d:D}{x:V},j4 K H ds xs->Enc K H d x->j4 K H (ds.set i d) (xs.set i x)
 |[],_,i,d,x,h,_=>by cases h;exact rfl
 |_::_,_,0,d,y,⟨x,r,e,h,l⟩,q=>by subst e;exact⟨y,r,rfl,q,l⟩
 |_::_,_,i+1,d,y,⟨x,r,e,h,l⟩,q=>by subst e;exact⟨x,_,rfl,h,j4.set l q⟩
theorem j4.take:∀{ds:List D}{xs:List V}(n:Nat),j4 K H ds xs->j4 K H (ds.take n) (xs.take n)
 |[],_,n,h=>by cases h;simp;exact rfl
 |_::_,_,0,⟨x,r,e,h,l⟩=>by simp;exact rfl
 |_::_,_,n+1,⟨x,r,e,h,l⟩=>by subst e;exact⟨x,_,rfl,h,j4.take n l⟩
theorem j4.drop:∀{ds:List D}{xs:List V}(n:Nat),j4 K H ds xs->j4 K H (ds.drop n) (xs.drop n)
 |[],_,n,h=>by cases h;simp;exact rfl
 |_::_,_,0,h=>h
 |_::_,_,n+1,⟨x,r,e,h,l⟩=>by subst e;exact j4.drop n l
theorem j4.rep{ds:List D}{xs:List V}(h:j4 K H ds xs):∀k:Nat,j4 K H (ae k ds).flatten (ae k xs).flatten
 |0=>rfl
 |k+1=>by rw[Ph,Ph,T6,T6];exact h.append (j4.rep h k)
theorem j4.ints(ns:List Int):j4 K H (ns.map D.int) (ns.map V.int):=by
 induction ns with
 |nil=>exact rfl
 |cons n ns ih=>exact⟨_,_,rfl,rfl,ih⟩
end
section
variable{H H' F:Hp}{A A':List aa}{a b:aa}{o:HO}
theorem Jw:del H []=H:=funext λb=>if_neg (by simp)
theorem ju:j0 (del H A) H:=λ_ _ h=>(of_del h).2
theorem vo(h:∀b,b∈A'->b∈A):j0 (del H A) (del H A'):=λb o e=>by obtain⟨n,e⟩:=of_del e;rw[j5 λz=>n (h b z)];exact e
theorem W3(h:a∈A):del (upd H a o) A=del H A:=funext λb=>by
 by_cases e:b∈A
 .rw[qp e,qp e]
 .rw[j5 e,j5 e,jg];rintro rfl;exact e h
noncomputable def mrg(A:List aa)(H F:Hp):Hp:=λb=>if b∈A then H b else F b
theorem Jd(h:b∈A):mrg A H F b=H b:=if_pos h
theorem jm(h:b∉A):mrg A H F b=F b:=if_neg h
theorem Ye(h:∀a∈A,F a=a6):del (mrg A H F) A=F:=funext λb=>by
 by_cases e:b∈A
 .rw[qp e,h b e]
 .rw[j5 e,jm e]
theorem Bb(g:j0 (del H A) F):j0 H (mrg A H F):=λb o e=>by
 by_cases z:b∈A
 .rw[Jd z];exact e
 .rw[jm z];exact g b o (by rw[j5 z];exact e)
theorem j7(h:H a=a6):j0 H (upd H a o):=λb u q=>by rw[jg (vf q h)];exact q
end
def Hd(o:Option HO):Prop:=(∃xs,o=a3 (.lst xs))\/∃xs ep,o=a3 (.dI xs ep)
section
variable{X:Cx}{pins:k8f}{σ σ':St}{H F:Hp}{s s':af}{A:List aa}
theorem Inv.noFs(I:Inv X pins σ H s){b:aa}(hb:b∈X.fs):H b=a6:=by
 have q:b∈frs X.stack:=by
  rcases I.ok.stk with e|⟨e,_⟩
  .rw[e];exact hb
  .rw[e];have hb:b∈frs X.outer:=hb;unfold frs at hb ⊢;rw[bU];split
   .exact hb
   .exact xg _ hb
 exact I.stkFree b q
theorem Inv.hide(I:Inv X pins σ H s)(hA:∀a∈A,Hd (H a)):Inv X (pins++Ym A s.heap) σ (del H A) s where
 ok:=I.ok
 os:=I.os
 bare:=I.bare
 base:={
  keep:=I.base.keep
  slot:=I.base.slot
  free:=λb o e n hx=>by
   have q:=I.base.free b o e n hx
   by_cases z:b∈A
   .exact qp z
   .rw[j5 z];exact q
  there:=I.base.there
  tups:=λb xs e=>by
   have q:=I.base.tups b xs e
   rw[j5];exact q
   intro z;rcases hA b z with ⟨ys,e'⟩|⟨ys,ep,e'⟩<;>(rw[q]at e';cases e')
  frzs:=λb o u e=>by
   have q:=I.base.frzs b o u e
   rw[j5];exact q
   intro z;rcases hA b z with ⟨ys,e'⟩|⟨ys,ep,e'⟩<;>(rw[q]at e';cases e')
  tbls:=λb ps e=>by
   obtain⟨more,q⟩:=I.base.tbls b ps e
   refine⟨more,?_⟩
   rw[j5];exact q
   intro z;rcases hA b z with ⟨ys,e'⟩|⟨ys,ep,e'⟩<;>(rw[q]at e';cases e') }
 loc:=I.loc
 cell:=I.cell
 free:=by
  by_cases z:X.env.locals∈A
  .exact qp z
  .rw[j5 z];exact I.free
 freeC:=λx c e=>by
  by_cases z:c∈A
  .exact qp z
  .rw[j5 z];exact I.freeC x c e
 pin:=λp hp=>by
  rw[<-Tn]at hp;rcases pq.mp hp with hp|hp
  .obtain⟨h1,h2,h3⟩:=I.pin p hp;refine⟨h1,?_,h3⟩;by_cases z:p.1∈A
   .exact qp z
   .rw[j5 z];exact h2
  .obtain⟨h1,h2⟩:=Ly hp;rcases hA _ h1 with ⟨xs,e⟩|⟨xs,ep,e⟩
   .refine⟨h2,qp h1,λz=>?_,λz=>?_,λv z=>?_⟩
    .rw[z,I.free]at e;cases e
    .rw[I.noFs z]at e;cases e
    .obtain⟨_,its,n,_,q⟩:=(show jj X.prog X.w H s.heap p.1 (.lst xs)from I.hok _ _ e)
     rw[h2]at q;rw[av q]at z;cases z
   .refine⟨h2,qp h1,λz=>?_,λz=>?_,λv z=>?_⟩
    .rw[z,I.free]at e;cases e
    .rw[I.noFs z]at e;cases e
    .obtain⟨_,_,_,ob,es,q,_,qd,_⟩:=(show jj X.prog X.w H s.heap p.1 (.dI xs ep)from I.hok _ _ e)
     rw[h2]at q;rw[av q,qd]at z;cases z
 hok:=λa o e=>by
  obtain⟨n,e⟩:=of_del e;refine jj.stay (I.hok a o e) (λb u _ q=>q) (λb q=>?_) (λb xs q=>?_) (λb _ _ q=>?_)
  .rw[j5];exact q;intro z;rcases hA b z with ⟨ys,e'⟩|⟨ys,ep,e'⟩<;>(rw[q]at e';cases e')
  .rw[j5];exact q;intro z;rcases hA b z with ⟨ys,e'⟩|⟨ys,ep,e'⟩<;>(rw[q]at e';cases e')
  .rw[j5];exact q;intro z;rcases hA b z with ⟨ys,e'⟩|⟨ys,ep,e'⟩<;>(rw[q]at e';cases e')
 len:=I.len
theorem Inv.unhide(I0:Inv X pins σ H s)(hA:∀a∈A,Hd (H a))(I:Inv X (pins++Ym A s.heap) σ' F s') :
  (∀a∈A,F a=a6)/\Inv X pins σ' (mrg A H F) s':=by
 have pinned:∀a∈A,∃o,s.heap.get? a=a3 o/\s'.heap.get? a=a3 o/\F a=a6:=λa ha=>by
  have ob:∃o,s.heap.get? a=a3 o:=by
   rcases hA a ha with ⟨xs,e⟩|⟨xs,ep,e⟩
   .obtain⟨_,its,n,_,q⟩:=(show jj X.prog X.w H s.heap a (.lst xs)from I0.hok _ _ e)
    exact⟨_,q⟩
   .obtain⟨_,_,_,o,es,q,_⟩:=(show jj X.prog X.w H s.heap a (.dI xs ep)from I0.hok _ _ e)
    exact⟨_,q⟩
  obtain⟨o,q⟩:=ob;obtain⟨h1,h2,_⟩:=I.pin (a,_) (Xe _ (Xe _ (Qy ha q)));exact⟨_,q,h1,h2⟩
 have hF:∀a∈A,F a=a6:=λa ha=>let ⟨_,_,_,q⟩:=pinned a ha;q;have out:∀{b:aa}{o:HO},F b=a3 o->b∉A:=λ{b o} e z=>by rw[hF b z]at e;cases e
 refine⟨hF,?_⟩;exact{
  ok:=I.ok
  os:=I.os
  bare:=I.bare
  base:={
   keep:=I.base.keep
   slot:=I.base.slot
   free:=λb o e n hx=>by
    by_cases z:b∈A
    .rw[Jd z];exact I0.base.free b o e n hx
    .rw[jm z];exact I.base.free b o e n hx
   there:=I.base.there
   tups:=λb xs e=>by
    have q:=I.base.tups b xs e
    rw[jm (out q)];exact q
   frzs:=λb o u e=>by
    have q:=I.base.frzs b o u e
    rw[jm (out q)];exact q
   tbls:=λb ps e=>by
    obtain⟨more,q⟩:=I.base.tbls b ps e
    exact⟨more,by rw[jm (out q)];exact q⟩ }
  loc:=I.loc
  cell:=I.cell
  free:=by
   by_cases z:X.env.locals∈A
   .rw[Jd z];exact I0.free
   .rw[jm z];exact I.free
  freeC:=λx c e=>by
   by_cases z:c∈A
   .rw[Jd z];exact I0.freeC x c e
   .rw[jm z];exact I.freeC x c e
  pin:=λp hp=>by
   obtain⟨h1,h2,h3⟩:=I.pin p (by rw[<-Tn];exact Pn _ hp)
   refine⟨h1,?_,h3⟩
   by_cases z:p.1∈A
   .rw[Jd z];exact(I0.pin p hp).2.1
   .rw[jm z];exact h2
  hok:=λa o e=>by
   by_cases z:a∈A
   .rw[Jd z]at e
    obtain⟨o',q1,q2,_⟩:=pinned a z
    rcases hA a z with ⟨xs,e'⟩|⟨xs,ep,e'⟩
    .rw[e']at e;cases e
     obtain⟨hl,its,n,r,q⟩:=(show jj X.prog X.w H s.heap a (.lst xs)from I0.hok _ _ e')
     rw[q]at q1;cases q1
     exact⟨hl,its,n,r,q2⟩
    .rw[e']at e;cases e
     obtain⟨z1,z2,z3,ob,es,q,z4⟩:=(show jj X.prog X.w H s.heap a (.dI xs ep)from I0.hok _ _ e')
     rw[q]at q1;cases q1
     exact⟨z1,z2,z3,_,es,q2,z4⟩
   .rw[jm z]at e
    refine jj.stay (I.hok a o e) (λb u _ q=>q) (λb q=>?_) (λb xs q=>?_) (λb _ _ q=>?_)
    .rw[jm (out q)];exact q
    .rw[jm (out q)];exact q
    .rw[jm (out q)];exact q
  len:=I.len }
end
def Qm(X:Cx)(e:aj):TE:=λσ H Q=>∀pins s,Inv X pins σ H s->ar (ax X.prog X.w) X.A (ay e X.env) (EP X pins σ Q) X.xe s
def j7m(X:Cx)(e:aj):TT:=λσ H Q=>∀pins s,Inv X pins σ H s->ar (ax X.prog X.w) X.A (fG e X.env (ay e X.env)) (TP X pins σ Q) X.xe s
def Dq(X:Cx)(es:List aj):TA:=λσ H Q=>∀pos pins s,Inv X pins σ H s->ar (ax X.prog X.w) X.A (iS (aM pos (a8 es X.env))) (AP X pins σ Q) X.xe s
def j7n(X:Cx)(st:aQ):TS:=λD σ H=>∀pins s,Inv X pins σ H s->ar (ax X.prog X.w) X.A (exec st X.env) (SP X pins D) X.xe s
def Zh(X:Cx)(sts:List aQ):TS:=λD σ H=>∀pins s,Inv X pins σ H s->ar (ax X.prog X.w) X.A (execs sts X.env) (SP X pins D) X.xe s
def Eu(X:Cx)(tg iter:aj):TI:=λσ H R=>∀pins s,Inv X pins σ H s ->
 ar (ax X.prog X.w) X.A (ay iter X.env) (λv s1=>ar (ax X.prog X.w) X.A (hZ v) (PIE X pins σ tg R) X.xe s1) X.xe s
section
variable{X:Cx}{e tg:aj}{es:List aj}{st:aQ}{sts:List aQ}{σ:St}{H:Hp}
theorem peS:PE X e (Qm X e):=λpins s _ _ _ I h=>h pins s I
theorem ptS:PT X e (j7m X e):=λpins s _ _ _ I h=>h pins s I
theorem paS:PA X es (Dq X es):=λpos pins s _ _ _ I h=>h pos pins s I
theorem psS:PS X st (j7n X st):=λpins s _ _ _ I h=>h pins s I
theorem J7:PSs X sts (Zh X sts):=λpins s _ _ _ I h=>h pins s I
theorem piS:PI X tg e (Eu X tg e):=λpins s _ _ _ I h=>h pins s I
theorem PE.to{t:TE}(h:PE X e t){Q:VK}(q:t σ H Q):Qm X e σ H Q:=λpins s I=>h pins s σ H Q I q
theorem PT.to{t:TT}(h:PT X e t){Q:Bool->Hp->Prop}(q:t σ H Q):j7m X e σ H Q:=λpins s I=>h pins s σ H Q I q
theorem PA.to{t:TA}(h:PA X es t){Q:List V->Hp->Prop}(q:t σ H Q):Dq X es σ H Q:=λpos pins s I=>h pos pins s σ H Q I q
theorem PS.to{t:TS}(h:PS X st t){D:Ends}(q:t D σ H):j7n X st D σ H:=λpins s I=>h pins s σ H D I q
theorem PSs.to{t:TS}(h:PSs X sts t){D:Ends}(q:t D σ H):Zh X sts D σ H:=λpins s I=>h pins s σ H D I q
theorem PI.to{t:TI}(h:PI X tg e t){R:It->Hp->Prop}(q:t σ H R):Eu X tg e σ H R:=λpins s I=>h pins s σ H R I q
theorem j3b{A:List aa}{Q Q':VK}(hA:∀a∈A,Hd (H a))(h:Qm X e σ (del H A) Q')(hq:∀v F,Q' v F->(∀a∈A,F a=a6)->Q v (mrg A H F)):Qm X e σ H Q :=
 λpins s I=>thn (h _ s (I.hide hA)) λv s' ⟨x,F,I',r,q⟩=>let ⟨n,I2⟩:=I.unhide hA I';⟨x,_,I2,r,hq x F q n⟩
theorem Nu{A:List aa}{R R':It->Hp->Prop}(hA:∀a∈A,Hd (H a))(h:Eu X tg e σ (del H A) R')(hq:∀J F,R' J F->(∀a∈A,F a=a6)->R J (mrg A H F)):Eu X tg e σ H R :=
 λpins s I=>thn (h _ s (I.hide hA)) λv s' h1=>thn h1 λitv s2 ⟨it,fp,tn,J,F,e,I',T,t0,fk,q⟩=>by
  obtain⟨n,I2⟩:=I.unhide hA I';refine⟨it,fp,tn,J,_,e,I2,T,t0,λb hb=>?_,hq J F q n⟩;obtain⟨f0,f1,f2,f3,f4,f5⟩:=fk b hb;refine⟨?_,f1,f2,f3,f4,λp hp=>f5 p (by rw[<-Tn];exact Pn _ hp)⟩;by_cases z:b∈A
  .exfalso;have ob:∃o,s.heap.get? b=a3 o:=by
    rcases hA b z with ⟨xs,e⟩|⟨xs,ep,e⟩
    .obtain⟨_,its,n,_,q⟩:=(show jj X.prog X.w H s.heap b (.lst xs)from I.hok _ _ e)
     exact⟨_,q⟩
    .obtain⟨_,_,_,o,es,q,_⟩:=(show jj X.prog X.w H s.heap b (.dI xs ep)from I.hok _ _ e)
     exact⟨_,q⟩
   obtain⟨o,q⟩:=ob;exact f5 (b,o) (Xe _ (Xe _ (Qy z q))) rfl
  .rw[jm z];exact f0
end
inductive Sl where
 |un
 |val (d:D)
 |own (a:aa) (ds:List D)
 |raw (a:aa) (o:d8) (x:ah)
noncomputable abbrev Rho:=List Sl
noncomputable def Sl.addr:Sl->Option aa
 |.own a _=>a3 a
 |_=>a6
noncomputable def owns(ρ:Rho):List aa:=ρ.filterMap Sl.addr
theorem Qo{ρ:Rho}{i:Nat}{a:aa}{ds:List D}(h:ρ[i]?=a3 (.own a ds)):a∈owns ρ:=Te.mpr ⟨_,Xm h,rfl⟩
theorem Vo{ρ:Rho}{a:aa}(h:a∈owns ρ):∃(i:Nat)(ds:List D),ρ[i]?=a3 (.own a ds):=by
 obtain⟨s,hs,e⟩:=Te.mp h;obtain⟨i,hi⟩:=List.mem_iff_getElem?.mp hs;cases s with
 |own b ds=>cases e;exact⟨i,ds,hi⟩
 |un=>cases e
 |val d=>cases e
 |raw b o x=>cases e
theorem jo(s:Sl)(ρ:Rho):owns (s::ρ)=(match s.addr with|some a=>a::owns ρ|none=>owns ρ):=by unfold owns;rw[bU];cases s.addr<;>rfl
theorem jf{s:Sl}(hs:s.addr=a6):∀{ρ:Rho}{i:Nat},(owns (ρ.set i s)).Sublist (owns ρ)
 |[],_=>List.Sublist.refl _
 |x::r,0=>by
  rw[Xx,jo,jo,hs];cases x.addr with
  |none=>exact List.Sublist.refl _
  |some a=>exact List.sublist_cons_self _ _
 |x::r,i+1=>by
  rw[Xr,jo,jo];have ih:=jf hs (ρ:=r) (i:=i);cases x.addr with
  |none=>exact ih
  |some a=>exact ih.cons_cons a
theorem Vz{a:aa}{ds ds':List D}:∀{ρ:Rho}{i:Nat},ρ[i]?=a3 (.own a ds)->owns (ρ.set i (.own a ds'))=owns ρ
 |[],_,h=>by simp at h
 |x::r,0,h=>by simp at h;subst h;rw[Xx,jo,jo];rfl
 |x::r,i+1,h=>by simp at h;rw[Xr,jo,jo,Vz h]
theorem Oi{s:Sl}(hs:s.addr=a6):∀{ρ:Rho}{i:Nat},(∀a l,ρ[i]?≠a3 (.own a l))->owns (ρ.set i s)=owns ρ
 |[],_,_=>rfl
 |x::r,0,h=>by
  rw[Xx,jo,jo,hs];cases x with
  |own a l=>exact absurd rfl (h a l)
  |un=>rfl
  |val d=>rfl
  |raw a o x=>rfl
 |x::r,i+1,h=>by rw[Xr,jo,jo,Oi hs (λa l=>by simpa using h a l)]
theorem Js{a:aa}{ds:List D}:∀{ρ:Rho}{i:Nat},(owns ρ).Nodup->a∉owns ρ->(owns (ρ.set i (.own a ds))).Nodup/\∀b∈owns (ρ.set i (.own a ds)),b=a\/b∈owns ρ
 |[],_,n,_=>⟨n,λb hb=>.inr hb⟩
 |x::r,0,n,h=>by
  rw[Xx,jo];rw[jo]at n h;have e:(Sl.own a ds).addr=a3 a:=rfl;rw[e];cases q:x.addr with
  |none =>rw[q]at n h;exact⟨Xn.mpr ⟨h,n⟩,λb hb=>(xq.mp hb).elim .inl λz=>.inr (by rw[jo,q];exact z)⟩
  |some c =>rw[q]at n h;exact⟨Xn.mpr ⟨λz=>h (xg _ z),(Xn.mp n).2⟩,λb hb=>(xq.mp hb).elim .inl λz=>.inr (by rw[jo,q];exact xg _ z)⟩
 |x::r,i+1,n,h=>by
  rw[Xr,jo];rw[jo]at n h;cases q:x.addr with
  |none =>rw[q]at n h;obtain⟨i1,i2⟩:=Js (ds:=ds) (i:=i) n h;exact⟨i1,λb hb=>(i2 b hb).elim .inl λz=>.inr (by rw[jo,q];exact z)⟩
  |some c =>
   rw[q]at n h;obtain⟨n1,n2⟩:=Xn.mp n;obtain⟨i1,i2⟩:=Js (ds:=ds) (i:=i) n2 (λz=>h (xg _ z));refine⟨Xn.mpr ⟨λz=>?_,i1⟩,λb hb=>?_⟩
   .rcases i2 c z with e|z
    .subst e;exact h (xm ..)
    .exact n1 z
   .rcases xq.mp hb with e|z
    .exact .inr (by rw[jo,q];exact e▸xm ..)
    .exact(i2 b z).elim .inl λz=>.inr (by rw[jo,q];exact xg _ z)
theorem Yo{a:aa}{l l':List D}:∀{ρ:Rho}{i j:Nat},(owns ρ).Nodup->ρ[i]?=a3 (.own a l)->ρ[j]?=a3 (.own a l')->i=j
 |[],i,_,_,h,_=>by simp at h
 |x::r,0,0,_,_,_=>rfl
 |x::r,0,j+1,n,h,h'=>by simp at h h';subst h;rw[jo]at n;exact absurd (Qo h') (Xn.mp n).1
 |x::r,i+1,0,n,h,h'=>by simp at h h';subst h';rw[jo]at n;exact absurd (Qo h) (Xn.mp n).1
 |x::r,i+1,j+1,n,h,h'=>by
  simp at h h';have n':(owns r).Nodup:=by
   rw[jo]at n;cases q:x.addr with
   |none=>rw[q]at n;exact n
   |some c=>rw[q]at n;exact(Xn.mp n).2
  rw[Yo n' h h']
noncomputable def Zz:List ah:=["worst_cost_of_ask","least_numbers","whole_cost_of_ask","round_numbers"]
def TabOk(K:k8d)(H:Hp):Prop:=∀x∈Zz,∀c P,W.tabIn K x=a3 (c,P)->H P=a3 (.cod (jx x))
section
variable{K:k8d}{H H':Hp}
theorem TabOk.mono(h:TabOk K H)(g:j0 H H'):TabOk K H':=λx hx c P e=>g _ _ (h x hx c P e)
theorem TabOk.upd{a:aa}{o u:HO}(h:TabOk K H)(e:H a=a3 u)(n:∀q,u≠.cod q):TabOk K (upd H a o):=λx hx c P z=>by have q:=h x hx c P z;rw[jg];exact q;intro y;subst y;rw[e]at q;exact n _ (av q)
theorem TabOk.del{A:List aa}(h:TabOk K H)(hA:∀a∈A,∃xs,H a=a3 (.lst xs)):TabOk K (del H A):=λx hx c P z=>by have q:=h x hx c P z;rw[j5];exact q;intro y;obtain⟨xs,e⟩:=hA _ y;rw[q]at e;cases e
end
structure Rep(K:k8d)(ρ:Rho)(σ:St)(H:Hp):Prop where
 len:σ.length=ρ.length
 val:∀(i:Nat)(d:D),ρ[i]?=a3 (.val d)->∃v,σ[i]?=a3 (a3 v)/\Enc K (del H (owns ρ)) d v
 own:∀(i:Nat)(a:aa)(ds:List D),ρ[i]?=a3 (.own a ds)->σ[i]?=a3 (a3 (.ref a))/\∃xs,H a=a3 (.lst xs)/\j4 K (del H (owns ρ)) ds xs
 nd:(owns ρ).Nodup
 raw:∀(i:Nat)(a:aa)(o:d8)(x:ah),ρ[i]?=a3 (.raw a o x)->σ[i]?=a3 (a3 (.ref a))/\del H (owns ρ) a=a3 (.frz o (.own a))/\W.nsIn K aq x=a3 (a3 o.cls)
 tb:TabOk K H
section
variable{K:k8d}{ρ ρ':Rho}{σ:St}{H H':Hp}{i:Nat}{d:D}{v:V}{a:aa}{ds ds':List D}{xs:List V}
theorem Rep.owned(R:Rep K ρ σ H):∀a∈owns ρ,∃xs,H a=a3 (.lst xs):=λa h=>by obtain⟨i,ds,e⟩:=Vo h;obtain⟨_,xs,q,_⟩:=R.own i a ds e;exact⟨xs,q⟩
theorem Rep.fresh(R:Rep K ρ σ H)(h:H a=a6):a∉owns ρ:=λz=>by obtain⟨xs,e⟩:=R.owned a z;rw[h]at e;cases e
theorem Rep.grow(R:Rep K ρ σ H)(g:j0 H H'):Rep K ρ σ H' :=
 ⟨R.len,λi d e=>let ⟨v,q,h⟩:=R.val i d e;⟨v,q,h.mono (je g)⟩,λi a ds e=>let ⟨q,xs,h,l⟩:=R.own i a ds e;⟨q,xs,g _ _ h,l.mono (je g)⟩,R.nd,λi a o x e=>let ⟨q,h,z⟩:=R.raw i a o x e;⟨q,je g _ _ h,z⟩,R.tb.mono g⟩
theorem getElem?_set_of{α:Type}{l:List α}{i j:Nat}{x y:α}(h:(l.set i x)[j]?=a3 y):(i=j/\y=x/\i<l.length)\/(i≠j/\l[j]?=a3 y):=by
 rw[de]at h;split at h
 .rename_i e;subst e;split at h
  .rename_i z;cases h;exact .inl ⟨rfl,rfl,z⟩
  .cases h
 .rename_i e;exact .inr ⟨e,h⟩
theorem Vv{α:Type}{l:List α}{i:Nat}{x:α}(h:i<l.length):(l.set i x)[i]?=a3 x:=by simp[h]
theorem qy{α:Type}{l:List α}{i j:Nat}{x:α}(h:i≠j):(l.set i x)[j]?=l[j]?:=by simp[h]
theorem Rep.set_val(R:Rep K ρ σ H)(e:Enc K (del H (owns ρ)) d v):Rep K (ρ.set i (.val d)) (σ.set i (a3 v)) H:=by
 have sub:(owns (ρ.set i (.val d))).Sublist (owns ρ):=jf rfl;have g:j0 (del H (owns ρ)) (del H (owns (ρ.set i (.val d)))):=vo λb hb=>sub.subset hb;refine⟨by simp[R.len],λj d' h=>?_,λj a ds h=>?_,sub.nodup R.nd,λj a o x h=>?_,R.tb⟩
 .rcases getElem?_set_of h with ⟨rfl,z,hl⟩|⟨n,h⟩
  .cases z;exact⟨v,Vv (by rw[R.len];exact hl),e.mono g⟩
  .obtain⟨u,q,h⟩:=R.val j d' h;exact⟨u,by rw[qy n];exact q,h.mono g⟩
 .rcases getElem?_set_of h with ⟨rfl,z,_⟩|⟨n,h⟩
  .cases z
  .obtain⟨q,xs,h,l⟩:=R.own j a ds h;exact⟨by rw[qy n];exact q,xs,h,l.mono g⟩
 .rcases getElem?_set_of h with ⟨rfl,z,_⟩|⟨n,h⟩
  .cases z
  .obtain⟨q,h,z⟩:=R.raw j a o x h;exact⟨by rw[qy n];exact q,g _ _ h,z⟩
theorem Rep.set_un{v:Option V}(R:Rep K ρ σ H):Rep K (ρ.set i .un) (σ.set i v) H:=by
 have sub:(owns (ρ.set i .un)).Sublist (owns ρ):=jf rfl;have g:j0 (del H (owns ρ)) (del H (owns (ρ.set i .un))):=vo λb hb=>sub.subset hb;refine⟨by simp[R.len],λj d' h=>?_,λj a ds h=>?_,sub.nodup R.nd,λj a o x h=>?_,R.tb⟩
 .rcases getElem?_set_of h with ⟨rfl,z,hl⟩|⟨n,h⟩
  .cases z
  .obtain⟨u,q,h⟩:=R.val j d' h;exact⟨u,by rw[qy n];exact q,h.mono g⟩
 .rcases getElem?_set_of h with ⟨rfl,z,_⟩|⟨n,h⟩
  .cases z
  .obtain⟨q,xs,h,l⟩:=R.own j a ds h;exact⟨by rw[qy n];exact q,xs,h,l.mono g⟩
 .rcases getElem?_set_of h with ⟨rfl,z,_⟩|⟨n,h⟩
  .cases z
  .obtain⟨q,h,z⟩:=R.raw j a o x h;exact⟨by rw[qy n];exact q,g _ _ h,z⟩
theorem Rep.set_own(R:Rep K ρ σ H)(g:j0 H H')(ha:H a=a6)(e:H' a=a3 (.lst xs))(l:j4 K (del H' (a::owns ρ)) ds xs):Rep K (ρ.set i (.own a ds)) (σ.set i (a3 (.ref a))) H':=by
 have na:=R.fresh ha;obtain⟨nd,sub⟩:=Js (ds:=ds) (i:=i) R.nd na;have g1:j0 (del H' (a::owns ρ)) (del H' (owns (ρ.set i (.own a ds)))):=vo λb hb=>by
  rcases sub b hb with e|z
  .exact e▸xm ..
  .exact xg _ z
 have g2:j0 (del H (owns ρ)) (del H' (a::owns ρ)):=λb o q=>by
  obtain⟨n,q⟩:=of_del q;rw[j5];exact g b o q;intro z;rcases xq.mp z with e|z
  .subst e;rw[ha]at q;cases q
  .exact n z
 refine⟨by simp[R.len],λj d' h=>?_,λj b ds' h=>?_,nd,λj b o x h=>?_,R.tb.mono g⟩
 .rcases getElem?_set_of h with ⟨rfl,z,hl⟩|⟨n,h⟩
  .cases z
  .obtain⟨u,q,h⟩:=R.val j d' h;exact⟨u,by rw[qy n];exact q,h.mono (g2.trans g1)⟩
 .rcases getElem?_set_of h with ⟨rfl,z,hl⟩|⟨n,h⟩
  .cases z;exact⟨Vv (by rw[R.len];exact hl),xs,e,l.mono g1⟩
  .obtain⟨q,ys,h,l⟩:=R.own j b ds' h;exact⟨by rw[qy n];exact q,ys,g _ _ h,l.mono (g2.trans g1)⟩
 .rcases getElem?_set_of h with ⟨rfl,z,hl⟩|⟨n,h⟩
  .cases z
  .obtain⟨q,h,z⟩:=R.raw j b o x h;exact⟨by rw[qy n];exact q,g1 _ _ (g2 _ _ h),z⟩
theorem Rep.upd_own(R:Rep K ρ σ H)(h:ρ[i]?=a3 (.own a ds))(l:j4 K (del H (owns ρ)) ds' xs):Rep K (ρ.set i (.own a ds')) σ (upd H a (.lst xs)):=by
 have eo:owns (ρ.set i (.own a ds'))=owns ρ:=Vz h;have ed:del (upd H a (.lst xs)) (owns ρ)=del H (owns ρ):=W3 (Qo h);refine⟨by simp[R.len],λj d' q=>?_,λj b l' q=>?_,by rw[eo];exact R.nd,λj b o x q=>?_,let ⟨_,_,z,_⟩:=R.own i a ds h;R.tb.upd z λ_ y=>by cases y⟩
 .rw[eo,ed];rcases getElem?_set_of q with ⟨_,z,_⟩|⟨n,q⟩
  .cases z
  .exact R.val j d' q
 .rw[eo,ed];rcases getElem?_set_of q with ⟨rfl,z,_⟩|⟨n,q'⟩
  .cases z;exact⟨(R.own i a ds h).1,xs,j9,l⟩
  .obtain⟨z,ys,y,l''⟩:=R.own j b l' q';refine⟨z,ys,?_,l''⟩;have nb:b≠a:=λe=>n (Yo R.nd h (e▸q'));rw[jg nb];exact y
 .rw[eo,ed];rcases getElem?_set_of q with ⟨_,z,_⟩|⟨n,q⟩
  .cases z
  .exact R.raw j b o x q
theorem Rep.freeze(R:Rep K ρ σ H)(h:ρ[i]?=a3 (.own a ds)):Rep K (ρ.set i (.val (.lst ds))) σ H:=by
 obtain⟨hs,xs,hx,l⟩:=R.own i a ds h;have sub:(owns (ρ.set i (.val (.lst ds)))).Sublist (owns ρ):=jf rfl;have g:j0 (del H (owns ρ)) (del H (owns (ρ.set i (.val (.lst ds))))):=vo λb hb=>sub.subset hb;have na:a∉owns (ρ.set i (.val (.lst ds))):=λz=>by
  obtain⟨j,l',q⟩:=Vo z;rcases getElem?_set_of q with ⟨_,z,_⟩|⟨n,q⟩
  .cases z
  .exact n (Yo R.nd h q)
 refine⟨by simp[R.len],λj d' q=>?_,λj b l' q=>?_,sub.nodup R.nd,λj b o x q=>?_,R.tb⟩
 .rcases getElem?_set_of q with ⟨rfl,z,_⟩|⟨n,q⟩
  .cases z;exact⟨_,hs,a,xs,rfl,.inl (.inl (by rw[j5 na];exact hx)),l.mono g⟩
  .obtain⟨u,q,h⟩:=R.val j d' q;exact⟨u,q,h.mono g⟩
 .rcases getElem?_set_of q with ⟨rfl,z,_⟩|⟨n,q⟩
  .cases z
  .obtain⟨q,ys,h,l⟩:=R.own j b l' q;exact⟨q,ys,h,l.mono g⟩
 .rcases getElem?_set_of q with ⟨_,z,_⟩|⟨n,q⟩
  .cases z
  .obtain⟨q,h,z⟩:=R.raw j b o x q;exact⟨q,g _ _ h,z⟩
end
def DE(X:Cx)(ρ:Rho)(e:aj)(d:D):Prop:=∀σ H Q,Rep X.K ρ σ H->(∀v H',j0 H H'->Enc X.K (del H' (owns ρ)) d v->Q v H')->Qm X e σ H Q
def DT(X:Cx)(ρ:Rho)(e:aj)(d:D):Prop:=∀σ H Q,Rep X.K ρ σ H->(∀v H',j0 H H'->Enc X.K H' d v->Q v H')->Qm X e σ H Q
def DO(X:Cx)(ρ:Rho)(e:aj)(ds:List D):Prop:=∀σ H Q,Rep X.K ρ σ H->(∀a xs H',j0 H H'->H a=a6->H' a=a3 (.lst xs)->j4 X.K (del H' (a::owns ρ)) ds xs->Q (.ref a) H')->Qm X e σ H Q
def DL(X:Cx)(ρ:Rho)(e:aj)(ds:List D):Prop:=∀σ H Q,Rep X.K ρ σ H->(∀a xs H',j0 H H'->H' a=a3 (.lst xs)->j4 X.K (del H' (owns ρ)) ds xs->Q (.ref a) H')->Qm X e σ H Q
def DB(X:Cx)(ρ:Rho)(e:aj)(b:Bool):Prop:=∀σ H Q,Rep X.K ρ σ H->(∀H',j0 H H'->Q b H')->j7m X e σ H Q
def DA(X:Cx)(ρ:Rho)(es:List aj)(ds:List D):Prop:=∀σ H Q,Rep X.K ρ σ H->(∀vs H',j0 H H'->j4 X.K (del H' (owns ρ)) ds vs->Q vs H')->Dq X es σ H Q
def DTA(X:Cx)(ρ:Rho)(es:List aj)(ds:List D):Prop:=∀σ H Q,Rep X.K ρ σ H->(∀vs H',j0 H H'->j4 X.K H' ds vs->Q vs H')->Dq X es σ H Q
def j7l(X:Cx)(e:aj):TT:=λσ H Q=>∀whole pins s,Inv X pins σ H s->ar (ax X.prog X.w) X.A (fG e X.env whole) (TP X pins σ Q) X.xe s
theorem pwS{X:Cx}{e:aj}:PW X e (j7l X e):=λwhole pins s _ _ _ I h=>h whole pins s I
theorem PW.to{X:Cx}{e:aj}{t:TT}{σ:St}{H:Hp}(h:PW X e t){Q:Bool->Hp->Prop}(q:t σ H Q):j7l X e σ H Q:=λwhole pins s I=>h whole pins s σ H Q I q
def DW(X:Cx)(ρ:Rho)(e:aj)(b:Bool):Prop:=∀σ H Q,Rep X.K ρ σ H->(∀H',j0 H H'->Q b H')->j7l X e σ H Q
mutual
noncomputable def vd:D->Bool
 |.lst _=>a4
 |.dct _ _=>a4
 |.sct _=>a4
 |.fn _ _=>a4
 |.tup ds=>zg ds
 |_=>a5
noncomputable def zg:List D->Bool
 |[]=>a5
 |d::ds=>vd d&&zg ds
end
mutual
theorem Enc.hide{K:k8d}{H:Hp}{A:List aa}(hA:∀a∈A,Hd (H a)):∀{d:D}{v:V},vd d=a5->Enc K H d v->Enc K (del H A) d v
 |.non,_,_,h=>h
 |.bl _,_,_,h=>h
 |.int _,_,_,h=>h
 |.str _,_,_,h=>h
 |.lst _,_,n,_=>by cases n
 |.dct _ _,_,n,_=>by cases n
 |.sct _,_,n,_=>by cases n
 |.fn _ _,_,n,_=>by cases n
 |.tup ds,_,n,⟨a,xs,e,q,l⟩=>by
  refine⟨a,xs,e,?_,j4.hide hA (by simpa [vd]using n) l⟩;have out:∀{o:HO},H a=a3 o->(∀ys,o≠.lst ys)->(∀ys ep,o≠.dI ys ep)->del H A a=a3 o:=λ{o} h z z2=>by
   rw[j5];exact h;intro y;rcases hA a y with ⟨ys,e'⟩|⟨ys,ep,e'⟩
   .rw[h]at e';cases e';exact z ys rfl
   .rw[h]at e';cases e';exact z2 ys ep rfl
  rcases q with (q|⟨o,q⟩)|q
  .exact .inl (.inl (out q (λ_ z=>by cases z) λ_ _ z=>by cases z))
  .exact .inl (.inr ⟨o,out q (λ_ z=>by cases z) λ_ _ z=>by cases z⟩)
  .exact .inr q
theorem j4.hide{K:k8d}{H:Hp}{A:List aa}(hA:∀a∈A,Hd (H a)):∀{ds:List D}{xs:List V},zg ds=a5->j4 K H ds xs->j4 K (del H A) ds xs
 |[],_,_,h=>h
 |d::ds,_,n,⟨x,r,e,h,l⟩=>by
  have n':vd d=a5/\zg ds=a5:=by simpa [zg]using n
  exact⟨x,r,e,Enc.hide hA n'.1 h,j4.hide hA n'.2 l⟩
end
section
variable{X:Cx}{ρ:Rho}{e a b c:aj}{es:List aj}{d da db:D}{ds ds':List D}{i j:Int}{pos:aK}{k:Nat}{x:ah}
theorem DE.toT(h:DE X ρ e d):DT X ρ e d:=λσ H Q R q=>h σ H Q R λv H' g l=>q v H' g (l.mono ju)
theorem DT.toE(h:DT X ρ e d)(n:vd d=a5:=by rfl):DE X ρ e d:=λσ H Q R q=>h σ H Q R λv H' g l=>q v H' g (l.hide (λa ha=>.inl ((R.grow g).owned a ha)) n)
theorem DO.toL(h:DO X ρ e ds):DL X ρ e ds:=λσ H Q R q=>h σ H Q R λa xs H' g n m l=>q a xs H' g m (l.mono (vo λb hb=>xg _ hb))
theorem DO.toE(h:DO X ρ e ds):DE X ρ e (.lst ds):=λσ H Q R q=>h σ H Q R λa xs H' g n m l =>q _ H' g ⟨a,xs,rfl,.inl (.inl (by rw[j5 (R.fresh n)];exact m)),l.mono (vo λb hb=>xg _ hb)⟩
theorem DL.toT(h:DL X ρ e ds):DT X ρ e (.lst ds):=λσ H Q R q=>h σ H Q R λa xs H' g m l=>q _ H' g ⟨a,xs,rfl,.inl (.inl m),l.mono ju⟩
theorem DW.toB{k:Bool}(h:DW X ρ e k):DB X ρ e k:=λσ H Q R q pins s I=>h σ H Q R q _ pins s I
theorem DE.eq(h:DE X ρ e d){d':D}(q:d=d'):DE X ρ e d':=q▸h
theorem DB.eq{b b':Bool}(h:DB X ρ e b)(q:b=b'):DB X ρ e b':=q▸h
end
section
variable{X:Cx}{ρ:Rho}{e a b c:aj}{es:List aj}{d da db:D}{ds ds':List D}{i j:Int}{pos p:aK}{k:Nat}{x:ah}
theorem DE.var(k:Nat)(h:ρ[k]?=a3 (.val d))(hN:X.N[k]?=a3 x:=by rfl)(hv:Vis X.env.scope x:=by first|exact aV rfl|exact bj (aV rfl)|exact bj (bj rfl))
  (hd:(x==k8h)=a4:=by decide) (hcd:(x==k8i)=a4:=by decide):DE X ρ (.Name x pos) d:=λσ H Q R q=>by
 obtain⟨v,hs,en⟩:=R.val k d h;exact(J8 hN hv hd hcd).to ⟨v,hs,q v H (j0.refl H) en⟩
theorem DL.var(k:Nat){l:aa}(h:ρ[k]?=a3 (.own l ds))(hN:X.N[k]?=a3 x:=by rfl)(hv:Vis X.env.scope x:=by first|exact aV rfl|exact bj (aV rfl)|exact bj (bj rfl))
  (hd:(x==k8h)=a4:=by decide) (hcd:(x==k8i)=a4:=by decide):DL X ρ (.Name x pos) ds:=λσ H Q R q=>by
 obtain⟨hs,xs,m,en⟩:=R.own k l ds h;exact(J8 hN hv hd hcd).to ⟨_,hs,q l xs H (j0.refl H) m en⟩
theorem DE.glob {u:a9} {v:V} (hg:Gl X x) (hm:X.mg x=a3 u) (r:RelV v u) (h:∀H,Enc X.K H d v) (hd:(x==k8h)=a4:=by decide):DE X ρ (.Name x pos) d :=
 λσ H Q R q=>(jc7 hg hm r hd).to (q v H (j0.refl H) (h _))
theorem DE.int{i:Int}{n:Nat}{pos:aK}:DE X ρ (.Constant (.int i) n pos) (.int i):=λσ H Q R q=>j5f.to (q _ H (j0.refl H) rfl)
theorem DE.bl{b:Bool}{n:Nat}:DE X ρ (.Constant (.bool b) n pos) (.bl b):=λσ H Q R q=>jj4.to (q _ H (j0.refl H) rfl)
theorem DE.non{n:Nat}:DE X ρ (.Constant .none n pos) .non:=λσ H Q R q=>j5c.to (q _ H (j0.refl H) rfl)
theorem DE.str{y:ah}{n:Nat}:DE X ρ (.Constant (.str y) n pos) (.str y):=λσ H Q R q=>j5a.to (q _ H (j0.refl H) rfl)
theorem DE.arI0{op:jO}{g:Int->Int->Int}(ho:OpR X (aZ op) (rI0 λi j=>.int (g i j)))(ha:DT X ρ a (.int i))(hb:DT X ρ b (.int j)):DE X ρ (.BinOp a op b pos) (.int (g i j)):=λσ H Q R q =>(U7 ho peS peS).to (ha σ H _ R λv H1 g1 e1=>hb σ H1 _ (R.grow g1) λu H2 g2 e2=>⟨i,j,e1,e2,q _ H2 (g1.trans g2) rfl⟩)
theorem DE.arI{op:jO}{C:Int->Int->Prop}{g:Int->Int->Int}(ho:OpR X (aZ op) (rI C λi j=>.int (g i j)))(ha:DT X ρ a (.int i))(hb:DT X ρ b (.int j))(hC:C i j):DE X ρ (.BinOp a op b pos) (.int (g i j)):=λσ H Q R q =>(U7 ho peS peS).to (ha σ H _ R λv H1 g1 e1=>hb σ H1 _ (R.grow g1) λu H2 g2 e2=>⟨i,j,e1,e2,hC,q _ H2 (g1.trans g2) rfl⟩)
theorem DE.add(ha:DT X ρ a (.int i))(hb:DT X ρ b (.int j)):DE X ρ (.BinOp a .Add b pos) (.int (i+j)):=DE.arI0 jfr ha hb
theorem DE.sub(ha:DT X ρ a (.int i))(hb:DT X ρ b (.int j)):DE X ρ (.BinOp a .Sub b pos) (.int (i-j)):=DE.arI0 jfj ha hb
theorem DE.mul(ha:DT X ρ a (.int i))(hb:DT X ρ b (.int j))(h:j4c i j):DE X ρ (.BinOp a .Mult b pos) (.int (i*j)):=DE.arI jfo ha hb h
theorem DE.mod(ha:DT X ρ a (.int i))(hb:DT X ρ b (.int j))(h:0<j):DE X ρ (.BinOp a .Mod b pos) (.int (i%j)):=DE.arI jfp ha hb h
theorem DE.pow(ha:DT X ρ a (.int i))(hb:DT X ρ b (.int j))(h:j4b i j):DE X ρ (.BinOp a .Pow b pos) (.int (i^j.toNat)):=DE.arI jfn ha hb h
theorem DE.shl(ha:DT X ρ a (.int i))(hb:DT X ρ b (.int j))(h:j4b i j):DE X ρ (.BinOp a .LShift b pos) (.int (i*2^j.toNat)):=DE.arI (g:=λi j=>i*2^j.toNat) jfl ha hb h
theorem DE.cmpI{op:fV}{g:Int->Int->Bool}(ho:OpR X (aN op) (rI0 λi j=>.bl (g i j)))(hm:aG op b=a4)(ha:DT X ρ a (.int i))(hb:DT X ρ b (.int j)):DE X ρ (.Compare a [op] [b] pos) (.bl (g i j)):=λσ H Q R q =>(Jr ho peS peS hm).to (ha σ H _ R λv H1 g1 e1=>hb σ H1 _ (R.grow g1) λu H2 g2 e2=>⟨i,j,e1,e2,q _ H2 (g1.trans g2) rfl⟩)
theorem DB.cmpI{op:fV}{g:Int->Int->Bool}(ho:OpR X (aN op) (rI0 λi j=>.bl (g i j)))(hm:aG op b=a4)(ha:DT X ρ a (.int i))(hb:DT X ρ b (.int j)):DB X ρ (.Compare a [op] [b] pos) (g i j):=λσ H Q R q =>(Qf ho peS peS hm).to (ha σ H _ R λv H1 g1 e1=>hb σ H1 _ (R.grow g1) λu H2 g2 e2=>⟨i,j,e1,e2,_,rfl,q H2 (g1.trans g2)⟩)
theorem DB.lt(ha:DT X ρ a (.int i))(hb:DT X ρ b (.int j)):DB X ρ (.Compare a [.Lt] [b] pos) (decide (i<j)):=DB.cmpI Ij (zf _) ha hb
theorem DB.le(ha:DT X ρ a (.int i))(hb:DT X ρ b (.int j)):DB X ρ (.Compare a [.LtE] [b] pos) (decide (i<=j)):=DB.cmpI jam (zf _) ha hb
theorem DB.gt(ha:DT X ρ a (.int i))(hb:DT X ρ b (.int j)):DB X ρ (.Compare a [.Gt] [b] pos) (decide (j<i)):=DB.cmpI jan (zf _) ha hb
theorem DB.ge(ha:DT X ρ a (.int i))(hb:DT X ρ b (.int j)):DB X ρ (.Compare a [.GtE] [b] pos) (decide (j<=i)):=DB.cmpI jao (zf _) ha hb
theorem DE.lt(ha:DT X ρ a (.int i))(hb:DT X ρ b (.int j)):DE X ρ (.Compare a [.Lt] [b] pos) (.bl (decide (i<j))):=DE.cmpI Ij (zf _) ha hb
theorem DE.le(ha:DT X ρ a (.int i))(hb:DT X ρ b (.int j)):DE X ρ (.Compare a [.LtE] [b] pos) (.bl (decide (i<=j))):=DE.cmpI jam (zf _) ha hb
theorem DE.gt(ha:DT X ρ a (.int i))(hb:DT X ρ b (.int j)):DE X ρ (.Compare a [.Gt] [b] pos) (.bl (decide (j<i))):=DE.cmpI jan (zf _) ha hb
theorem DE.ge(ha:DT X ρ a (.int i))(hb:DT X ρ b (.int j)):DE X ρ (.Compare a [.GtE] [b] pos) (.bl (decide (j<=i))):=DE.cmpI jao (zf _) ha hb
noncomputable def D.sc:D->Option V
 |.non=>a3 .non
 |.bl b=>a3 (.bl b)
 |.int i=>a3 (.int i)
 |.str x=>a3 (.str x)
 |_=>a6
theorem D.sc_enc{K:k8d}{H:Hp}{d:D}{u v:V}(h:d.sc=a3 u)(q:Enc K H d v):v=u:=by cases d<;>simp[D.sc]at h<;>subst h<;>exact q
theorem DE.eqS{u v:V}(ha:DT X ρ a da)(hb:DT X ρ b db)(h1:da.sc=a3 u:=by rfl)(h2:db.sc=a3 v:=by rfl)(h:Dr u v=a5:=by rfl):DE X ρ (.Compare a [.Eq] [b] pos) (.bl (decide (u=v))):=λσ H Q R q =>
 (Jr jap peS peS (zf _)).to (ha σ H _ R λx H1 g1 e1=>hb σ H1 _ (R.grow g1) λy H2 g2 e2=>by
  cases D.sc_enc h1 e1;cases D.sc_enc h2 e2;exact⟨h,q _ H2 (g1.trans g2) rfl⟩)
theorem DE.neS{u v:V}(ha:DT X ρ a da)(hb:DT X ρ b db)(h1:da.sc=a3 u:=by rfl)(h2:db.sc=a3 v:=by rfl)(h:Dr u v=a5:=by rfl):DE X ρ (.Compare a [.NotEq] [b] pos) (.bl (!decide (u=v))):=λσ H Q R q =>
 (Jr jal peS peS (zf _)).to (ha σ H _ R λx H1 g1 e1=>hb σ H1 _ (R.grow g1) λy H2 g2 e2=>by
  cases D.sc_enc h1 e1;cases D.sc_enc h2 e2;exact⟨h,q _ H2 (g1.trans g2) rfl⟩)
theorem DB.eqS{u v:V}(ha:DT X ρ a da)(hb:DT X ρ b db)(h1:da.sc=a3 u:=by rfl)(h2:db.sc=a3 v:=by rfl)(h:Dr u v=a5:=by rfl):DB X ρ (.Compare a [.Eq] [b] pos) (decide (u=v)):=λσ H Q R q =>
 (Qf jap peS peS (zf _)).to (ha σ H _ R λx H1 g1 e1=>hb σ H1 _ (R.grow g1) λy H2 g2 e2=>by
  cases D.sc_enc h1 e1;cases D.sc_enc h2 e2;exact⟨h,_,rfl,q H2 (g1.trans g2)⟩)
theorem DB.neS{u v:V}(ha:DT X ρ a da)(hb:DT X ρ b db)(h1:da.sc=a3 u:=by rfl)(h2:db.sc=a3 v:=by rfl)(h:Dr u v=a5:=by rfl):DB X ρ (.Compare a [.NotEq] [b] pos) (!decide (u=v)):=λσ H Q R q =>
 (Qf jal peS peS (zf _)).to (ha σ H _ R λx H1 g1 e1=>hb σ H1 _ (R.grow g1) λy H2 g2 e2=>by
  cases D.sc_enc h1 e1;cases D.sc_enc h2 e2;exact⟨h,_,rfl,q H2 (g1.trans g2)⟩)
theorem Wn(i j:Int):decide (V.int i=V.int j)=decide (i=j):=by
 by_cases h:i=j
 .subst h;simp
 .rw[decide_eq_false h,decide_eq_false (λz=>h (V.int.inj z))]
theorem j2p(i j:Bool):decide (V.bl i=V.bl j)=(i==j):=by cases i<;>cases j<;>rfl
theorem j0s(i j:ah):decide (V.str i=V.str j)=decide (i=j):=by
 by_cases h:i=j
 .subst h;simp
 .rw[decide_eq_false h,decide_eq_false (λz=>h (V.str.inj z))]
theorem DE.eqI(ha:DT X ρ a (.int i))(hb:DT X ρ b (.int j)):DE X ρ (.Compare a [.Eq] [b] pos) (.bl (decide (i=j))):=(DE.eqS ha hb).eq (by rw[Wn])
theorem DE.neI(ha:DT X ρ a (.int i))(hb:DT X ρ b (.int j)):DE X ρ (.Compare a [.NotEq] [b] pos) (.bl (!decide (i=j))):=(DE.neS ha hb).eq (by rw[Wn])
theorem DB.eqI(ha:DT X ρ a (.int i))(hb:DT X ρ b (.int j)):DB X ρ (.Compare a [.Eq] [b] pos) (decide (i=j)):=(DB.eqS ha hb).eq (by rw[Wn])
theorem DB.neI(ha:DT X ρ a (.int i))(hb:DT X ρ b (.int j)):DB X ρ (.Compare a [.NotEq] [b] pos) (!decide (i=j)):=(DB.neS ha hb).eq (by rw[Wn])
theorem DE.neB{x y:Bool}(ha:DT X ρ a (.bl x))(hb:DT X ρ b (.bl y)):DE X ρ (.Compare a [.NotEq] [b] pos) (.bl (x != y)):=(DE.neS ha hb).eq (by rw[j2p];rfl)
theorem DB.neB{x y:Bool}(ha:DT X ρ a (.bl x))(hb:DT X ρ b (.bl y)):DB X ρ (.Compare a [.NotEq] [b] pos) (x != y):=(DB.neS ha hb).eq (by rw[j2p];rfl)
noncomputable def D.isNon:D->Bool
 |.non=>a5
 |_=>a4
theorem Ru{K:k8d}{H:Hp}{d:D}{v:V}(q:Enc K H d v):decide (v=V.non)=d.isNon:=by
 cases d with
 |non=>cases(show v=.non from q);rfl
 |bl b=>cases(show v=.bl b from q);rfl
 |int b=>cases(show v=.int b from q);rfl
 |str b=>cases(show v=.str b from q);rfl
 |tup l=>obtain⟨a,xs,e,_⟩:=q;subst e;rfl
 |lst l=>obtain⟨a,xs,e,_⟩:=q;subst e;rfl
 |dct ks l=>obtain⟨a,xs,ep,vs,e,_⟩:=q;subst e;rfl
 |sct k=>obtain⟨a,e,_⟩:=q;subst e;rfl
 |fn x l=>obtain⟨a,c,tx,cl,vs,e,_⟩:=q;subst e;rfl
theorem DE.isN{n:Nat}{p2:aK}(ha:DT X ρ a d):DE X ρ (.Compare a [.Is] [.Constant .none n p2] pos) (.bl d.isNon):=λσ H Q R q =>(jff (j5g peS)).to (ha σ H _ R λx H1 g1 e1=>q _ H1 g1 (by rw[Ru e1];rfl))
theorem DB.isN{n:Nat}{p2:aK}(ha:DT X ρ a d):DB X ρ (.Compare a [.Is] [.Constant .none n p2] pos) d.isNon:=λσ H Q R q =>(jf9 (j5g peS)).to (ha σ H _ R λx H1 g1 e1=>⟨_,rfl,by rw[Ru e1];exact q H1 g1⟩)
theorem DB.val{k:Bool}(ha:DT X ρ a (.bl k))(he:∀whole,fG a X.env whole=(do let v <-whole;fR a.pos;cj [v] (truthy v)):=by intro _;rfl):DB X ρ a k:=λσ H Q R q =>(jf7 peS he).to (ha σ H _ R λx H1 g1 e1=>⟨_,e1,q H1 g1⟩)
theorem DW.and1{k:Bool}(ha:DB X ρ a k):DW X ρ (.BoolOp .And [a] pos) k:=λσ H Q R q=>(jc2 ptS).to (ha σ H Q R q)
theorem DW.or1{k:Bool}(ha:DB X ρ a k):DW X ρ (.BoolOp .Or [a] pos) k:=λσ H Q R q=>(jf5 ptS).to (ha σ H Q R q)
theorem DW.and{k m:Bool}{rest:List aj}(ha:DB X ρ a k)(hb:k=a5->DW X ρ (.BoolOp .And (b::rest) pos) m):DW X ρ (.BoolOp .And (a::b::rest) pos) (k&&m):=λσ H Q R q =>
 (jf6 ptS pwS).to (ha σ H _ R λH1 g1=>by
  cases k with
  |false=>exact Bo (q H1 g1)
  |true=>exact Bm (hb rfl σ H1 Q (R.grow g1) λH2 g2=>q H2 (g1.trans g2)))
theorem DW.or{k m:Bool}{rest:List aj}(ha:DB X ρ a k)(hb:k=a4->DW X ρ (.BoolOp .Or (b::rest) pos) m):DW X ρ (.BoolOp .Or (a::b::rest) pos) (k || m):=λσ H Q R q =>
 (jj3 ptS pwS).to (ha σ H _ R λH1 g1=>by
  cases k with
  |true=>exact Bm (q H1 g1)
  |false=>exact Bo (hb rfl σ H1 Q (R.grow g1) λH2 g2=>q H2 (g1.trans g2)))
theorem DB.not{k:Bool}(ha:DB X ρ a k):DB X ρ (.UnaryOp .Not a pos) (!k):=λσ H Q R q=>(jf8 ptS).to (ha σ H _ R λH1 g1=>q H1 g1)
theorem DE.and{k m:Bool}{rest:List aj}(ha:DT X ρ a (.bl k))(hb:k=a5->DE X ρ (.BoolOp .And (b::rest) pos) (.bl m)):DE X ρ (.BoolOp .And (a::b::rest) pos) (.bl (k&&m)):=λσ H Q R q =>
 (jfh peS peS).to (ha σ H _ R λx H1 g1 e1=>⟨k,e1,by
  cases k with
  |false=>exact Bo (q _ H1 g1 rfl)
  |true=>exact Bm (hb rfl σ H1 Q (R.grow g1) λv H2 g2=>q v H2 (g1.trans g2))⟩)
theorem DE.ite{k:Bool}{d':D}(hc:DB X ρ c k)(ha:k=a5->DE X ρ a d)(hb:k=a4->DE X ρ b d'):DE X ρ (.IfExp c a b pos) (if k=a5 then d else d'):=λσ H Q R q =>
 (j82 ptS peS peS).to (hc σ H _ R λH1 g1=>by
  cases k with
  |true=>exact Bm (ha rfl σ H1 Q (R.grow g1) λv H2 g2 z=>q v H2 (g1.trans g2) (by rw[if_pos rfl];exact z))
  |false=>exact Bo (hb rfl σ H1 Q (R.grow g1) λv H2 g2 z=>q v H2 (g1.trans g2) (by rw[if_neg xf];exact z)))
theorem DA.nil:DA X ρ [] []:=λσ H Q R q=>jz.to (q [] H (j0.refl H) rfl)
theorem DA.cons(ha:DE X ρ a d)(hr:DA X ρ es ds)(hs:a8 (a::es) X.env=(a4,ay a X.env)::a8 es X.env:=by rfl):DA X ρ (a::es) (d::ds):=λσ H Q R q =>(jd peS paS hs).to (ha σ H _ R λv H1 g1 e1=>hr σ H1 _ (R.grow g1) λvs H2 g2 e2=>q _ H2 (g1.trans g2) ⟨v,vs,rfl,e1.mono (je g2),e2⟩)
theorem DTA.nil:DTA X ρ [] []:=λσ H Q R q=>jz.to (q [] H (j0.refl H) rfl)
theorem DTA.cons(ha:DT X ρ a d)(hr:DTA X ρ es ds)(hs:a8 (a::es) X.env=(a4,ay a X.env)::a8 es X.env:=by rfl):DTA X ρ (a::es) (d::ds):=λσ H Q R q =>(jd peS paS hs).to (ha σ H _ R λv H1 g1 e1=>hr σ H1 _ (R.grow g1) λvs H2 g2 e2=>q _ H2 (g1.trans g2) ⟨v,vs,rfl,e1.mono g2,e2⟩)
theorem DE.tup{n:Nat}{x1}(h:DA X ρ es ds)(hl:ds.length<=ak:=by simp only[X8,T7];decide):DE X ρ (.Tuple es x1 pos) (.tup ds):=λσ H Q R q =>(j59 paS).to (h σ H _ R λvs H1 g1 e1=>⟨by rw[e1.length];exact hl,λp hp=>q _ _ (g1.trans (j7 hp)) ⟨p,vs,rfl,.inl (.inl (by rw[j5 ((R.grow g1).fresh hp)];exact j9)),e1.mono (je (j7 hp))⟩⟩)
theorem DO.lst(h:DA X ρ es ds)(hl:ds.length<=ak:=by simp only[X8,T7];decide):DO X ρ (.List es pos) ds:=λσ H Q R q =>
 (j5d paS).to (h σ H _ R λvs H1 g1 e1=>⟨by rw[e1.length];exact hl,λp hp=>q p vs _ (g1.trans (j7 hp)) (g1.free hp) j9 (e1.mono λb o z=>by
  obtain⟨n,z⟩:=of_del z
  rw[j5];exact j7 hp b o z
  intro y
  rcases xq.mp y with y|y
  .subst y;rw[hp]at z;cases z
  .exact n y)⟩)
theorem j4.atI{K:k8d}{H:Hp}{xs:List V}(h:j4 K H ds xs)(q:atI ds i=a3 d):∃x,L2.atI xs i=a3 x/\Enc K H d x:=by
 unfold L2.atI at q ⊢;rw[h.length];cases z:ixN ds.length i with
 |none=>rw[z]at q;cases q
 |some k =>rw[z]at q;exact h.get q
noncomputable def cutD(ds:List D)(lo hi:Option Int):List D:=(ds.drop (HT.sIx ds.length 0 lo)).take (HT.sIx ds.length ds.length hi-HT.sIx ds.length 0 lo)
theorem j4.cut{K:k8d}{H:Hp}{xs:List V}(h:j4 K H ds xs)(lo hi:Option Int):j4 K H (cutD ds lo hi) (M6 xs lo hi):=by unfold cutD M6;rw[h.length];exact(h.drop _).take _
theorem Wl{K:k8d}{H1:Hp}{A:List aa}{ds:List D}{xs:List V}{p:aa}{o:HO}(hp:H1 p=a6)(e1:j4 K (del H1 A) ds xs):j4 K (del (upd H1 p o) (p::A)) ds xs:=e1.mono λb o z=>by
 obtain⟨n,z⟩:=of_del z;rw[j5];exact j7 hp b o z;intro y;rcases xq.mp y with y|y
 .subst y;rw[hp]at z;cases z
 .exact n y
theorem DO.rep(ha:DL X ρ a ds)(hb:DT X ρ b (.int i))(h1:-(2^63)<=i)(h2:i<2^63)(hl:ds.length*i.toNat<=ak):DO X ρ (.BinOp a .Mult b pos) (ae i.toNat ds).flatten:=λσ H Q R q =>
 (U7 jfm peS peS).to (ha σ H _ R λl xs H1 g1 m1 e1=>hb σ H1 _ (R.grow g1) λu H2 g2 e2 =>
  ⟨l,i,xs,rfl,e2,g2 _ _ m1,h1,h2,by rw[e1.length];exact hl,λp hp=>q p _ _ ((g1.trans g2).trans (j7 hp)) ((g1.trans g2).free hp) j9 (Wl hp ((e1.mono (je g2)).rep _))⟩)
theorem DE.lenT (ha:DT X ρ a (.tup ds)) (hm:X.mg "len" = a6) (hg:Gl X "len":=by rfl) (hs:a8 [a] X.env=[(a4,ay a X.env)]:=by rfl) {p2:aK}:DE X ρ (.Call (.Name "len" p2) [a] [] pos) (.int ds.length):=λσ H Q R q =>(vq M8 hg hm dS (jd peS jz hs) (by decide) (by decide) hs).to (ha σ H _ R λv H1 g1 ⟨l,xs,e,sq,en⟩=>⟨l,xs,by rw[e],.inr sq,q _ H1 g1 (by rw[en.length];rfl)⟩)
theorem DE.lenL (ha:DT X ρ a (.lst ds)) (hm:X.mg "len" = a6) (hg:Gl X "len":=by rfl) (hs:a8 [a] X.env=[(a4,ay a X.env)]:=by rfl) {p2:aK}:DE X ρ (.Call (.Name "len" p2) [a] [] pos) (.int ds.length):=λσ H Q R q =>(vq M8 hg hm dS (jd peS jz hs) (by decide) (by decide) hs).to (ha σ H _ R λv H1 g1 ⟨l,xs,e,sq,en⟩=>⟨l,xs,by rw[e],.inl sq,q _ H1 g1 (by rw[en.length];rfl)⟩)
end
def framed(sp:Sp):Sp:=λvs H Q E=>∃A:List aa,(∀a∈A,∃xs,H a=a3 (.lst xs))/\sp vs (del H A) (λv F=>(∀a∈A,F a=a6)->Q v (mrg A H F)) E
theorem FnOk.framed{P:au}{w:az}{K:k8d}{mg:k8g}{base:aD}{k:Nat}{f:aa}{fd:aL}{ps:List ah}{sp:Sp}(F:FnOk P w K mg base CX0 k f fd ps sp) :
  FnOk P w K mg base CX0 k f fd ps (framed sp) where
 len:=λvs H Q E ⟨A,_,h⟩=>F.len vs _ _ _ h
 run:=by
  rintro A0 outer s H args us vs Q E hr e0 hb rv ⟨A,hA,h⟩;have nd:∀{b:aa},H b=a6->del H A b=a6:=λ{b} q=>by
   by_cases z:b∈A
   .exact qp z
   .rw[j5 z];exact q
  have out:∀{b:aa}{o:HO},H b=a3 o->(∀ys,o≠.lst ys)->del H A b=a3 o:=λ{b o} q z=>by rw[j5];exact q;intro y;obtain⟨ys,e'⟩:=hA b y;rw[q]at e';cases e';exact z ys rfl
  have e1:Env0 P w K mg base A0 outer s (del H A):=⟨e0.frames,e0.mod,λb o q=>⟨(e0.bs b o q).1,nd (e0.bs b o q).2⟩,e0.bsz,e0.funs,λb hb=>nd (e0.frf b hb),
   λa o q=>by
    obtain⟨_,q⟩:=of_del q
    exact jj.stay (e0.hok a o q) (λb u _ z=>z) (λb z=>out z λ_ y=>by cases y) (λb xs z=>out z λ_ y=>by cases y) (λb _ _ z=>out z λ_ y=>by cases y),e0.bare⟩
  refine bf (F.run A0 outer s (del H A) args us vs _ E hr e1 hb rv h) λr s' hq=>?_;cases r with
  |error e=>exact(show False from hq).elim
  |ok fl =>
   cases fl with
   |next=>exact(show False from hq).elim
   |brk=>exact(show False from hq).elim
   |cont=>exact(show False from hq).elim
   |ret u =>
    obtain⟨v,H',os,bare,un,hok',rel,q⟩:=(show CE outer P w (del H A) s _ u s' from hq)
    have kept:∀a∈A,∃o,s.heap.get? a=a3 o/\s'.heap.get? a=a3 o/\H' a=a6:=λa ha=>by
     obtain⟨xs,e⟩:=hA a ha;obtain⟨_,its,n,_,z⟩:=(show jj P w H s.heap a (.lst xs)from e0.hok _ _ e)
     have nf:a∉frs outer:=λy=>by rw[e0.frf a y]at e;cases e
     exact⟨_,z,un.keep a _ z (qp ha) nf (by simp),un.free a _ z (qp ha) (by simp)⟩
    have hF:∀a∈A,H' a=a6:=λa ha=>let ⟨_,_,_,z⟩:=kept a ha;z;have outF:∀{b:aa}{o:HO},H' b=a3 o->b∉A:=λ{b o} e z=>by rw[hF b z]at e;cases e
    refine⟨v,mrg A H H',os,bare,?_,λa o e=>?_,rel,q hF⟩
    .exact{
      keep:=λb o e n=>un.keep b o e (nd n)
      slot:=λb o e n=>un.slot b o e (nd n)
      free:=λb o e n hx=>by
       by_cases z:b∈A
       .rw[Jd z];exact n
       .rw[jm z];exact un.free b o e (nd n) hx
      there:=un.there
      tups:=λb xs e=>by
       have z:=un.tups b xs (out e λ_ y=>by cases y)
       rw[jm (outF z)];exact z
      frzs:=λb o u e=>by
       have z:=un.frzs b o u (out e λ_ y=>by cases y)
       rw[jm (outF z)];exact z
      tbls:=λb ps e=>by
       obtain⟨more,z⟩:=un.tbls b ps (out e λ_ y=>by cases y)
       exact⟨more,by rw[jm (outF z)];exact z⟩ }
    .by_cases z:a∈A
     .rw[Jd z]at e;obtain⟨xs,e'⟩:=hA a z;rw[e']at e;cases e;obtain⟨hl,its,n,r,y⟩:=(show jj P w H s.heap a (.lst xs)from e0.hok _ _ e')
      obtain⟨o',q1,q2,_⟩:=kept a z;rw[y]at q1;cases q1;exact⟨hl,its,n,r,q2⟩
     .rw[jm z]at e;refine jj.stay (hok' a o e) (λb u _ q=>q) (λb q=>?_) (λb xs q=>?_) (λb _ _ q=>?_)
      .rw[jm (outF q)];exact q
      .rw[jm (outF q)];exact q
      .rw[jm (outF q)];exact q
def spP(K:k8d)(S:List D->D->Prop):Sp:=λvs H Q _=>∃A ds d,TabOk K H/\(∀a∈A,∃xs,H a=a3 (.lst xs))/\j4 K (del H A) ds vs/\S ds d/\∀v H',j0 H H'->Enc K (del H' A) d v->Q v H'
def spF(K:k8d)(S:List D->List D->Prop):Sp:=λvs H Q _=>∃A ds l,TabOk K H/\(∀a∈A,∃xs,H a=a3 (.lst xs))/\j4 K (del H A) ds vs/\S ds l /\
 ∀a xs H',j0 H H'->H a=a6->H' a=a3 (.lst xs)->j4 K (del H' (a::A)) l xs->Q (.ref a) H'
def jkz(K:k8d)(S:List D->D->Prop):Sp:=λvs H Q _=>∃ds d,TabOk K H/\j4 K H ds vs/\S ds d/\∀v H',j0 H H'->Enc K H' d v->Q v H'
def jl0(K:k8d)(S:List D->List D->Prop):Sp:=λvs H Q _=>∃ds l,TabOk K H/\j4 K H ds vs/\S ds l/\∀a xs H',j0 H H'->H a=a6->H' a=a3 (.lst xs)->j4 K (del H' [a]) l xs->Q (.ref a) H'
section
variable{P:au}{w:az}{K:k8d}{mg:k8g}{base:aD}{k:Nat}{f:aa}{fd:aL}{ps:List ah}
theorem FnOk.toP{S:List D->D->Prop}(F:FnOk P w K mg base CX0 k f fd ps (jkz K S)):FnOk P w K mg base CX0 k f fd ps (spP K S) :=
 F.framed.imp λvs H Q E ⟨A,ds,d,tb,hA,en,hS,q⟩=>⟨A,hA,ds,d,tb.del hA,en,hS,λv F g e hF=>q v _ (Bb g) (by rw[Ye hF];exact e)⟩
theorem FnOk.toF{S:List D->List D->Prop}(F:FnOk P w K mg base CX0 k f fd ps (jl0 K S)):FnOk P w K mg base CX0 k f fd ps (spF K S) :=
 F.framed.imp λvs H Q E ⟨A,ds,l,tb,hA,en,hS,q⟩=>⟨A,hA,ds,l,tb.del hA,en,hS,λa xs F g n e l' hF=>by
  have na:a∉A:=λz=>by rw[hF a z]at e;cases e
  refine q a xs _ (Bb g) (by rw[j5 na]at n;exact n) (by rw[jm na];exact e) (l'.mono λb o z=>?_)
  obtain⟨n1,z⟩:=of_del z
  have nb:b∉A:=λy=>by rw[hF b y]at z;cases z
  rw[j5,jm nb];exact z
  intro y
  rcases xq.mp y with y|y
  .exact n1 (by rw[y];exact xn.mpr rfl)
  .exact nb y⟩
end
noncomputable def Cq:List ah:=["dearest_way","cost_on_whole","worst_table","worst_plan","foe_answer","whole_table","whole_plan","mean_price"]
noncomputable def kG(us ws:List a9):List a9:=match ws with
 |[w]=>us++[w]
 |_=>[]
noncomputable def kGV(vs zs:List V):List V:=match zs with
 |[z]=>vs++[z]
 |_=>[]
def Dfl(K:k8d)(x:ah)(fd:aL)(ps:List ah):Prop:=x∈Cq->Binds K fd ps [.none]/\KBinds K fd ps ["prices"] kG kGV
structure Cal(X:Cx)(x:ah)(sp:Sp):Prop where
 ex:∃(k:Nat)(f:aa)(fd:aL)(ps:List ah),FnOk X.prog X.w X.K X.mg X.base CX0 k f fd ps sp/\Room (k+1) X.A/\X.mg x=a3 (.ref f)/\W.keepIn X.K (.ref f)=a5/\Binds X.K fd ps []/\Dfl X.K x fd ps
section
variable{X:Cx}{ρ:Rho}{e a:aj}{es:List aj}{d:D}{ds l:List D}{pos p:aK}{x:ah}
theorem DE.call{S:List D->D->Prop}(c:Cal X x (spP X.K S))(ha:DA X ρ (e::es) ds)(hS:S ds d)(hg:Gl X x:=by rfl)(hdb:(x==k8h)=a4:=by decide)
  (he:a8 (e::es) X.env=(a4,ay e X.env)::a8 es X.env:=by rfl) (hpl:(aM pos (a8 es X.env)).any (·.1)=a4:=by rfl):DE X ρ (.Call (.Name x p) (e::es) [] pos) d:=λσ H Q R q=>by
 obtain⟨k,f,fd,ps,F,hr,hm,hk,hb,_⟩:=c.ex;refine(Mt F (hr.mono (Py _)) hg hm hk hb .nil Fd paS hdb he hpl).to (ha σ H _ R λvs H1 g1 e1=>?_);show spP X.K S (vs++[]) H1 Q E0;rw[Xv];exact⟨owns ρ,ds,d,R.tb.mono g1,(R.grow g1).owned,e1,hS,λv H2 g2 z=>q v H2 (g1.trans g2) z⟩
theorem DT.call{S:List D->D->Prop}(c:Cal X x (spP X.K S))(ha:DTA X ρ (e::es) ds)(hS:S ds d)(hg:Gl X x:=by rfl)(hdb:(x==k8h)=a4:=by decide)
  (he:a8 (e::es) X.env=(a4,ay e X.env)::a8 es X.env:=by rfl) (hpl:(aM pos (a8 es X.env)).any (·.1)=a4:=by rfl):DT X ρ (.Call (.Name x p) (e::es) [] pos) d:=λσ H Q R q=>by
 obtain⟨k,f,fd,ps,F,hr,hm,hk,hb,_⟩:=c.ex;refine(Mt F (hr.mono (Py _)) hg hm hk hb .nil Fd paS hdb he hpl).to (ha σ H _ R λvs H1 g1 e1=>?_);show spP X.K S (vs++[]) H1 Q E0;rw[Xv];exact⟨[],ds,d,R.tb.mono g1,(λa h=>nomatch h),by rw[Jw];exact e1,hS,λv H2 g2 z=>q v H2 (g1.trans g2) (by rw[Jw]at z;exact z)⟩
theorem DO.call{S:List D->List D->Prop}(c:Cal X x (spF X.K S))(ha:DA X ρ (e::es) ds)(hS:S ds l)(hg:Gl X x:=by rfl)(hdb:(x==k8h)=a4:=by decide)
  (he:a8 (e::es) X.env=(a4,ay e X.env)::a8 es X.env:=by rfl) (hpl:(aM pos (a8 es X.env)).any (·.1)=a4:=by rfl):DO X ρ (.Call (.Name x p) (e::es) [] pos) l:=λσ H Q R q=>by
 obtain⟨k,f,fd,ps,F,hr,hm,hk,hb,_⟩:=c.ex;refine(Mt F (hr.mono (Py _)) hg hm hk hb .nil Fd paS hdb he hpl).to (ha σ H _ R λvs H1 g1 e1=>?_);show spF X.K S (vs++[]) H1 Q E0;rw[Xv];exact⟨owns ρ,ds,l,R.tb.mono g1,(R.grow g1).owned,e1,hS,λa xs H2 g2 n m z=>q a xs H2 (g1.trans g2) (g1.free n) m z⟩
end
inductive Rt where
 |val (d:D)
 |fresh (ds:List D)
noncomputable def Rt.d:Rt->D
 |.val d=>d
 |.fresh l=>.lst l
structure Po where
 nx:Rho->Prop
 rt:Rt->Prop
 bk:Rho->Prop:=λ_=>False
 ct:Rho->Prop:=λ_=>False
 ex:ah->Rho->Prop:=λ_ _=>False
structure Fl(N:aa->Prop)(H:Hp)(h:aD)(e:aa)(C:a9):Prop where
 new:∀b,N b->b≠e
 free:H e=a6
 obj:∃(oe:d8)(vs:Array a9)(a0:a9),h.get? e=a3 oe/\oe.cls=C/\oe.data=.fields vs/\vs[0]?=a3 a0 /\
  (vs[1]?=a3 .none\/∃(T:aa)(oT:d8)(ts:Array a9),vs[1]?=a3 (.ref T)/\T≠e/\h.get? T=a3 oT/\oT.data=.fields ts/\ts[3]?=a3 .none/\H T=a6/\∀b,N b->b≠T)
def Old(X:Cx)(pins:k8f)(b:aa):Prop:=(∃o,X.s₀.heap.get? b=a3 o/\b∉X.ex)\/(∃p∈X.pn++pins,p.1=b)\/b=X.env.locals\/∃x,X.env.cells.lookup x=a3 b
def Ld(X:Cx)(σ:St)(H:Hp)(x:ah):Prop:=∀(pins:k8f) (H':Hp) (s':af) (e:aa) (C:a9),Inv X pins σ H' s'->j0 H H'->X.mg x=a3 C->Fl (Old X pins) H' s'.heap e C->X.xe (.ref e) s'
def Fr0(ρ ρ':Rho)(H H':Hp):Prop:=j0 (del H (owns ρ)) (del H' (owns ρ'))
def Le(K:k8d)(ρ:Rho)(H H':Hp)(v:V):Rt->Prop
 |.val d=>j0 (del H (owns ρ)) H'/\Enc K H' d v
 |.fresh ds=>∃a xs,v=.ref a/\j0 (del H (owns ρ)) (del H' [a])/\H' a=a3 (.lst xs)/\j4 K (del H' [a]) ds xs
structure EndsOk(X:Cx)(ρ:Rho)(H:Hp)(P:Po)(E:Ends):Prop where
 nx:∀ρ' σ' H',P.nx ρ'->Rep X.K ρ' σ' H'->Fr0 ρ ρ' H H'->E.nx σ' H'
 bk:∀ρ' σ' H',P.bk ρ'->Rep X.K ρ' σ' H'->Fr0 ρ ρ' H H'->E.bk σ' H'
 ct:∀ρ' σ' H',P.ct ρ'->Rep X.K ρ' σ' H'->Fr0 ρ ρ' H H'->E.ct σ' H'
 rt:∀r v H',P.rt r->Le X.K ρ H H' v r->E.rt v H'
 ex:∀x ρ' σ' H',P.ex x ρ'->Rep X.K ρ' σ' H'->Fr0 ρ ρ' H H'->Ld X σ' H' x
theorem Le.step{K:k8d}{ρ ρ1:Rho}{H H1 H':Hp}{v:V}{r:Rt}(f:Fr0 ρ ρ1 H H1)(h:Le K ρ1 H1 H' v r):Le K ρ H H' v r:=by
 cases r with
 |val d=>exact⟨f.trans h.1,h.2⟩
 |fresh ds=>obtain⟨a,xs,e,g,m,l⟩:=h;exact⟨a,xs,e,f.trans g,m,l⟩
theorem EndsOk.step{X:Cx}{ρ ρ1:Rho}{H H1:Hp}{P:Po}{E:Ends}(h:EndsOk X ρ H P E)(f:Fr0 ρ ρ1 H H1):EndsOk X ρ1 H1 P E :=
 ⟨λρ' σ' H' n R g=>h.nx ρ' σ' H' n R (f.trans g),λρ' σ' H' n R g=>h.bk ρ' σ' H' n R (f.trans g),λρ' σ' H' n R g=>h.ct ρ' σ' H' n R (f.trans g),λr v H' n g=>h.rt r v H' n (Le.step f g),λx ρ' σ' H' n R g=>h.ex x ρ' σ' H' n R (f.trans g)⟩
theorem Fr0.grow{ρ:Rho}{H H':Hp}(g:j0 H H'):Fr0 ρ ρ H H':=je g
theorem Fr0.refl(ρ:Rho)(H:Hp):Fr0 ρ ρ H H:=j0.refl _
theorem Fr0.drop{ρ ρ':Rho}{H:Hp}(h:∀b∈owns ρ',b∈owns ρ):Fr0 ρ ρ' H H:=vo h
theorem Fr0.new{ρ:Rho}{H H':Hp}{i:Nat}{a:aa}{ds:List D}{K:k8d}{σ:St}(R:Rep K ρ σ H)(g:j0 H H')(n:H a=a6):Fr0 ρ (ρ.set i (.own a ds)) H H':=λb o q=>by
 obtain⟨nb,q⟩:=of_del q;rw[j5];exact g b o q;intro z;rcases(Js (ds:=ds) (i:=i) R.nd (R.fresh n)).2 b z with e|z
 .subst e;rw[n]at q;cases q
 .exact nb z
def DS(X:Cx)(ρ:Rho)(st:aQ)(P:Po):Prop:=∀σ H E,Rep X.K ρ σ H->EndsOk X ρ H P E->j7n X st E σ H
def DSs(X:Cx)(ρ:Rho)(sts:List aQ)(P:Po):Prop:=∀σ H E,Rep X.K ρ σ H->EndsOk X ρ H P E->Zh X sts E σ H
section
variable{X:Cx}{ρ:Rho}{e a b c:aj}{es:List aj}{st:aQ}{rest sa sb body:List aQ}{P:Po}{d:D}{ds ds':List D}{pos p p1 p2 p3:aK}{x:ah}{i:Nat}
theorem DSs.nil(h:P.nx ρ):DSs X ρ [] P:=λσ H E R q=>j20.to (q.nx ρ σ H h R (Fr0.refl ρ H))
theorem DSs.cons{N:Rho->Prop}(h1:DS X ρ st { P with nx:=N })(h2:∀ρ1,N ρ1->DSs X ρ1 rest P):DSs X ρ (st::rest) P:=λσ H E R q =>(zu psS J7).to (h1 σ H { E with nx:=Zh X rest E } R ⟨λρ' σ' H' n R' f=>h2 ρ' n σ' H' E R' (q.step f),q.bk,q.ct,q.rt,q.ex⟩)
theorem DSs.freeze(i:Nat){l:aa}(h:ρ[i]?=a3 (.own l ds))(h2:DSs X (ρ.set i (.val (.lst ds))) body P):DSs X ρ body P:=λσ H E R q =>h2 σ H E (R.freeze h) (q.step (.drop λb hb=>(jf rfl).subset hb))
theorem DSs.forget(i:Nat)(h2:DSs X (ρ.set i .un) body P):DSs X ρ body P:=λσ H E R q=>by
 have z:=R.set_un (i:=i) (v:=a6);have R':Rep X.K (ρ.set i .un) σ H:=by
  have q:=R.set_un (i:=i) (v:=(σ[i]?).join);have e:σ.set i ((σ[i]?).join)=σ:=by
   apply Tp;intro j;rw[de];split
   .rename_i h;subst h;split
    .rename_i h;rw[kh h];rfl
    .rename_i h;rw[Xp nofun]
   .rfl
  rw[e]at q;exact q
 exact h2 σ H E R' (q.step (.drop λb hb=>(jf rfl).subset hb))
theorem DS.set(i:Nat)(he:DE X ρ e d)(h:P.nx (ρ.set i (.val d)))(hN:X.N.Nodup)(hi:X.N[i]?=a3 x:=by rfl)(hx:Loc X.env.scope x:=by first|exact aV rfl|exact bj rfl)
  (hs:aE e (a3 (.Name x p)) pos.line X.env=pure a4:=by rfl) (hf:X.fn x=a5\/X.env.scope.names.lookup x=a3 .local:=by first|exact .inl rfl|exact .inr rfl):DS X ρ (.Assign [.Name x p] e pos) P:=λσ H E R q =>
 (Zf hN hi hx peS hs hf).to (he σ H _ R λv H1 g1 e1=>q.nx _ _ H1 h ((R.grow g1).set_val e1) (j0.trans (Fr0.grow g1) (Fr0.drop λb hb=>(jf rfl).subset hb)))
theorem DS.setO(i:Nat)(he:DO X ρ e ds)(h:∀l,P.nx (ρ.set i (.own l ds)))(hN:X.N.Nodup)(hi:X.N[i]?=a3 x:=by rfl)(hx:Loc X.env.scope x:=by first|exact aV rfl|exact bj rfl)
  (hs:aE e (a3 (.Name x p)) pos.line X.env=pure a4:=by rfl) (hf:X.fn x=a5\/X.env.scope.names.lookup x=a3 .local:=by first|exact .inl rfl|exact .inr rfl):DS X ρ (.Assign [.Name x p] e pos) P:=λσ H E R q =>
 (Zf hN hi hx peS hs hf).to (he σ H _ R λl xs H1 g1 n m e1=>q.nx _ _ H1 (h l) (R.set_own g1 n m e1) (.new R g1 n))
theorem DS.if{k:Bool}(hc:DB X ρ c k)(ha:k=a5->DSs X ρ sa P)(hb:k=a4->DSs X ρ sb P):DS X ρ (.If c sa sb pos) P:=λσ H E R q =>
 (Ny ptS J7 J7).to (hc σ H _ R λH1 g1=>by
  cases k with
  |true=>exact Bm (ha rfl σ H1 E (R.grow g1) (q.step (.grow g1)))
  |false=>exact Bo (hb rfl σ H1 E (R.grow g1) (q.step (.grow g1))))
theorem DS.ret(he:DT X ρ e d)(h:P.rt (.val d)):DS X ρ (.Return (a3 e) pos) P:=λσ H E R q =>(Uy peS).to (he σ H _ R λv H1 g1 e1=>q.rt _ v H1 h ⟨ju.trans g1,e1⟩)
theorem DS.retO(he:DO X ρ e ds)(h:P.rt (.fresh ds)):DS X ρ (.Return (a3 e) pos) P:=λσ H E R q =>
 (Uy peS).to (he σ H _ R λl xs H1 g1 n m e1=>q.rt _ _ H1 h ⟨l,xs,rfl,(λb o z=>by
  obtain⟨nb,z⟩:=of_del z
  rw[j5];exact g1 b o z
  intro y;rw[xn.mp y,n]at z;cases z),m,e1.mono (vo λb hb=>by rw[xn.mp hb];exact xm ..)⟩)
theorem DS.retV(k:Nat){l:aa}(hk:ρ[k]?=a3 (.own l ds))(h:P.rt (.fresh ds))(hN:X.N[k]?=a3 x:=by rfl)(hv:Vis X.env.scope x:=by first|exact aV rfl|exact bj (aV rfl)|exact bj (bj rfl))
  (hd:(x==k8h)=a4:=by decide) (hcd:(x==k8i)=a4:=by decide):DS X ρ (.Return (a3 (.Name x p)) pos) P:=λσ H E R q=>by
 obtain⟨hs,xs,m,en⟩:=R.own k l ds hk;have g:j0 (del H (owns ρ)) (del H [l]):=vo λb hb=>by rw[xn.mp hb];exact Qo hk
 exact(Uy (J8 hN hv hd hcd)).to ⟨_,hs,q.rt _ _ H h ⟨l,xs,rfl,g,m,en.mono g⟩⟩
theorem DS.expr(he:DT X ρ e d)(h:P.nx ρ)(hs:aE e a6 pos.line X.env=pure a4:=by rfl):DS X ρ (.Expr e pos) P:=λσ H E R q =>(Uz peS hs).to (he σ H _ R λv H1 g1 e1=>q.nx ρ σ H1 h (R.grow g1) (.grow g1))
theorem j0m{σ:St}{H H':Hp}{l:aa}{o:HO}(hk:ρ[i]?=a3 (.own l ds))(g:j0 H H'):Fr0 ρ (ρ.set i (.own l ds')) H (upd H' l o):=by unfold Fr0;rw[Vz hk,W3 (Qo hk)];exact je g
theorem DS.append(i:Nat){l:aa}(hk:ρ[i]?=a3 (.own l ds))(he:DE X ρ e d)(hl:ds.length<ak)(h:P.nx (ρ.set i (.own l (ds++[d]))))
  (hN:X.N[i]?=a3 x:=by rfl) (hv:Vis X.env.scope x:=by first|exact aV rfl|exact bj (aV rfl)|exact bj (bj rfl)) (hd:(x==k8h)=a4:=by decide) (hcd:(x==k8i)=a4:=by decide)
  (hst:a8 [e] X.env=[(a4,ay e X.env)]:=by rfl) (hline:(p1.endLine==p2.line)=a5:=by rfl)
  (hbase:aP (.Name x p) "append" X.env (ay (.Name x p) X.env)=ay (.Name x p) X.env:=by rfl) (hfew:((aM p2 (a8 [e] X.env)).all (λx=>!x.1)&&(b0 p2 (aJ [] X.env)).all (λx=>x.1.isSome)
   && decide (([e]:List aj).length+([]:List ba).length+(if ([]:List ba).isEmpty then 0 else 1)<30))=a5:=by rfl)
  (hs:aE (.Call (.Attribute (.Name x p) "append" p1) [e] [] p2) a6 pos.line X.env=pure a4:=by rfl) :
  DS X ρ (.Expr (.Call (.Attribute (.Name x p) "append" p1) [e] [] p2) pos) P:=λσ H E R q=>by
 obtain⟨hσ,xs,m,en⟩:=R.own i l ds hk;refine(Uz (Fb bV gY PySem.F.type_list_append Lz (J8 hN hv hd hcd) (jd peS jz hst) hbase hfew hline hst rfl) hs).to ?_;refine⟨_,hσ,.inl ⟨rfl,xs,.inl (.inl m)⟩,he σ H _ R λv H1 g1 e1=>⟨l,xs,v,rfl,rfl,g1 _ _ m,by rw[en.length];exact hl,?_⟩⟩;exact q.nx _ σ _ h ((R.grow g1).upd_own hk ((en.mono (je g1)).append (.one e1))) (j0m (σ:=σ) hk g1)
theorem DS.extend(i:Nat){l:aa}(hk:ρ[i]?=a3 (.own l ds))(he:DO X ρ e ds')(hl:ds.length+ds'.length<=ak)(h:P.nx (ρ.set i (.own l (ds++ds'))))
  (hN:X.N[i]?=a3 x:=by rfl) (hv:Vis X.env.scope x:=by first|exact aV rfl|exact bj (aV rfl)|exact bj (bj rfl)) (hd:(x==k8h)=a4:=by decide) (hcd:(x==k8i)=a4:=by decide)
  (hst:a8 [e] X.env=[(a4,ay e X.env)]:=by rfl) (hline:(p1.endLine==p2.line)=a5:=by rfl)
  (hbase:aP (.Name x p) "extend" X.env (ay (.Name x p) X.env)=ay (.Name x p) X.env:=by rfl) (hfew:((aM p2 (a8 [e] X.env)).all (λx=>!x.1)&&(b0 p2 (aJ [] X.env)).all (λx=>x.1.isSome)
   && decide (([e]:List aj).length+([]:List ba).length+(if ([]:List ba).isEmpty then 0 else 1)<30))=a5:=by rfl)
  (hs:aE (.Call (.Attribute (.Name x p) "extend" p1) [e] [] p2) a6 pos.line X.env=pure a4:=by rfl) :
  DS X ρ (.Expr (.Call (.Attribute (.Name x p) "extend" p1) [e] [] p2) pos) P:=λσ H E R q=>by
 obtain⟨hσ,xs,m,en⟩:=R.own i l ds hk;refine(Uz (Fb bV gX PySem.F.type_list_extend j5n (J8 hN hv hd hcd) (jd peS jz hst) hbase hfew hline hst rfl) hs).to ?_;refine⟨_,hσ,.inl ⟨rfl,xs,.inl (.inl m)⟩,he σ H _ R λb ys H1 g1 n1 m1 e1=>⟨l,b,xs,ys,rfl,rfl,g1 _ _ m,m1,by rw[en.length,e1.length];exact hl,?_⟩⟩;exact q.nx _ σ _ h ((R.grow g1).upd_own hk ((en.mono (je g1)).append (e1.mono (vo λc hc=>xg _ hc)))) (j0m (σ:=σ) hk g1)
def Yy(K:k8d)(F:Hp)(J:It)(ds:List D):Prop:=∀(i:Nat)(H:Hp)(A:List aa),j0 F (del H A)->(∀a∈A,H a≠a6) ->
 (i<ds.length->J.go i H)/\(ds.length<=i->J.stop i H)/\∀x H',J.yld i H x H'->j0 H H'/\∀d,ds[i]?=a3 d->Enc K (del H' A) d x
def DI(X:Cx)(ρ:Rho)(tg it:aj)(ds:List D):Prop:=∀σ H R,Rep X.K ρ σ H->(∀J H',j0 H H'->Yy X.K (del H' (owns ρ)) J ds->R J H')->Eu X tg it σ H R
variable{tg it:aj}
theorem j5z{K:k8d}{F:Hp}{l:aa}{xs:List V}(sq:SqL K F l xs)(en:j4 K F ds xs):Yy K F (Itl K l) ds:=λi H A g hA=>by
 have sq':SqL K H l xs:=ju.seq (g.seq sq);refine⟨λh=>?_,λh=>⟨xs,sq',by rw[en.length];exact h⟩,λx H' ⟨e,y⟩=>?_⟩
 .obtain⟨v,hv,_⟩:=en.get (kh h);exact⟨xs,v,sq',hv⟩
 .subst e;refine⟨j0.refl _,λd hd=>?_⟩;obtain⟨v,hv,ev⟩:=en.get hd;have e:=y xs sq';rw[hv]at e;cases e;exact ev.mono g
theorem j8g{K:k8d}{F:Hp}{l:aa}{xs:List V}(sq:SqT K F l xs)(en:j4 K F ds xs):Yy K F (Itt K l) ds:=λi H A g hA=>by
 have sq':SqT K H l xs:=ju.seqT (g.seqT sq);refine⟨λh=>?_,λh=>⟨xs,sq',by rw[en.length];exact h⟩,λx H' ⟨e,y⟩=>?_⟩
 .obtain⟨v,hv,_⟩:=en.get (kh h);exact⟨xs,v,sq',hv⟩
 .subst e;refine⟨j0.refl _,λd hd=>?_⟩;obtain⟨v,hv,ev⟩:=en.get hd;have e:=y xs sq';rw[hv]at e;cases e;exact ev.mono g
theorem DI.lst(h:DE X ρ it (.lst ds)):DI X ρ tg it ds:=λσ H R r q=>(jc6 peS).to (h σ H _ r λv H1 g1 ⟨l,xs,e,sq,en⟩=>⟨l,e,⟨xs,ju.seq sq⟩,q _ H1 g1 (j5z sq en)⟩)
theorem DI.tup(h:DE X ρ it (.tup ds)):DI X ρ tg it ds:=λσ H R r q=>(jfd peS).to (h σ H _ r λv H1 g1 ⟨l,xs,e,sq,en⟩=>⟨l,e,⟨xs,ju.seqT sq⟩,q _ H1 g1 (j8g sq en)⟩)
noncomputable def upto(lo:Int)(n:Nat):List D:=(aw n).map λk=>D.int (lo+(k:Nat))
theorem Fj{K:k8d}{F:Hp}(lo:Int)(n:Nat):Yy K F (Itr lo n) (upto lo n):=λi H A g hA=>by
 have hl:(upto lo n).length=n:=by unfold upto;rw[kj,Xi]
 rw[hl];refine⟨λh=>h,λh=>h,λx H' ⟨e,y⟩=>?_⟩;subst e;refine⟨j0.refl _,λd hd=>?_⟩;unfold upto at hd;rw[X3]at hd;cases z:(aw n)[i]? with
 |none=>rw[z]at hd;cases hd
 |some k =>
  rw[z]at hd;have ek:k=i:=by have:=Pj (n:=n) (i:=i) (by have:=(X7.mp z).1;rwa [Xi]at this);rw[this]at z;exact(av z).symm
  subst ek;cases hd;exact y
theorem DI.range1 {n:Int} (h:DT X ρ a (.int n)) (hm:X.mg "range" = a6) (h1:-(2^62)<=n) (h2:n<2^62) (hg:Gl X "range":=by rfl) (hs:a8 [a] X.env=[(a4,ay a X.env)]:=by rfl):DI X ρ tg (.Call (.Name "range" p) [a] [] pos) (upto 0 n.toNat):=λσ H R r q =>(j57 hg hm (jd peS jz hs) hs).to (h σ H _ r λv H1 g1 e=>⟨n,by rw[show v=.int n from e],h1,h2,q _ H1 g1 (Fj 0 _)⟩)
theorem DI.range2 {m n:Int} (h:DT X ρ a (.int m)) (h':DT X ρ b (.int n)) (hm:X.mg "range" = a6) (h1:-(2^62)<=m) (h2:m<2^62) (h3:-(2^62)<=n) (h4:n<2^62) (hg:Gl X "range":=by rfl) (hs:a8 [a,b] X.env=[(a4,ay a X.env),(a4,ay b X.env)]:=by rfl)
  (hs2:a8 [b] X.env=[(a4,ay b X.env)]:=by rfl) (hs3:a8 [a,b] X.env=(a4,ay a X.env)::a8 [b] X.env:=by rfl):DI X ρ tg (.Call (.Name "range" p) [a,b] [] pos) (upto m (n-m).toNat):=λσ H R r q =>
 (j56 hg hm (jd peS (jd peS jz hs2) hs3) hs hs2).to (h σ H _ r λv H1 g1 e=>h' σ H1 _ (r.grow g1) λu H2 g2 e2=>⟨m,n,by rw[show v=.int m from e,show u=.int n from e2],⟨h1,h2,h3,h4⟩,q _ H2 (g1.trans g2) (Fj m _)⟩)
def j7o(X:Cx)(tg:aj):TG:=λv σ H Q=>∀pins s u,Inv X pins σ H s->RelV v u->ar (ax X.prog X.w) X.A (cL tg X.env u) (λ_ s'=>∃σ' H',Inv X pins σ' H' s'/\Q σ' H') X.xe s
theorem pgS:PG X tg (j7o X tg):=λpins s σ H v u Q I r h=>h pins s u I r
theorem PG.to{t:TG}{σ:St}{H:Hp}{v:V}{Q:St->Hp->Prop}(h:PG X tg t)(q:t v σ H Q):j7o X tg v σ H Q:=λpins s u I r=>h pins s σ H v u Q I r q
def DG(X:Cx)(ρ:Rho)(tg:aj)(d:D)(ρ':Rho):Prop:=(∀b∈owns ρ',b∈owns ρ)/\∀σ H v Q,Rep X.K ρ σ H->Enc X.K (del H (owns ρ)) d v->(∀σ',Rep X.K ρ' σ' H->Q σ' H)->j7o X tg v σ H Q
theorem DG.name(i:Nat)(hN:X.N.Nodup)(hi:X.N[i]?=a3 x:=by rfl)(hx:Loc X.env.scope x:=by first|exact aV rfl|exact bj rfl)(hf:X.fn x=a5\/X.env.scope.names.lookup x=a3 .local:=by first|exact .inl rfl|exact .inr rfl):DG X ρ (.Name x p) d (ρ.set i (.val d)) :=
 ⟨λb hb=>(jf rfl).subset hb,λσ H v Q R en q=>(Zv hN hi hx hf).to (q _ (R.set_val en))⟩
theorem DS.for(W:Nat->Rho->Prop)(hi:DI X ρ tg it ds)(h0:W 0 ρ)(hs:∀i d ρ',ds[i]?=a3 d->W i ρ'->∃ρ2,DG X ρ' tg d ρ2/\DSs X ρ2 body { nx:=W (i+1),rt:=P.rt,bk:=P.nx,ct:=W (i+1),ex:=P.ex })
  (hd:∀ρ',W ds.length ρ'->P.nx ρ') (hc:X.calm=a5) (hp:fg (ax X.prog X.w) X.A X.env X.xe) (hf:∀x,aB it X.env x=pure x:=by intro _;rfl):DS X ρ (.For tg it body [] pos) P:=λσ H E R q=>by
 refine(j01 hp hc piS pgS J7 hf).to (hi σ H _ R λJ H1 g1 ok=>?_);refine⟨λi m σ' H'=>∃ρ',W i ρ'/\Rep X.K ρ' σ' H'/\Fr0 ρ ρ' H1 H'/\m=ds.length-i/\i<=ds.length,⟨ds.length,ρ,h0,R.grow g1,Fr0.refl _ _,rfl,c9 _⟩,?_⟩;rintro i m σ' H' ⟨ρ',w,R',f,rfl,hle⟩;obtain⟨go,stop,yld⟩:=ok i H' (owns ρ') f λa ha=>by obtain⟨xs,e⟩:=R'.owned a ha;rw[e];simp
 by_cases hlt:i<ds.length
 .refine .inr ⟨go hlt,λσ2 H2=>∃ρ2,W (i+1) ρ2/\Rep X.K ρ2 σ2 H2/\Fr0 ρ ρ2 H1 H2,λσ2 H2 ⟨ρ2,w2,R2,f2⟩=>⟨ds.length-(i+1),by omega,ρ2,w2,R2,f2,rfl,hlt⟩,λx H2 y=>?_⟩;obtain⟨g2,en⟩:=yld x H2 y;obtain⟨ρ2,⟨sub,hG⟩,hB⟩:=hs i ds[i] ρ' (kh hlt) w;refine hG σ' H2 x _ (R'.grow g2) (en _ (kh hlt)) λσ3 R3=>?_;have f2:Fr0 ρ ρ2 H1 H2:=j0.trans f (j0.trans (Fr0.grow g2) (Fr0.drop sub));refine hB σ3 H2 _ R3 ⟨λρ3 σ4 H4 n R4 f4=>⟨ρ3,n,R4,f2.trans f4⟩,λρ3 σ4 H4 n R4 f4=>q.nx ρ3 σ4 H4 n R4 ((Fr0.grow g1).trans (f2.trans f4)),λρ3 σ4 H4 n R4 f4=>⟨ρ3,n,R4,f2.trans f4⟩,λr v H4 n z=>q.rt r v H4 n (Le.step ((Fr0.grow g1).trans f2) z),λx ρ3 σ4 H4 n R4 f4=>q.ex x ρ3 σ4 H4 n R4 ((Fr0.grow g1).trans (f2.trans f4))⟩
 .have e:i=ds.length:=by omega
  subst e;exact .inl ⟨stop (xx _),q.nx ρ' σ' H' (hd ρ' w) R' ((Fr0.grow g1).trans f)⟩
end
noncomputable def z9(N:List ah)(ds:List D):Rho:=ds.map Sl.val++ae (N.length-ds.length) Sl.un
theorem Vm(N:List ah)(ds:List D):owns (z9 N ds)=[]:=by
 unfold owns z9;rw[List.filterMap_append];have h1:(ds.map Sl.val).filterMap Sl.addr=[]:=List.filterMap_eq_nil_iff.mpr λs hs=>by obtain⟨d,_,rfl⟩:=Xh.mp hs;rfl
 have h2:(ae (N.length-ds.length) Sl.un).filterMap Sl.addr=[]:=List.filterMap_eq_nil_iff.mpr λs hs=>by rw[(List.mem_replicate.mp hs).2];rfl
 rw[h1,h2];rfl
theorem U4{K:k8d}{H:Hp}{N:List ah}{ds:List D}{vs:List V}(tb:TabOk K H)(h:j4 K H ds vs):Rep K (z9 N ds) (start N vs) H:=by
 have ho:=Vm N ds;have hl:=h.length;refine⟨by unfold z9 start;simp[hl],λi d e=>?_,λi a l e=>?_,by rw[ho];exact cU,λi a o y e=>?_,tb⟩
 .rw[ho,Jw];unfold z9 at e;by_cases z:i<ds.length
  .rw[Pr (by simpa using z),X3]at e;rw[kh z]at e;cases e;obtain⟨v,hv,en⟩:=h.get (kh z);refine⟨v,?_,en⟩;unfold start;rw[Pr (by rw[kj,hl];exact z),X3,hv];rfl
  .rw[bM (by simpa using z)]at e;have:=Xm e;cases(List.mem_replicate.mp this).2
 .have:=Qo e;rw[ho]at this;cases this
 .unfold z9 at e;rcases pq.mp (Xm e)with z|z
  .obtain⟨d,_,q⟩:=Xh.mp z;cases q
  .cases(List.mem_replicate.mp z).2
section
variable{P:au}{w:az}{K:k8d}{mg:k8g}{base:aD}{x qual:ah}{st:aQ}{f:aa}{fd:aL}{N ps:List ah}{k:Nat}
def Mi(K:k8d)(f:aa)(cdv:a9):Prop:=∃(oc:a9)(od:Option aa)(fd:aL)(sl:Array (Option a9)),K.lookup f=a3 ⟨oc,od,.func fd,sl⟩/\fd.code=cdv
theorem Fun.okC{sp:Sp}(F:Fun K x qual st f fd)(S:FnScope N ps (jb st))(len:∀vs H Q E,sp vs H Q E->vs.length=ps.length)
  (hbody:∀(cdv:a9)(A:aC)(outer:List dB)(s:af)(H:Hp)(vs:List V)(Q:VK) (E:XK),Mi K f cdv->Room k (A.deeper (br qual (jb st) s.heap.objs.size f cdv))->sp vs H Q E ->
   ∃t,PSs (vy CX0 P w K mg base N qual (jb st) f cdv A outer s H E).nox (jt st) t/\t { nx:=λ_ H'=>Q .non H',rt:=Q } (start N vs) H):FnOk P w K mg base CX0 (k+1) f fd ps sp:=by
 obtain⟨oc,od,dV,kV,doc,pm,an,cdv,ct,osl,rfl,lk,hcd⟩:=F.ex;refine jaw lk hcd S len λA outer s H vs Q E hr hsp=>?_;obtain⟨t,h,q⟩:=hbody cdv A outer s H vs Q E ⟨oc,od,_,osl,lk,rfl⟩ hr hsp;exact⟨t,h.nox,q⟩
theorem Cj{S:List D->D->Prop}(F:Fun K x qual st f fd)(Sc:FnScope N ps (jb st))(hl:∀ds d,S ds d->ds.length=ps.length)
  (hbody:∀(cdv:a9)(A:aC)(outer:List dB)(s:af)(H:Hp)(E:XK),Mi K f cdv->Room k (A.deeper (br qual (jb st) s.heap.objs.size f cdv))->∀ds d,S ds d ->
   DSs (vy CX0 P w K mg base N qual (jb st) f cdv A outer s H E).nox (z9 N ds) (jt st) { nx:=λ_=>d=.non,rt:=λr=>r.d=d }):FnOk P w K mg base CX0 (k+1) f fd ps (spP K S):=by
 refine FnOk.toP (F.okC Sc (λvs H Q E ⟨ds,d,tb,en,hS,_⟩=>by rw[en.length];exact hl ds d hS) λcdv A outer s H vs Q E hcv hr ⟨ds,d,tb,en,hS,q⟩=>⟨_,J7,?_⟩);have ho:=Vm N ds;refine hbody cdv A outer s H E hcv hr ds d hS (start N vs) H _ (U4 tb en) ⟨λρ' σ' H' n R f=>?_,λ_ _ _ z=>z.elim,λ_ _ _ z=>z.elim,λr v H' n z=>?_,λ_ _ _ _ z=>z.elim⟩
 .subst n;unfold Fr0 at f;rw[ho,Jw]at f;exact q _ H' (f.trans ju) rfl
 .cases r with
  |val d' =>cases(show d'=d from n);obtain⟨g,en'⟩:=z;rw[ho,Jw]at g;exact q v H' g en'
  |fresh l =>cases(show D.lst l=d from n);obtain⟨a,xs,e,g,m,en'⟩:=z;rw[ho,Jw]at g;exact q v H' (g.trans ju) ⟨a,xs,e,.inl (.inl m),en'.mono ju⟩
theorem j92{S:List D->List D->Prop}(F:Fun K x qual st f fd)(Sc:FnScope N ps (jb st))(hl:∀ds d,S ds d->ds.length=ps.length)
  (hbody:∀(cdv:a9)(A:aC)(outer:List dB)(s:af)(H:Hp)(E:XK),Mi K f cdv->Room k (A.deeper (br qual (jb st) s.heap.objs.size f cdv))->∀ds l,S ds l ->
   DSs (vy CX0 P w K mg base N qual (jb st) f cdv A outer s H E).nox (z9 N ds) (jt st) { nx:=λ_=>False,rt:=λr=>r=.fresh l }):FnOk P w K mg base CX0 (k+1) f fd ps (spF K S):=by
 refine FnOk.toF (F.okC Sc (λvs H Q E ⟨ds,d,tb,en,hS,_⟩=>by rw[en.length];exact hl ds d hS) λcdv A outer s H vs Q E hcv hr ⟨ds,l,tb,en,hS,q⟩=>⟨_,J7,?_⟩);have ho:=Vm N ds;refine hbody cdv A outer s H E hcv hr ds l hS (start N vs) H _ (U4 tb en) ⟨λρ' σ' H' n R f=>n.elim,λ_ _ _ z=>z.elim,λ_ _ _ z=>z.elim,λr v H' n z=>?_,λ_ _ _ _ z=>z.elim⟩;cases(show r=.fresh l from n);obtain⟨a,xs,e,g,m,en'⟩:=z;rw[ho,Jw]at g;subst e;refine q a xs H' (g.trans ju) ?_ m en';cases y:H a with
 |none=>rfl
 |some o=>have:=g a o y;rw[qp (xn.mpr rfl)]at this;cases this
end
section
variable{prog:au}{w:az}{A:aC}{R:eX->af->Prop}{s:af}
theorem j0u{elt target iter:aj}{ifs:List aj}{scope:b7}{pos:aK}{it acc:a9}{env:dB}(I:Nat->af->Prop)
  (turn:∀n s,I n s->ar (ax prog w) A (dF it) (λr s₁=>match r with
   |none=>R (.ok .next) s₁
   |some v=>ar (ax prog w) A (eE target it v) (λ_ s₁'=>ar (ax prog w) A (cL target env v) (λ_ s₂ =>
     ar (ax prog w) A (forIn ifs a5 λc r=>if r=a5 then do let ok <-fG c env (ay c env);pure (bR ok)else pure (bR r)) (λok s₃ =>
      if ok=a5 then ar (ax prog w) A (ay elt env) (λx s₄ =>
       ar (ax prog w) A (call (.builtin "list.append") [acc,x]) (λ_ s₅=>∃m,m<n/\I m s₅) (λ_ _=>False) s₄) (λ_ _=>False) s₃
      else ∃m,m<n/\I m s₃) (λ_ _=>False) s₂) (λ_ _=>False) s₁') (λ_ _=>False) s₁) (λ_ _=>False) s)
  (n:Nat) (h:I n s) :
  ck (ax prog w) A (.compLoop (.ListComp elt [⟨target,iter,ifs,0⟩] scope pos) 0 it acc env) R s:=by
 refine codeAny_loop rfl I (λn s hI=>?_) n h;show ar _ A ((compTurn (.ListComp elt [⟨target,iter,ifs,0⟩] scope pos) 0 it acc env).onRaise (λx=>do noteFrame x env;theTreesLotGoes x)) _ _ s;refine wpAny_noted ?_;rw[compTurn_list];refine a7 (fw (a7 (bH (turn n s hI) (λr s₁ h₁=>?_) λ_ _ h'=>h'.elim)));cases r with
 |none=>exact ai h₁
 |some v =>
  refine a7 (bH h₁ (λ_ s₁' h₁'=>?_) λ_ _ h'=>h'.elim);refine a7 (bH h₁' (λ_ s₂ h₂=>a7 (bH h₂ (λok s₃ h₃=>?_) λ_ _ h'=>h'.elim)) λ_ _ h'=>h'.elim);cases ok with
  |false=>exact ai ⟨rfl,h₃⟩
  |true =>exact a7 (a7 (bH h₃ (λx s₄ h₄=>a7 (bH h₄ (λ_ s₅ h₅=>ai (ai ⟨rfl,h₅⟩)) λ_ _ h'=>h'.elim)) λ_ _ h'=>h'.elim))
end
noncomputable def v7(env:dB):List (ah×bh)->List (ah×aa)->List (ah×aa)
 |[],acc=>acc
 |(n,k)::r,acc=>v7 env r (if k==.free then(match env.cells.lookup n with|some a=>(n,a)::acc|none=>acc)else acc)
theorem De{scope:b7}{env:dB}(h:∀y∈scope.names,y.2=.free->(env.cells.lookup y.1).isSome=a5):du scope env=pure (v7 env scope.names []):=by
 simp only[du];have step:∀(names:List (ah×bh)) (acc:List (ah×aa)),(∀y∈names,y.2=.free->(env.cells.lookup y.1).isSome=a5) ->
   (forIn names acc (λx r=>(do if (x.2==b8)=a5 then(do let a <-cellOf env x.1;pure (bR ((x.1,a)::r)))else pure (bR r):Sem _)):Sem _)=pure (v7 env names acc):=by
  intro names;induction names with
  |nil=>intro acc _;rfl
  |cons y r ih =>
   intro acc hy;obtain⟨n,k⟩:=y;rw[List.forIn_cons];by_cases e:(k==b8)=a5
   .have hk:k=.free:=by simpa using e
    have hs:=hy (n,k) (xm ..) hk;obtain⟨a,ha⟩:=Xw.mp hs;have hc:cellOf env n=pure a:=by unfold cellOf;rw[ha]
    simp only[e,if_true,hc,pure_bind];rw[ih _ λz hz=>hy z (xg _ hz)];simp only[v7,e,if_true,ha]
   .have e':(k==b8)=a4:=by simpa using e
    simp only[e',Xz,if_false,pure_bind];rw[ih _ λz hz=>hy z (xg _ hz)];simp only[v7,e',Xz,if_false]
 have:=step scope.names [] h;rw[show(forIn scope.names ([]:List (ah×aa)) λx r=>_)=_ from this];rfl
theorem Ke{env:dB}{y:ah}{c:aa}:∀{names:List (ah×bh)} {acc:List (ah×aa)},(∀y c,acc.lookup y=a3 c->env.cells.lookup y=a3 c)->(v7 env names acc).lookup y=a3 c->env.cells.lookup y=a3 c
 |[],acc,h,q=>h y c q
 |(n,k)::r,acc,h,q=>by
  unfold v7 at q;refine Ke (acc:=_) ?_ q;intro z d hz;split at hz
  .split at hz
   .rename_i a ha;rw[Xl]at hz;split at hz
    .rename_i e;have e':z=n:=by simpa using e
     subst e';cases hz;exact ha
    .exact h z d hz
   .exact h z d hz
  .exact h z d hz
theorem Df{env:dB}{y:ah}:∀{names:List (ah×bh)} {acc:List (ah×aa)},(acc.lookup y).isSome=a5->((v7 env names acc).lookup y).isSome=a5
 |[],acc,h=>h
 |(n,k)::r,acc,h=>by
  unfold v7;refine Df ?_;split
  .split
   .rw[Xl];split
    .rfl
    .exact h
   .exact h
  .exact h
theorem Wr{env:dB}{y:ah}(hs:(env.cells.lookup y).isSome=a5):∀{names:List (ah×bh)} {acc:List (ah×aa)},(y,b8)∈names->((v7 env names acc).lookup y).isSome=a5
 |[],acc,h=>nomatch h
 |(n,k)::r,acc,h=>by
  unfold v7;rcases xq.mp h with e|h
  .cases e;refine Df ?_;obtain⟨a,ha⟩:=Xw.mp hs;rw[if_pos (by rfl),ha];rw[Xl];simp
  .exact Wr hs h
noncomputable def Jx(scope:b7)(env:dB)(N:List ah)(cs:List Nat):Bool :=
 scope.names.all (λy=>(y.2 != .cell || scope.names.lookup y.1==a3 .cell)&&(y.2 != .local || scope.names.lookup y.1==a3 .local)&&(y.2 != .free || ((env.cells.lookup y.1).isSome&&(env.kindOf y.1==a3 .cell || env.kindOf y.1==a3 .free)))) &&
 (aw N.length).all (λj=>cs.contains j || (match N[j]? with|some y=>scope.names.lookup y != a3 .local&&scope.names.lookup y != a3 .cell|none=>a5))
theorem lookup_mem{α β:Type}[BEq α][LawfulBEq α]{l:List (α×β)}{a:α}{b:β}(h:l.lookup a=a3 b):(a,b)∈l:=by
 induction l with
 |nil=>cases h
 |cons x r ih =>
  obtain⟨c,d⟩:=x;rw[Xl]at h;split at h
  .rename_i e;cases h;have e':a=c:=by simpa using e
   subst e';exact xm ..
  .exact xg _ (ih h)
theorem Je{env:dB}{x:ah}{k':bh}:∀{names:List (ah×bh)},
  (names.map λ(n,k)=>if (k==b8&&env.scope.kind==.function&&env.kindOf n==a3 .cell) then(n,bx) else(n,k)).lookup x=a3 k' ->
  ∃k,names.lookup x=a3 k/\(k'=k\/(k=.free/\k'=.cell))
 |[],h=>by cases h
 |(n,k)::r,h=>by
  rw[xr]at h;rw[Xl];by_cases hc:(k==b8&&env.scope.kind==.function&&env.kindOf n==a3 .cell)=a5
  .dsimp only at h;rw[if_pos hc,Xl]at h;cases e:x==n with
   |true =>
    rw[e]at h;cases h;have:(k==b8)=a5:=by
     cases z:k==b8 with
     |true=>rfl
     |false=>rw[z]at hc;simp at hc
    exact⟨k,rfl,.inr ⟨by simpa using this,rfl⟩⟩
   |false=>rw[e]at h;exact Je h
  .dsimp only at h;rw[if_neg hc,Xl]at h;cases e:x==n with
   |true=>rw[e]at h;cases h;exact⟨_,rfl,.inl rfl⟩
   |false=>rw[e]at h;exact Je h
theorem Yw:∀(names:List (ah×bh)) (n:Nat) (acc:List (ah×aa)),aO n names acc=aO n names []++acc
 |[],_,_=>rfl
 |(x,k)::r,n,acc=>by
  unfold aO;split
  .rw[Yw r (n+1) ((x,n)::acc),Yw r (n+1) [(x,n)],Tn];rfl
  .exact Yw r n acc
theorem Dg:∀{names:List (ah×bh)} {n:Nat} {x:ah} {c:aa},(x,c)∈aO n names []->(x,bx)∈names/\n<=c
 |[],_,_,_,h=>nomatch h
 |(y,k)::r,n,x,c,h=>by
  unfold aO at h;split at h
  .rename_i hk;rw[Yw]at h;rcases pq.mp h with h|h
   .have q:=Dg h;exact⟨xg _ q.1,Nat.le_of_succ_le q.2⟩
   .cases xn.mp h;have hk:k=bx:=by simpa using hk
    subst hk;exact⟨xm ..,xx _⟩
  .have q:=Dg h;exact⟨xg _ q.1,q.2⟩
theorem Y7{β:Type}:∀{l m:List (ah×β)} {y:ah},(l++m).lookup y=(l.lookup y).or (m.lookup y)
 |[],m,y=>rfl
 |(x,b)::r,m,y=>by
  rw[dA,Xl,Xl];split
  .rfl
  .exact Y7
theorem Kf{names:List (ah×bh)}{n:Nat}{acc:List (ah×aa)}{y:ah}{c:aa}(h:(aO n names acc).lookup y=a3 c) :
  ((y,c)∈aO n names []/\(y,bx)∈names/\n<=c)\/((aO n names []).lookup y=a6/\acc.lookup y=a3 c):=by
 rw[Yw,Y7]at h;cases e:(aO n names []).lookup y with
 |some c'=>rw[e]at h;cases h;have q:=lookup_mem e;exact .inl ⟨q,Dg q⟩
 |none=>rw[e]at h;exact .inr ⟨rfl,h⟩
theorem jhm{names:List (ah×bh)}{n:Nat}{acc:List (ah×aa)}{y:ah}(h:(y,bx)∉names):(aO n names acc).lookup y=acc.lookup y:=by
 rw[Yw,Y7];cases e:(aO n names []).lookup y with
 |some c'=>exact absurd (Dg (lookup_mem e)).1 h
 |none=>rfl
theorem jdr{names:List (ah×bh)}{n:Nat}{acc:List (ah×aa)}{y:ah}(h:(acc.lookup y).isSome=a5):∃c,(aO n names acc).lookup y=a3 c:=by
 rw[Yw,Y7];cases e:(aO n names []).lookup y with
 |some c'=>exact⟨c',rfl⟩
 |none=>obtain⟨c,hc⟩:=Xw.mp h;exact⟨c,hc⟩
theorem j0d{M:ky}{A:aC}{E:k8e}{s:af}{scope:b7}{globals:aa}{closure:List (ah×aa)}{qual:ah}{env:dB}{Q:dB->af->Prop}
  (hQ:Q { scope:=scope,locals:=s.heap.objs.size,globals:=globals,cells:=aO (s.heap.objs.size+1) scope.names closure,qual:=qual,func:=a6,code:=env.code,frame:=env.frame,builtins:=env.builtins }
   { s with heap:=iD (s.heap.push { cls:=.type "dict",data:=.dict #[] }) scope.names }) :
  ar M A (i3 scope globals closure [] qual a6 .none (a3 env)) Q E s:=by
 simp only[i3,eF,if_true];refine a7 (wpAny_alloc ?_);refine a7 (wpAny_layCells _ (λname kind cells=>by cases hkc:kind==bx<;>simp[hkc]) _ _ _ _ ?_);rw[show({ s with heap:=s.heap.push { cls:=.type "dict",data:=.dict #[] } }:af).heap.objs.size=s.heap.objs.size+1 from Tz ..];exact a7 (ai (ai hQ))
noncomputable abbrev cCx(X:Cx)(scope:b7)(C:aa)(s:af)(H:Hp)(fp:List aa)(pn:k8f):Cx :=
 { X with env:=compEnvC scope (aO (C+1) scope.names (v7 X.env scope.names [])) C X.env,s₀:=s,H₀:=H,outer:=X.stack,stack:=X.stack,ex:=fp,fn:=λx=>scope.names.lookup x==a3 .cell,pn:=pn,xe:=λ_ _=>False }
noncomputable def Yz(scope:b7)(y:ah):Bool:=scope.names.lookup y==a3 .local || scope.names.lookup y==a3 .cell
theorem V9{env:dB}:∀{names:List (ah×bh)} {x:ah},names.lookup x=a3 .cell ->
  (names.map λ(n,k)=>if (k==b8&&env.scope.kind==.function&&env.kindOf n==a3 .cell) then(n,bx) else(n,k)).lookup x=a3 .cell
 |[],_,h=>by simp at h
 |(n,k)::r,x,h=>by
  have ih:=@V9 env r x;rw[xr];cases hx:x==n with
  |true =>simp only[Xl,hx]at h;cases h;simp[Xl,hx]
  |false =>
   simp only[Xl,hx]at h;dsimp only;by_cases hc:(k==b8&&env.scope.kind==.function&&env.kindOf n==a3 .cell)=a5
   .rw[if_pos hc];simp only[Xl,hx];exact ih h
   .rw[if_neg hc];simp only[Xl,hx];exact ih h
theorem Ml{X:Cx}{scope:b7}{C:aa}{s:af}{H:Hp}{fp:List aa}{pn:k8f}{y:ah}(h:Yz scope y=a5):Loc (cCx X scope C s H fp pn).env.scope y:=by
 unfold Yz at h;rw[bY]at h;rcases h with h|h
 .exact .inl (jL (by simpa using h))
 .exact .inr (V9 (by simpa using h))
theorem Nj{X:Cx}{scope:b7}{C:aa}{s:af}{H:Hp}{fp:List aa}{pn:k8f}{y:ah}(h:Yz scope y=a5):(cCx X scope C s H fp pn).fn y=a5\/(cCx X scope C s H fp pn).env.scope.names.lookup y=a3 .local:=by
 unfold Yz at h;rw[bY]at h;rcases h with h|h
 .exact .inr (jL (by simpa using h))
 .exact .inl h
def DTs(X:Cx)(ρ:Rho)(ifs:List aj)(b:Bool):Prop:=match ifs with
 |[]=>b=a5
 |[c]=>DB X ρ c b
 |_=>False
theorem DTs.nil{X:Cx}{ρ:Rho}:DTs X ρ [] a5:=rfl
theorem DTs.one{X:Cx}{ρ:Rho}{c:aj}{b:Bool}(h:DB X ρ c b):DTs X ρ [c] b:=h
theorem DTs.run{X:Cx}{ρ:Rho}{ifs:List aj}{b:Bool}(h:DTs X ρ ifs b){pins:k8f}{σ:St}{H:Hp}{s:af}(I:Inv X pins σ H s)(R:Rep X.K ρ σ H) :
  ar (ax X.prog X.w) X.A (forIn ifs a5 λc r=>if r=a5 then do let ok <-fG c X.env (ay c X.env);pure (bR ok)else pure (bR r)) (λok s'=>ok=b/\∃H',Inv X pins σ H' s'/\j0 H H') X.xe s:=by
 match ifs,h with
 |[],h=>exact wpAny_tests_nil ⟨h.symm,H,I,j0.refl H⟩
 |[c],h=>exact wpAny_tests_one (thn (h σ H (λk H'=>k=b/\j0 H H') R (λH' g=>⟨rfl,g⟩) pins s I) λk s' ⟨H',I',e,g⟩=>⟨e,H',I',g⟩)
theorem Rep.weaken{K:k8d}{ρ:Rho}{σ σ':St}{H:Hp}(R:Rep K ρ σ H)(hl:σ'.length=σ.length)(h:∀(i:Nat),ρ[i]?≠a3 .un->σ'[i]?=σ[i]?):Rep K ρ σ' H :=
 ⟨by rw[hl,R.len],λi d e=>let ⟨v,q,z⟩:=R.val i d e;⟨v,by rw[h i (by rw[e];simp)];exact q,z⟩,λi a ds e=>let ⟨q,z⟩:=R.own i a ds e;⟨by rw[h i (by rw[e];simp)];exact q,z⟩,R.nd,λi a o x e=>let ⟨q,z⟩:=R.raw i a o x e;⟨by rw[h i (by rw[e];simp)];exact q,z⟩,R.tb⟩
noncomputable def mask(cs:List Nat)(σ:St):St:=σ.mapIdx λj v=>if cs.contains j then a6 else v
theorem Oj(cs:List Nat)(σ:St):(mask cs σ).length=σ.length:=by unfold mask;simp
theorem j8b{cs:List Nat}{σ:St}{j:Nat}{v:V}(h:(mask cs σ)[j]?=a3 (a3 v)):j∉cs/\σ[j]?=a3 (a3 v):=by
 unfold mask at h;rw[ip]at h;cases e:σ[j]? with
 |none=>rw[e]at h;cases h
 |some u =>
  rw[e]at h;have h':(if cs.contains j then a6 else u)=a3 v:=av h;by_cases z:cs.contains j=a5
  .rw[if_pos z]at h';cases h'
  .rw[if_neg z]at h';subst h';exact⟨λy=>z (by simpa using y),rfl⟩
theorem j8a{cs:List Nat}{σ:St}{j:Nat}(h:j∉cs):(mask cs σ)[j]?=σ[j]?:=by
 unfold mask;rw[ip];cases e:σ[j]? with
 |none=>rfl
 |some u=>simp[h]
def Wk(ρ2 ρ:Rho):Prop:=∀K σ H,Rep K ρ2 σ H->Rep K ρ σ H
theorem Z0(H:Hp)(A B:List aa):del (del H A) B=del H (A++B):=funext λb=>by unfold del;by_cases h1:b∈A<;>by_cases h2:b∈B<;>simp[h1,h2]
structure Loose(X:Cx)(pins:k8f)(H:Hp)(C:aa):Prop where
 free:H C=a6
 loc:C≠X.env.locals
 new:X.s₀.heap.objs.size<=C
 cell:∀x c,X.env.cells.lookup x=a3 c->c≠C
 pin:∀p∈X.pn++pins,p.1≠C
section
variable{X:Cx}{pins:k8f}{σ:St}{H2:Hp}{s2:af}{ρ:Rho}{tg elt iter:aj}{ifs:List aj}{scope:b7}{pos:aK}{ds:List D}{cs:List Nat}{p:D->Bool}{g:D->D}
theorem Ka{J:It}{fp:List aa}{it:aa}{tn:Nat->aD->Prop}(I2:Inv X pins σ H2 s2)(R2:Rep X.K ρ σ H2)(T:Turn X.prog X.w X.K tg J fp it tn)(st2:tn 0 s2.heap)(f2:∀b∈fp,Ze X pins H2 b)
  (ok:Yy X.K (del H2 (owns ρ)) J ds) (hc:X.calm=a5) (hkind:scope.kind=.function) (hok:Jx scope X.env X.N cs=a5) (hcs:∀j∈cs,ρ[j]?=a3 .un) (hsz:ds.length<=ak)
  (hb:∀C s H fp pn,∀d∈ds,∃ρ2,DG (cCx X scope C s H fp pn) ρ tg d ρ2/\Wk ρ2 ρ/\owns ρ2=owns ρ/\DTs (cCx X scope C s H fp pn) ρ2 ifs (p d)/\(p d=a5->DE (cCx X scope C s H fp pn) ρ2 elt (g d)))
  {E:k8e} {RR:a9->aa->eX->af->Prop}
  (hRR:∀D C xs H' s' m,Inv X pins σ H' s'->j0 H2 H'->H2 D=a6->H' D=a3 (.lst xs)->j4 X.K (del H' (D::owns ρ)) ((ds.filter p).map g) xs->s'.heap.Ns C m->Loose X pins H' C->RR (.ref D) C (.ok .next) s') :
  ar (ax X.prog X.w) X.A (newList []) (λacc s₃=>ar (ax X.prog X.w) X.A (i3 scope X.env.globals (v7 X.env scope.names []) [] X.env.qual a6 .none (a3 X.env)) (λcenv s₄ =>
   ck (ax X.prog X.w) X.A (.compStart (.ListComp elt [⟨tg,iter,ifs,0⟩] scope pos) 0 (.ref it) acc { cenv with scope:=relabel scope X.env }) (RR acc cenv.locals) s₄) E s₃) E s2:=by
 unfold Jx at hok;rw[Xg]at hok;obtain⟨hn,hN⟩:=hok;have hn':∀y∈scope.names,(y.2=.cell->scope.names.lookup y.1=a3 .cell)/\(y.2=.free->(X.env.cells.lookup y.1).isSome=a5/\(X.env.kindOf y.1=a3 .cell\/X.env.kindOf y.1=a3 .free)):=λy hy=>by have:=Pa.mp hn y hy;simp only[Xg,bne_iff_ne,ne_eq,bY,beq_iff_eq]at this;obtain⟨⟨a,_⟩,c⟩:=this;exact⟨λe=>a.elim (λz=>absurd e z) id,λe=>c.elim (λz=>absurd e z) id⟩
 have nocell:∀{y:ah},scope.names.lookup y=a3 .free->(y,bx)∉scope.names:=λ{y} h z=>by have q:=(hn' _ z).1 rfl;rw[h]at q;cases q
 have hloc:∀(j:Nat)(y:ah),X.N[j]?=a3 y->j∉cs->scope.names.lookup y≠a3 .local/\scope.names.lookup y≠a3 .cell:=λj y hj hc=>by
  have hlt:j<X.N.length:=(X7.mp hj).1;have:=Pa.mp hN j (Xd.mpr hlt);rw[hj]at this;simp only[bY,Xg,bne_iff_ne,ne_eq]at this;rcases this with z|z
  .exact absurd (by simpa using z) hc
  .exact z
 have cl_of:∀{y:ah}{c:aa},(v7 X.env scope.names []).lookup y=a3 c->X.env.cells.lookup y=a3 c:=λ{y c} h=>Ke (λ_ _ z=>by cases z) h;refine aI (j0d ?_);dsimp only;generalize hH2:s2.heap.push { cls:=.type "list",dict:=a6,data:=.seq ([]:List a9).toArray }=hp2;have keep1:∀b o,hp2.get? b=a3 o->(iD (hp2.push { cls:=.type "dict",data:=.dict #[] }) scope.names).get? b=a3 o:=λb o e=>lI _ _ b o (xj _ e);have hns₁:(iD (hp2.push { cls:=.type "dict",data:=.dict #[] }) scope.names).Ns hp2.objs.size (λ_=>a6):=(Heap.Ns.new hp2 (.type "dict")).keeps (lI _ _);have okl:=cellsFrom_ok scope.names (hp2.push { cls:=.type "dict",data:=.dict #[] }) (hp2.objs.size+1) [] ⟨λ_ _ hm=>(nomatch hm),List.Pairwise.nil⟩ (by rw[Tz];exact xx _);rw[Tz]at okl;generalize iD (hp2.push { cls:=.type "dict",data:=.dict #[] }) scope.names=h₁ at keep1 hns₁ okl ⊢;have hC:hp2.objs.size=s2.heap.objs.size+1:=by rw[<-hH2,Tz]
 have hDC:s2.heap.objs.size≠hp2.objs.size:=by rw[hC];exact Xa (cF _)
 have hCle:s2.heap.objs.size<=hp2.objs.size:=by rw[hC];exact Py _
 have below:∀b,b<s2.heap.objs.size->b≠hp2.objs.size/\b≠s2.heap.objs.size:=λb hb=>⟨by rw[hC];exact Xa (S7 hb),Xa hb⟩
 have old:∀b o,s2.heap.get? b=a3 o->h₁.get? b=a3 o:=λb o e=>keep1 b o (hH2▸xj _ e);have hacc:h₁.get? s2.heap.objs.size=a3 { cls:=.type "list",dict:=a6,data:=.seq ([]:List a9).toArray }:=keep1 _ _ (hH2▸X5 _ rfl);have none_of:∀b,s2.heap.objs.size<=b->s2.heap.get? b=a6:=λb hb=>by
  cases e:s2.heap.get? b with
  |none=>rfl
  |some o'=>exact absurd (xu e) (Nat.not_lt.mpr hb)
 have hD0:H2 s2.heap.objs.size=a6:=I2.fresh;generalize hDd:s2.heap.objs.size=Dd at *;generalize hCc:hp2.objs.size=C at *;have hC0:H2 C=a6:=I2.hok.fresh (by rw[hDd];exact hCle);have pinlt:∀p∈X.pn++pins,p.1<Dd:=λp hp=>by rw[<-hDd];exact xu (I2.pin p hp).1
 have celllt:∀y c,X.env.cells.lookup y=a3 c->c<Dd:=λy c h=>by obtain⟨v,o,e,_⟩:=I2.cell y c h;rw[<-hDd];exact xu e
 have loclt:X.env.locals<Dd:=by rw[<-hDd];exact I2.lt
 have fplt:∀b∈fp,b<Dd:=λb hb=>by obtain⟨o,e,_⟩:=T.obj _ _ st2 b hb;rw[<-hDd];exact xu e
 have hDlt:Dd<C:=by omega
 have cellD:∀{y:ah}{c:aa},(aO (C+1) scope.names (v7 X.env scope.names [])).lookup y=a3 c->((y,c)∈aO (C+1) scope.names []/\C+1<=c)\/X.env.cells.lookup y=a3 c:=λ{y c} h=>by
  rcases Kf h with ⟨q,_,z⟩|⟨_,q⟩
  .exact .inl ⟨q,z⟩
  .exact .inr (cl_of q)
 have celln:∀{y:ah}{c b:aa},(aO (C+1) scope.names (v7 X.env scope.names [])).lookup y=a3 c->b<Dd->(∀c,X.env.cells.lookup y=a3 c->c≠b)->c≠b:=λ{y c b} h hb ho=>by
  rcases cellD h with ⟨_,z⟩|q
  .exact T5 (Pb hb (Pb hDlt (S8 z)))
  .exact ho c q
 have okc:(cCx X scope C s2 H2 fp (X.pn++pins)).Ok:={
  mod:=I2.ok.mod
  kind:=hkind
  glob:=I2.ok.glob
  blt:=I2.ok.blt
  above:=by show s2.heap.objs.size<=C;rw[hDd];exact hCle
  inj:=λx y c h1 h2=>by
   rcases cellD h1 with ⟨m1,z1⟩|q1<;>rcases cellD h2 with ⟨m2,z2⟩|q2
   .exact name_of_addr okl.apart m1 m2
   .exact absurd (Pb (celllt y c q2) (Pb hDlt (S8 z1))) (ph _)
   .exact absurd (Pb (celllt x c q1) (Pb hDlt (S8 z2))) (ph _)
   .exact I2.ok.inj x y c q1 q2
  has:=λx h=>by
   have key:∀k',(relabel scope X.env).names.lookup x=a3 k'->(k'=.cell\/k'=.free)->∃c,(aO (C+1) scope.names (v7 X.env scope.names [])).lookup x=a3 c:=λk' hk hk'=>by
    obtain⟨k,hl,e⟩:=Je hk
    have hm:=lookup_mem hl
    have hk0:k=.free\/k=.cell:=by
     rcases e with e|e
     .subst e
      exact hk'.symm
     .exact .inl e.1
    rcases hk0 with hk0|hk0
    .subst hk0
     exact jdr (Wr ((hn' _ hm).2 rfl).1 hm)
    .subst hk0
     exact Xw.mp (W.cellsFrom_some _ _ _ (.inl hl))
   rcases h with h|h
   .exact key _ h (.inl rfl)
   .exact key _ h (.inr rfl)
  cab:=λx c h h2=>by
   have hx:scope.names.lookup x=a3 .cell:=by simpa using h
   show s2.heap.objs.size<=c
   rw[hDd]
   rcases Kf h2 with ⟨_,_,z⟩|⟨z,_⟩
   .exact cT (Pb hDlt (S8 z))
   .obtain⟨c',hc'⟩:=Xw.mp (W.cellsFrom_some scope.names (C+1) [] (.inl hx))
    rw[z]at hc';cases hc'
  hd:=I2.ok.hd
  frames:=I2.ok.frames
  stk:=.inl rfl
  exf:=λb hb=>⟨Xa (Pb (fplt b hb) hDlt),λx c h=>celln h (fplt b hb) λc q=>(f2 b hb).2.2.2.2.1 x c q⟩
  bs:=I2.bs
  bsz:=Xk I2.ok.bsz I2.sz
  noex:=λb o e hb=>by
   rcases(f2 b hb).2.2.2.1 with z|z
   .exact I2.ok.noex b o e z
   .exact absurd (xu e) (Nat.not_lt.mpr (Xk I2.ok.bsz z))
  exfs:=λb hb hf=>by
   rcases xq.mp (I2.stkSub b hf)with z|z
   .exact(f2 b hb).2.1 z
   .exact(f2 b hb).2.2.1 z
  funs:=I2.stack
  frf:=I2.stkFree }
 have hpush:HOk X.prog X.w (upd H2 Dd (.lst [])) h₁:=HOk.laid I2.hok old (by rw[hDd];exact xx _) ⟨c9 _,[],_,.nil,hacc⟩;have I0:Inv (cCx X scope C s2 H2 fp (X.pn++pins)) [] (mask cs σ) (upd H2 Dd (.lst [])) { s2 with heap:=h₁ }:={
  ok:=okc
  os:=rfl
  bare:=I2.bare
  base:=Un.laid old (by rw[hDd];exact xx _) hD0
  loc:=by
   refine⟨_,hns₁,λj y v hj hv hvis=>?_⟩
   obtain⟨hjc,hσ⟩:=j8b hv
   obtain⟨m,hm,hlook⟩:=I2.loc
   have key:∀k',(relabel scope X.env).names.lookup y=a3 k'->scope.names.lookup y=a3 .free:=λk' hk=>by
    obtain⟨k,hl,e⟩:=Je hk
    have hmm:=lookup_mem hl
    have:k=.free:=by
     rcases e with e|e
     .subst e
      rcases hvis with z|z|z
      .have z:=hk.symm.trans z;cases z;exact absurd hl (hloc j y hj hjc).1
      .have z:=hk.symm.trans z;cases z;exact absurd hl (hloc j y hj hjc).2
      .have z:=hk.symm.trans z;cases z;rfl
     .exact e.1
    rw[hl,this]
   have hfree:scope.names.lookup y=a3 .free:=by rcases hvis with z|z|z<;>exact key _ z
   have hmm:=lookup_mem hfree
   obtain⟨hs,hk⟩:=(hn' _ hmm).2 rfl
   have hvis':Vis X.env.scope y:=by rcases hk with z|z;exact .inr (.inl z);exact .inr (.inr z)
   obtain⟨u,ru,look⟩:=hlook j y v hj hσ hvis'
   refine⟨u,ru,?_⟩
   rcases look with ⟨z,_⟩|⟨_,c,hcl,hcv⟩
   .rcases hk with y'|y'<;>rw[y']at z<;>cases z
   .refine .inr ⟨?_,c,?_,?_⟩
    .rcases hvis with z|z|z
     .exfalso
      obtain⟨k,hl,e⟩:=Je z
      rw[hfree]at hl;cases hl
      rcases e with e|e
      .cases e
      .cases e.2
     .exact .inl z
     .exact .inr z
    .obtain⟨c',hc'⟩:=Xw.mp (Wr (acc:=[]) hs hmm)
     have:=cl_of hc'
     rw[hcl]at this;cases this
     exact(jhm (nocell hfree)).trans hc'
    .obtain⟨o,e,d⟩:=hcv
     exact⟨o,old _ _ e,d⟩
  cell:=λx c h=>by
   rcases cellD h with ⟨q,_⟩|q
   .exact⟨_,(okl.empty x c q).1⟩
   .obtain⟨v,o,e,d⟩:=I2.cell x c q
    exact⟨v,o,old _ _ e,d⟩
  free:=by show upd H2 Dd (.lst []) C=a6;rw[jg (T5 hDlt)];exact hC0
  freeC:=λx c h=>by
   rcases cellD h with ⟨_,z⟩|q
   .rw[jg (T5 (Pb hDlt (S8 z)))];exact I2.hok.fresh (by rw[hDd];exact cT (Pb hDlt (S8 z)))
   .rw[jg (Xa (celllt x c q))];exact I2.freeC x c q
  pin:=λp hp=>by
   rw[Xv]at hp
   obtain⟨h1,h2,h3,h4,h5⟩:=I2.pin p hp
   have hlt:=pinlt p hp
   refine⟨old _ _ h1,by rw[jg (Xa hlt)];exact h2,Xa (Pb hlt hDlt),λz=>?_,h5⟩
   rcases xq.mp (I2.stkSub _ z)with y|y
   .exact h3 y
   .exact h4 y
  hok:=hpush
  len:=by rw[Oj];exact I2.len }
 have hDo:Dd∉owns ρ:=R2.fresh hD0;have fpok:∀{H':Hp},(∀b∈fp,H' b=a6)->∀b∈fp,Ze (cCx X scope C s2 H2 fp (X.pn++pins)) [] H' b:=λ{H'} hn b hb =>⟨hn b hb,Xa (Pb (fplt b hb) hDlt),okc.exfs b hb,.inl hb,λx c h=>celln h (fplt b hb) λc q=>(f2 b hb).2.2.2.2.1 x c q,λp hp=>by rw[Xv]at hp;exact(f2 b hb).2.2.2.2.2 p hp⟩
 have R0:Rep X.K ρ (mask cs σ) H2:=R2.weaken (Oj _ _) λj hj=>j8a λz=>hj (hcs j z);have e0:del (upd H2 Dd (.lst [])) [Dd]=H2:=by
  rw[W3 (xn.mpr rfl)]
  funext b
  by_cases z:b∈[Dd]
  .rw[qp z,xn.mp z,hD0]
  .exact j5 z
 have loop:∀s₃:af,s₃={ s2 with heap:=h₁ } ->
   ck (ax X.prog X.w) X.A (.compLoop (.ListComp elt [⟨tg,iter,ifs,0⟩] scope pos) 0 (.ref it) (.ref Dd) (compEnvC scope (aO (C+1) scope.names (v7 X.env scope.names [])) C X.env)) (RR (.ref Dd) C) s₃:=by
  rintro s₃ rfl;refine j0u (λn s=>∃i σ' H' ys,Inv (cCx X scope C s2 H2 fp (X.pn++pins)) [] σ' H' s/\tn i s.heap/\(∀b∈fp,H' b=a6)/\i<=ds.length/\n=ds.length-i/\Rep X.K ρ σ' (del H' [Dd])/\j0 H2 (del H' [Dd])/\H' Dd=a3 (.lst ys) /\
   j4 X.K (del H' (Dd::owns ρ)) (((ds.take i).filter p).map g) ys) ?_ ds.length
   ⟨0,mask cs σ,upd H2 Dd (.lst []),[],I0,T.keep _ _ _ st2 (λb _ o e=>old b o e),λb hb=>by rw[jg (Xa (fplt b hb))];exact(f2 b hb).1,c9 _,rfl,by rw[e0];exact R0,by rw[e0];exact j0.refl _,j9,rfl⟩
  rintro n s3 ⟨i,σ3,H3,ys,I3,st3,fr3,hle,rfl,R3,g3,m3,en3⟩;have F3:j0 (del H2 (owns ρ)) (del H3 (Dd::owns ρ)):=by
   have:del H3 (Dd::owns ρ)=del (del H3 [Dd]) (owns ρ):=by rw[Z0];rfl
   rw[this];exact je g3
  obtain⟨go,stop,yld⟩:=ok i H3 (Dd::owns ρ) F3 λa ha=>by
   rcases xq.mp ha with e|ha
   .rw[e,m3];simp
   .obtain⟨xs,e⟩:=R3.owned a ha;rw[(of_del e).2];simp
  by_cases hlt:i<ds.length
  .refine thn (T.item (cCx X scope C s2 H2 fp (X.pn++pins)) rfl rfl rfl hc i [] s3 σ3 H3 (λ_ _=>False) I3 (fpok fr3) st3 (go hlt)) λr s4 ⟨u,hr,h4⟩=>?_;subst hr;refine thn h4 λ_ s5 ⟨x,H5,I5,r5,y5,st5,fr5⟩=>?_;obtain⟨g5,en5⟩:=yld x H5 y5;have hd:ds[i]?=a3 ds[i]:=kh hlt;obtain⟨ρ2,⟨sub,hG⟩,wk,eo,hT,hE⟩:=hb C s2 H2 fp (X.pn++pins) ds[i] (Xy hlt);have m5:H5 Dd=a3 (.lst ys):=g5 _ _ m3;have hA:∀a∈[Dd],Hd (H5 a):=λa ha=>.inl ⟨ys,by rw[xn.mp ha];exact m5⟩;have I5p:=I5.pinned (fpok fr5) (T.obj _ _ st5);have I5h:=I5p.hide hA;have R5:Rep X.K ρ σ3 (del H5 [Dd]):=R3.grow (je g5);have en5':Enc X.K (del (del H5 [Dd]) (owns ρ)) ds[i] x:=by rw[Z0];exact en5 _ hd
   refine thn (hG σ3 (del H5 [Dd]) x (λσ6 F6=>F6=del H5 [Dd]/\Rep X.K ρ2 σ6 F6) R5 en5' (λσ6 R6=>⟨rfl,R6⟩) _ s5 u I5h r5) λ_ s6 ⟨σ6,F6,I6,e6,R6⟩=>?_;subst e6;refine thn (hT.run I6 R6) λokv s7 ⟨e7,F7,I7,g7⟩=>?_;subst e7;have R7:Rep X.K ρ σ6 F7:=wk _ _ _ (R6.grow g7);have g27:j0 H2 F7:=g3.trans ((je g5).trans g7);have en7:j4 X.K (del F7 (owns ρ)) (((ds.take i).filter p).map g) ys:=en3.mono (by
    have:del H3 (Dd::owns ρ)=del (del H3 [Dd]) (owns ρ):=by rw[Z0];rfl
    rw[this];exact je ((je g5).trans g7))
   have iG:∀{F:Hp}{s':af},Inv (cCx X scope C s2 H2 fp (X.pn++pins)) ([]++Ym fp s5.heap) σ6 F s'->Inv (cCx X scope C s2 H2 fp (X.pn++pins)) [] σ6 F s'/\tn (i+1) s'.heap/\∀b∈fp,F b=a6:=λ{F s'} I=>by refine⟨I.unpinned,T.keep _ _ _ st5 λb hb o e=>(I.pin (b,o) (Xe _ (Xe _ (Qy hb e)))).1,λb hb=>?_⟩;obtain⟨o,e,d⟩:=T.obj _ _ st5 b hb;exact(I.pin (b,o) (Xe _ (Xe _ (Qy hb e)))).2.1
   have tk:ds.take (i+1)=ds.take i++[ds[i]]:=by rw[Tq,hd];rfl
   cases hp:p ds[i] with
   |false =>
    rw[if_neg xf];obtain⟨hF,I8⟩:=I5p.unhide hA I7;obtain⟨I9,st9,fr9⟩:=iG I8;refine⟨ds.length-(i+1),by omega,i+1,σ6,_,ys,I9,st9,fr9,hlt,rfl,by rw[Ye hF];exact R7,by rw[Ye hF];exact g27,by rw[Jd (xn.mpr rfl)];exact m5,?_⟩;have:del (mrg [Dd] H5 F7) (Dd::owns ρ)=del F7 (owns ρ):=by
     have e:del (mrg [Dd] H5 F7) (Dd::owns ρ)=del (del (mrg [Dd] H5 F7) [Dd]) (owns ρ):=by rw[Z0];rfl
     rw[e,Ye hF]
    rw[this,tk,bZ];have e:[ds[i]].filter p=[]:=by simp[hp]
    rw[e,Xv];exact en7
   |true =>
    rw[if_pos rfl];refine thn (hE hp σ6 F7 (λv F8=>j0 F7 F8/\Enc X.K (del F8 (owns ρ2)) (g ds[i]) v) (R6.grow g7) (λv F8 g8 e8=>⟨g8,e8⟩) _ s7 I7) λy s8 ⟨v,F8,I8,r8,g8,e8⟩=>?_;obtain⟨hF,I8'⟩:=I5p.unhide hA I8;rw[eo]at e8;have eH:del (mrg [Dd] H5 F8) (Dd::owns ρ)=del F8 (owns ρ):=by
     have e:del (mrg [Dd] H5 F8) (Dd::owns ρ)=del (del (mrg [Dd] H5 F8) [Dd]) (owns ρ):=by rw[Z0];rfl
     rw[e,Ye hF]
    have hlen:ys.length<ak:=by have e1:=en7.length;have e2:((ds.take i).filter p).length<=(ds.take i).length:=Tf _ _;rw[kj]at e1;rw[Xo]at e2;omega
    refine thn (Lz _ s8 σ6 (mrg [Dd] H5 F8) (.ref Dd) [v] (.ref Dd) [y] (λ_ H9=>H9=upd (mrg [Dd] H5 F8) Dd (.lst (ys++[v]))) I8' rfl (.cons r8 .nil)
     ⟨Dd,ys,v,rfl,rfl,by rw[Jd (xn.mpr rfl)];exact m5,hlen,rfl⟩) λ_ s9 ⟨_,H9,I9,_,e9⟩=>?_
    subst e9;obtain⟨I10,st10,fr10⟩:=iG I9;have ed:del (upd (mrg [Dd] H5 F8) Dd (.lst (ys++[v]))) [Dd]=F8:=by rw[W3 (xn.mpr rfl),Ye hF]
    refine⟨ds.length-(i+1),by omega,i+1,σ6,_,ys++[v],I10,st10,fr10,hlt,rfl,by rw[ed];exact R7.grow g8,by rw[ed];exact g27.trans g8,j9,?_⟩;rw[W3 (xm ..),eH,tk,bZ,Xf];have e:[ds[i]].filter p=[ds[i]]:=by simp[hp]
    rw[e];exact(en7.mono (je g8)).append (.one e8)
  .have hi:i=ds.length:=by omega
   subst hi;refine thn (T.done (cCx X scope C s2 H2 fp (X.pn++pins)) rfl rfl rfl hc ds.length [] s3 σ3 H3 (λ_ _=>False) I3 (fpok fr3) st3 (stop (xx _))) λr s4 ⟨hr,I4⟩=>?_;subst hr;rw[cC]at en3;obtain⟨m,hm,_⟩:=I4.loc;refine hRR Dd C ys H3 s4 m ?_ (g3.trans ju) hD0 m3 en3 hm ⟨I4.free,T5 (Pb loclt hDlt),?_,λx c h=>Xa (Pb (celllt x c h) hDlt),λp hp=>Xa (Pb (pinlt p hp) hDlt)⟩
   .exact I2.call' (ch:=fp) I4.os I4.base I4.hok I4.bare λb hb=>⟨(f2 b hb).2.2.2.1,(f2 b hb).2.1,(f2 b hb).2.2.2.2.1,(f2 b hb).2.2.2.2.2⟩
   .have:=I2.sz;omega
 exact codeAny_compStart_list (loop _ rfl) (T.self _ 0 _ _ _ (T.keep _ _ _ st2 (λb _ o e=>old b o e)) (loop _ rfl))
end
section
variable{X:Cx}{ρ:Rho}{tg elt iter:aj}{ifs:List aj}{scope:b7}{pos p1 spos:aK}{ds:List D}{cs:List Nat}{p:D->Bool}{g:D->D}{x:ah}{P:Po}
theorem Oq{env:dB}{N:List ah}(h:Jx scope env N cs=a5):∀y∈scope.names,y.2=.free->(env.cells.lookup y.1).isSome=a5:=λy hy e=>by unfold Jx at h;rw[Xg]at h;have:=Pa.mp h.1 y hy;simp only[Xg,bne_iff_ne,ne_eq,bY]at this;exact this.2.elim (λz=>absurd e z) λz=>z.1
theorem M7{env:dB}{N:List ah}(h:Jx scope env N cs=a5):∀y∈scope.names,y.2=.local->scope.names.lookup y.1=a3 .local:=λy hy e=>by unfold Jx at h;rw[Xg]at h;have:=Pa.mp h.1 y hy;simp only[Xg,bne_iff_ne,ne_eq,bY,beq_iff_eq]at this;exact this.1.2.elim (λz=>absurd e z) λz=>z
theorem Inv.loose{pins:k8f}{σ:St}{H:Hp}{s:af}{C:aa}{h':aD}(I:Inv X pins σ H s)(L:Loose X pins H C)(sb:cg C s.heap h'):Inv X pins σ H { s with heap:=h' } :=
 I.turned (t':=s.toks) (λb o hb e=>sb.extBut b o hb e) L.free L.loc (.inr L.new) L.cell L.pin
theorem DO.comp(cs:List Nat)(p:D->Bool)(g:D->D)(hi:DI X ρ tg iter ds)
  (hb:∀C s H fp pn,∀d∈ds,∃ρ2,DG (cCx X scope C s H fp pn) ρ tg d ρ2/\Wk ρ2 ρ/\owns ρ2=owns ρ/\DTs (cCx X scope C s H fp pn) ρ2 ifs (p d)/\(p d=a5->DE (cCx X scope C s H fp pn) ρ2 elt (g d)))
  (hcs:∀j∈cs,ρ[j]?=a3 .un) (hsz:ds.length<=ak) (hc:X.calm=a5:=by rfl) (hkind:scope.kind=.function:=by rfl) (hok:Jx scope X.env X.N cs=a5:=by rfl)
  (hs:∀x,aB iter X.env x=pure x:=by intro _;rfl):DO X ρ (.ListComp elt [⟨tg,iter,ifs,0⟩] scope pos) ((ds.filter p).map g):=λσ H Q R q pins s I=>by
 rw[eval_ListComp];refine iu (use:=a6) rfl hs (De (Oq hok)) hkind (M7 hok) (thn (hi σ H (λJ H'=>j0 H H'/\Yy X.K (del H' (owns ρ)) J ds) R (λJ H' g1 ok=>⟨g1,ok⟩) pins s I) λv s1 h1=>thn h1 λitv s2 h2=>?_);obtain⟨it,fp,tn,J,H2,e,I2,T,st2,f2,g2,ok⟩:=h2;subst e;refine Ka (RR:=λacc C=>compPost (ax X.prog X.w) X.A X.xe a6 (EP X pins σ Q) acc C) I2 (R.grow g2) T st2 f2 ok hc hkind hok hcs hsz hb ?_;intro D C xs H' s' m I' gg n m' en hm L;exact⟨m,hm,λh' sb=>⟨.ref D,H',I'.loose L sb,rfl,q D xs H' (g2.trans gg) (g2.free n) m' en⟩⟩
theorem Wk.set{i:Nat}{d:D}(h:ρ[i]?=a3 .un):Wk (ρ.set i (.val d)) ρ:=λK σ H R=>by
 have q:=R.set_un (i:=i) (v:=(σ[i]?).join);have e:σ.set i ((σ[i]?).join)=σ:=by
  apply Tp;intro j;rw[de];split
  .rename_i h;subst h;split
   .rename_i h;rw[kh h];rfl
   .rename_i h;rw[Xp nofun]
  .rfl
 have e2:(ρ.set i (.val d)).set i .un=ρ:=by
  rw[kB];apply Tp;intro j;rw[de];split
  .rename_i z;subst z;split
   .rw[h]
   .rename_i z;rw[Xp nofun]at h;cases h
  .rfl
 rw[e,e2]at q;exact q
theorem Vn{i:Nat}{d:D}(h:ρ[i]?=a3 .un):owns (ρ.set i (.val d))=owns ρ:=Oi rfl λa l z=>by rw[h]at z;cases z
end
section
variable{prog:au}{w:az}{A:aC}{E:k8e}{s:af}
theorem j3v{j t:aa}{k:Nat}{its:Array a9}{y:a9}{Q:k8e}(hj:s.heap.IsTupleIter j t k)(ht:s.heap.IsTuple t its)(hy:its[k]?=a3 y)
  (q:∀h',h'.IsTupleIter j t (k+1)->cg j s.heap h'->Q y { s with heap:=h' }):ar (ax prog w) A (aW (.ref j)) Q E s:=by
 obtain⟨o,ho,hc,hd⟩:=id hj;obtain⟨ot,hot,_,m,hdt⟩:=ht;unfold aW;refine a7 (bB (name:=cQ "__next__") hj.typeIs bT (bA bT hj.typeIs gr ?_ (g9 _)));show ar _ _ (field (.ref j) 0 >>= _) _ _ s;refine a7 (cB ho hd (x:=.ref t) rfl ?_);show ar _ _ (if (aA t==aR)=a5 then _ else _) _ _ s;rw[if_neg (show ¬((aA t==aR)=a5)from xf)];show ar _ _ (field (.ref j) 1 >>= _) _ _ s;refine a7 (cB ho hd (x:=.int k 0) rfl ?_);show ar _ _ (gb (.ref t) >>= _) _ _ s;refine a7 (dq hot hdt ?_);simp only[X6,hy];refine a7 (eS ho hd (by simp) (ai ⟨y,rfl,ai (q _ ?_ (T9 ..))⟩));exact⟨_,dO _ ho (ia (cY hd _)),(jC ..).trans hc,by rw[cY hd];simp[dE]⟩
theorem j6a{j t:aa}{k:Nat}{its:Array a9}{Q:k8e}(hh:A.handled=a6)(hj:s.heap.IsTupleIter j t k)(ht:s.heap.IsTuple t its)(hy:its[k]?=a6)
  (q:∀h' x,dU j s.heap h'->(∃o,h'.get? x=a3 o/\o.cls=.type "StopIteration")->E (.ref x) { s with heap:=h' }):ar (ax prog w) A (aW (.ref j)) Q E s:=by
 obtain⟨o,ho,hc,hd⟩:=id hj;obtain⟨ot,hot,_,m,hdt⟩:=ht;unfold aW;refine a7 (bB (name:=cQ "__next__") hj.typeIs bT (bA bT hj.typeIs gr ?_ (g9 _)));show ar _ _ (field (.ref j) 0 >>= _) _ _ s;refine a7 (cB ho hd (x:=.ref t) rfl ?_);show ar _ _ (if (aA t==aR)=a5 then _ else _) _ _ s;rw[if_neg (show ¬((aA t==aR)=a5)from xf)];show ar _ _ (field (.ref j) 1 >>= _) _ _ s;refine a7 (cB ho hd (x:=.int k 0) rfl ?_);show ar _ _ (gb (.ref t) >>= _) _ _ s;refine a7 (dq hot hdt ?_);simp only[X6,hy];refine a7 (wpAny_rule (a7 (eS ho hd (by simp) ?_)));show ar _ _ (lU (.type "StopIteration") [] >>= _) _ _ _;refine a7 ?_;simp only[lU,newTuple];refine a7 (aI ?_ (by size_fits));refine a7 (m:=eV _ _) (gu (a:=aR) (by first|rfl|(simp only[eV];rfl)) ?_);refine aI ?_ (by size_fits);simp only[raiseNew];refine a7 (lY ?_)
 first|rw[show A.in1.handled=a6 from hh]|rw[hh]
 refine a7 (ai (wpAny_throw ?_));exact q _ _ (((T9 ..).extBut.push _).push _) ⟨_,X5 _ rfl,rfl⟩
end
def zb(lst:Bool)(h:aD)(j t:aa)(k:Nat):Prop:=if lst=a5 then h.IsListIter j t k else h.IsTupleIter j t k
def qw(lst:Bool)(h:aD)(t:aa)(its:Array a9):Prop:=if lst=a5 then h.IsList t its else h.IsTuple t its
section
variable{prog:au}{w:az}{A:aC}{E:k8e}{s:af}{lst:Bool}{h h':aD}{j t b:aa}{k:Nat}{its:Array a9}
theorem zb.ext(x:zb lst h j t k)(e:dU b h h')(n:j≠b):zb lst h' j t k:=by
 unfold zb at x ⊢;cases lst with
 |true=>rw[if_pos rfl]at x ⊢;exact x.extBut e n
 |false=>rw[if_neg xf]at x ⊢;exact x.extBut e n
theorem zb.stay(x:zb lst h j t k)(e:∀o,h.get? j=a3 o->h'.get? j=a3 o):zb lst h' j t k:=by
 unfold zb at x ⊢;cases lst with
 |true=>rw[if_pos rfl]at x ⊢;exact x.at e
 |false=>rw[if_neg xf]at x ⊢;exact x.at e
theorem zb.obj(x:zb lst h j t k):∃o,h.get? j=a3 o/\∀v,o.data≠.cell v:=by
 unfold zb at x;cases lst with
 |true=>rw[if_pos rfl]at x;obtain⟨o,e,c,d⟩:=x;exact⟨o,e,λv z=>by rw[d]at z;cases z⟩
 |false=>rw[if_neg xf]at x;obtain⟨o,e,c,d⟩:=x;exact⟨o,e,λv z=>by rw[d]at z;cases z⟩
theorem qw.ext(x:qw lst h t its)(e:dU b h h')(n:t≠b):qw lst h' t its:=by
 unfold qw at x ⊢;cases lst with
 |true=>rw[if_pos rfl]at x ⊢;exact x.extBut e n
 |false=>rw[if_neg xf]at x ⊢;exact x.extBut e n
theorem j4q{y:a9}{Q:k8e}(hj:zb lst s.heap j t k)(ht:qw lst s.heap t its)(hy:its[k]?=a3 y)
  (q:∀h',zb lst h' j t (k+1)->cg j s.heap h'->Q y { s with heap:=h' }):ar (ax prog w) A (aW (.ref j)) Q E s:=by
 unfold zb at hj q;unfold qw at ht;cases lst with
 |true=>rw[if_pos rfl]at hj ht;simp only[if_true]at q;exact wpAny_nextOf_list_item hj ht hy q
 |false=>rw[if_neg xf]at hj ht;simp only[Xz,if_false]at q;exact j3v hj ht hy q
theorem Eo{Q:k8e}(hh:A.handled=a6)(hj:zb lst s.heap j t k)(ht:qw lst s.heap t its)(hy:its[k]?=a6)
  (q:∀h' x,dU j s.heap h'->(∃o,h'.get? x=a3 o/\o.cls=.type "StopIteration")->E (.ref x) { s with heap:=h' }):ar (ax prog w) A (aW (.ref j)) Q E s:=by
 unfold zb at hj;unfold qw at ht;cases lst with
 |true=>rw[if_pos rfl]at hj ht;exact wpAny_nextOf_list_end hh hj ht hy q
 |false=>rw[if_neg xf]at hj ht;exact j6a hh hj ht hy q
end
section
variable{prog:au}{w:az}{A:aC}{E:k8e}{s:af}{l1 l2:Bool}{z TI TO i1 i2 t1 t2:aa}{k:Nat}{us vs:Array a9}{x y a b:a9}
end
noncomputable def Ep(lst:Bool):String:=if lst=a5 then "list_iterator" else "tuple_iterator"
noncomputable abbrev zh1(h:aD)(l1:Bool)(t1:aa):aD:=h.push { cls:=.type (Ep l1),data:=.fields #[.ref t1,.int 0 0] }
section
variable{prog:au}{w:az}{A:aC}{E:k8e}{s:af}{l1 l2:Bool}{t1 t2:aa}{us vs:Array a9}
theorem Rr{lst:Bool}{t:aa}{its:Array a9}{Q:k8e}(h:qw lst s.heap t its)(q:Q (.ref s.heap.objs.size) { s with heap:=zh1 s.heap lst t }):ar (ax prog w) A (hZ (.ref t)) Q E s:=by
 unfold qw at h;cases lst with
 |true=>rw[if_pos rfl]at h;exact bo h q
 |false=>rw[if_neg xf]at h;exact fE h q
end
def SqB(K:k8d)(lst:Bool)(H:Hp)(a:aa)(xs:List V):Prop:=if lst=a5 then SqL K H a xs else SqT K H a xs
section
variable{X:Cx}{pins:k8f}{σ:St}{H:Hp}{s:af}{a p:aa}{xs ys:List V}{lst:Bool}{ch:List aa}{h':aD}
theorem j0.seqB{K:k8d}{H':Hp}(e:j0 H H')(h:SqB K lst H a xs):SqB K lst H' a xs:=by
 unfold SqB at h ⊢;cases lst with
 |true=>rw[if_pos rfl]at h ⊢;exact e.seq h
 |false=>rw[if_neg xf]at h ⊢;exact e.seqT h
theorem Inv.side(I:Inv X pins σ H s)(h:SqB X.K lst H a xs):∃us:List a9,Vals xs us/\qw lst s.heap a us.toArray/\xs.length<=ak:=by
 unfold SqB at h;unfold qw;cases lst with
 |true=>rw[if_pos rfl]at h;obtain⟨its,r,q,l⟩:=I.list h;exact⟨its,r,by rw[if_pos rfl];exact q.isList,l⟩
 |false=>rw[if_neg xf]at h;obtain⟨its,r,q,l⟩:=I.tuple h;exact⟨its,r,by rw[if_neg xf];exact q,l⟩
theorem Inv.side_inj(I:Inv X pins σ H s)(h:SqB X.K lst H a xs)(h':SqB X.K lst H a ys):xs=ys:=by
 unfold SqB at h h';cases lst with
 |true=>rw[if_pos rfl]at h h';exact I.list_inj h h'
 |false=>rw[if_neg xf]at h h';exact I.tuple_inj h h'
theorem Inv.chg(I:Inv X pins σ H s)(hf:∀b∈ch,Ze X pins H b)(kp:∀c o,c∉ch->s.heap.get? c=a3 o->h'.get? c=a3 o):Inv X pins σ H { s with heap:=h' }:=by
 refine I.step (g':=s.gens) (t':=s.toks) (d':=s.drawn) (ch:=ch) (λb hb=>⟨(hf b hb).2.2.2.1,(hf b hb).2.1,(hf b hb).2.2.2.2.1,(hf b hb).2.2.2.2.2⟩) (λb o _ _ nc e _=>kp b o nc e) (λb o _ _ nc e _=>⟨o.slots,kp b o nc e⟩)
  (λb o _ _ n=>n) (λb o nc e=>⟨o,kp b o nc e⟩) (λb xs e=>e) (λb o u e=>e) (λb ps e=>⟨#[],by rw[e];simp⟩) (λm hm=>hm.at' λo e=>kp _ o (λz=>(hf _ z).2.1 rfl) e) (λc o e=>?_) I.bare
 have out:∀{b:aa}{u:HO},H b=a3 u->b∉ch:=λ{b u} q z=>by rw[(hf b z).1]at q;cases q
 refine jj.stay (I.hok c o e) (λb u hb q=>kp b u ?_ q) (λb q=>q) (λb xs q=>q) (λb _ _ q=>q);rcases hb with hb|hb
 .subst hb;exact out e
 .exact out hb
theorem Inv.chgT(I:Inv X pins σ H s)(hf:∀b∈ch,Ze X pins H b)(kp:∀c o,c∉ch->s.heap.get? c=a3 o->h'.get? c=a3 o){us:List a9}(rv:Vals xs us)(hl:xs.length<=ak)
  (hp:i4 h' s.heap.objs.size us.toArray) (hq:V8 h' s.heap.objs.size):Inv X pins σ (upd H s.heap.objs.size (.tup xs)) { s with heap:=h' }:=by
 have hn:=I.fresh;have nz:∀{b:aa}{o:d8},s.heap.get? b=a3 o->b≠s.heap.objs.size:=λ{b o} e=>Xa (xu e);have tr:∀{b:aa}{u:HO},H b=a3 u->upd H s.heap.objs.size (.tup xs) b=a3 u:=λ{b u} e=>by rw[jg (vf e hn)];exact e
 refine I.step (g':=s.gens) (t':=s.toks) (d':=s.drawn) (ch:=ch) (λb hb=>⟨(hf b hb).2.2.2.1,(hf b hb).2.1,(hf b hb).2.2.2.2.1,(hf b hb).2.2.2.2.2⟩) (λb o _ _ nc e _=>kp b o nc e) (λb o _ _ nc e _=>⟨o.slots,kp b o nc e⟩)
  (λb o _ e n=>by rw[jg (nz e)];exact n) (λb o nc e=>⟨o,kp b o nc e⟩) (λb xs e=>tr e) (λb o u e=>tr e) (λb ps e=>⟨#[],by rw[tr e];simp⟩) (λm hm=>hm.at' λo e=>kp _ o (λz=>(hf _ z).2.1 rfl) e) (λc o e=>?_) I.bare
 have out:∀{b:aa}{u:HO},H b=a3 u->b∉ch:=λ{b u} q z=>by rw[(hf b z).1]at q;cases q
 by_cases z:c=s.heap.objs.size
 .subst z;rw[j9]at e;cases e;exact⟨hl,us,rv,hp,hq⟩
 .rw[jg z]at e;refine jj.stay (I.hok c o e) (λb u hb q=>kp b u ?_ q) (λb q=>tr q) (λb xs q=>tr q) (λb _ _ q=>tr q);rcases hb with hb|hb
  .subst hb;exact out e
  .exact out hb
end
section
variable{X:Cx}{ρ:Rho}{a b:aj}{es:List aj}{n:Nat}{pos p q1 q2:aK}{ds ds':List D}{l1 l2:Bool}
noncomputable def D.seq(lst:Bool)(ds:List D):D:=if lst=a5 then .lst ds else .tup ds
theorem Vh{K:k8d}{H:Hp}{lst:Bool}{v:V}(h:Enc K H (D.seq lst ds) v):∃t xs,v=.ref t/\SqB K lst H t xs/\j4 K H ds xs:=by
 unfold D.seq at h;unfold SqB;cases lst with
 |true=>rw[if_pos rfl]at h;obtain⟨t,xs,e,s,l⟩:=h;exact⟨t,xs,e,by rw[if_pos rfl];exact s,l⟩
 |false=>rw[if_neg xf]at h;obtain⟨t,xs,e,s,l⟩:=h;exact⟨t,xs,e,by rw[if_neg xf];exact s,l⟩
theorem DG.pair{x y:ah}(i j:Nat){d d':D}(hij:i≠j)(hN:X.N.Nodup)(hi:X.N[i]?=a3 x:=by rfl)(hj:X.N[j]?=a3 y:=by rfl)(hx:Loc X.env.scope x:=by first|exact aV rfl|exact bj rfl)(hy:Loc X.env.scope y:=by first|exact aV rfl|exact bj rfl)
  (fx:X.fn x=a5\/X.env.scope.names.lookup x=a3 .local:=by first|exact .inl rfl|exact .inr rfl) (fy:X.fn y=a5\/X.env.scope.names.lookup y=a3 .local:=by first|exact .inl rfl|exact .inr rfl) (hc:X.calm=a5:=by rfl)
  (hn:(bg [.Name x q1,.Name y q2] X.env).length=2:=by rfl) (hst:(bg [.Name x q1,.Name y q2] X.env).findIdx? (·.1)=a6:=by rfl)
  (e1:(bg [.Name x q1,.Name y q2] X.env).map (·.2)=cL (.Name x q1) X.env::(bg [.Name y q2] X.env).map (·.2):=by rfl) (e2:(bg [.Name y q2] X.env).map (·.2)=cL (.Name y q2) X.env::(bg [] X.env).map (·.2):=by rfl) :
  DG X ρ (.Tuple [.Name x q1,.Name y q2] n pos) (.tup [d,d']) ((ρ.set i (.val d)).set j (.val d')):=by
 refine⟨λb hb=>(jf rfl).subset ((jf rfl).subset hb),λσ H v Q R en q=>?_⟩;obtain⟨t,xs,ev,sq,u,r,e,eu,u',r',e',eu',er⟩:=en;subst e e' ev er;refine(j58 hc (Yn (Zv hN hi hx fx) (Yn (Zv hN hj hy fy) j23 e2) e1) hn hst).to ⟨t,[u,u'],rfl,ju.seqT sq,rfl,u,[u'],rfl,u',[],rfl,rfl,?_⟩;refine q _ ?_;have R1:Rep X.K (ρ.set i (.val d)) (σ.set i (a3 u)) H:=R.set_val eu;exact R1.set_val (eu'.mono (vo λb hb=>(jf rfl).subset hb))
end
noncomputable def D.ty:D->String
 |.non=>"NoneType"
 |.bl _=>"bool"
 |.int _=>"int"
 |.str _=>"str"
 |.tup _=>"tuple"
 |.lst _=>"list"
 |.dct _ _=>"dict"
 |.sct _=>"dict"
 |.fn _ _=>"function"
section
variable{X:Cx}{pins:k8f}{σ:St}{H:Hp}{s:af}{A:aC}{E:k8e}{Q:k8e}{c:a9}{b:Bool}
theorem j5x {d:D} {v:V} {u:a9} (I:Inv X pins σ H s) (en:Enc X.K H d v) (r:RelV v u) (nf:d.ty ≠ "function"):∃P:aD->Prop,PySem.W.KitX X.K u (.type d.ty) P/\P s.heap/\u≠.builtin "__main__.__loader__#opaque":=by
 cases d with
 |non=>cases(show v=.non from en);cases(show u=aR from r);exact⟨_,W.kitx_none,trivial,λz=>nomatch z⟩
 |bl k=>cases(show v=.bl k from en);cases(show u=bu k from r);exact⟨_,W.kitx_bool,trivial,λz=>nomatch z⟩
 |int k=>cases(show v=.int k from en);obtain⟨t,q⟩:=(show ∃t,u=bc k t from r);cases q;exact⟨_,W.kitx_int,trivial,λz=>nomatch z⟩
 |str k=>cases(show v=.str k from en);obtain⟨t,q⟩:=(show ∃t,u=bC k t from r);cases q;exact⟨_,W.kitx_str,trivial,λz=>nomatch z⟩
 |tup l =>obtain⟨a,xs,e,sq,_⟩:=en;subst e;cases(show u=aA a from r);obtain⟨its,_,⟨o,h1,h2,_⟩,_⟩:=I.tuple sq;exact⟨_,W.kitx_tuple,⟨o,h1,h2⟩,λz=>nomatch z⟩
 |lst l =>obtain⟨a,xs,e,sq,_⟩:=en;subst e;cases(show u=aA a from r);obtain⟨its,_,⟨o,n,h1,h2,_⟩,_⟩:=I.list sq;exact⟨_,W.kitx_list,⟨o,h1,h2⟩,λz=>nomatch z⟩
 |dct ks l =>
  obtain⟨a,xs,ep,vs,e,hx,_⟩:=en;subst e;cases(show u=aA a from r);obtain⟨_,_,_,o,es,h1,h2,_⟩:=(show jj X.prog X.w H s.heap a (.dI xs ep)from I.hok _ _ hx)
  exact⟨_,W.kitx_dict,⟨o,h1,h2.1⟩,λz=>nomatch z⟩
 |sct k =>
  obtain⟨a,e,hx⟩:=en;subst e;cases(show u=aA a from r);obtain⟨_,_,vs,_,o,es,ep,h1,h2,_⟩:=(show jj X.prog X.w H s.heap a (.dK (kvI k))from I.hok _ _ hx)
  exact⟨_,W.kitx_dict,⟨o,h1,h2.1⟩,λz=>nomatch z⟩
 |fn x l=>exact absurd rfl nf
theorem j6z:Jq X (.builtin "isinstance") (λxs H Q=>∃v d c b,xs=[v,.ty c]/\Enc X.K H d v/\d.ty ≠ "function"/\W.kitOne X.K (.type d.ty) (.type c)=a3 b/\Q (.bl b) H):=by rintro pins s σ H xs us Q I r ⟨v,d,c,b,e,en,nf,k,q⟩;subst e;obtain⟨u,u',eu,r1,r2⟩:=vals2 r;subst eu;cases(show u'=bL c from r2);obtain⟨P,Z,hp,hn⟩:=j5x I en r1 nf;exact W.kia_one Z I.kIn hp k hn λtk=>⟨.bl b,H,I.tok tk,rfl,q⟩
theorem j6y:Jq X (.builtin "isinstance") (λxs H Q=>∃(v:V)(t:aa)(d:D)(cs:List String)(b:Bool),xs=[v,.ref t]/\Enc X.K H d v/\d.ty ≠ "function"/\SqT X.K H t (cs.map V.ty)/\W.kitAny X.K (.type d.ty) (cs.map bL)=a3 b/\Q (.bl b) H):=by
 rintro pins s σ H xs us Q I r ⟨v,t,d,cs,b,e,en,nf,sq,k,q⟩;subst e;obtain⟨u,u',eu,r1,r2⟩:=vals2 r;subst eu;cases(show u'=aA t from r2);obtain⟨P,Z,hp,hn⟩:=j5x I en r1 nf;obtain⟨its,rv,⟨⟨cl,dd,da,sl⟩,h1,h2,n,h3⟩,_⟩:=I.tuple sq;have h2:cl=.type "tuple":=h2;have h3:da=.seq its.toArray n:=h3;subst h2 h3;have ei:∀{cs:List String}{its:List a9},Vals (cs.map V.ty) its->its=cs.map bL:=λ{cs}=>by
  induction cs with
  |nil=>intro its h;exact h.zero
  |cons c cs ih=>intro its h;cases h with|cons a b=>cases a;rw[ih b];rfl
 rw[ei rv]at h1;exact W.kia_tup Z I.kIn hp h1 k hn λtk=>⟨.bl b,H,I.tok tk,rfl,q⟩
end
section
variable{X:Cx}{ρ:Rho}{a b:aj}{d:D}{pos p p1 p2 p3:aK}{T T1 T2:ah}{c c1 c2:String}{k:Bool}{n:Nat}
theorem j3e (hg:Gl X T) (hm:X.mg T=a6) (hv:aY T=a3 (.type c)) (hn:T ≠ "__name__":=by decide) (hd:(T==k8h)=a4:=by decide):PE X (.Name T p) (tC (.ty c)):=jc8 hg hm hv rfl hn hd
theorem DE.isi1 (ha:DT X ρ a d) (nf:d.ty ≠ "function") (hm:X.mg "isinstance" = a6) (hT:X.mg T=a6) (hv:aY T=a3 (.type c)) (hk:W.kitOne X.K (.type d.ty) (.type c)=a3 k) (hg:Gl X "isinstance":=by rfl) (hg2:Gl X T:=by rfl)
  (hn:T ≠ "__name__":=by decide) (hd:(T==k8h)=a4:=by decide)
  (hs:a8 [a,.Name T p2] X.env=(a4,ay a X.env)::a8 [.Name T p2] X.env:=by rfl) (hs2:a8 [.Name T p2] X.env=(a4,ay (.Name T p2) X.env)::a8 [] X.env:=by rfl) (hpl:(aM pos (a8 [.Name T p2] X.env)).any (·.1)=a4:=by rfl) :
  DE X ρ (.Call (.Name "isinstance" p) [a,.Name T p2] [] pos) (.bl k):=λσ H Q R q =>
 (vq j6z hg hm lL (jd peS (jd (j3e hg2 hT hv hn hd) jz hs2) hs) (by decide) (by decide) hs hpl).to (ha σ H _ R λv H1 g1 e1=>⟨v,d,c,k,rfl,e1,nf,hk,q _ H1 g1 rfl⟩)
theorem DE.isi2 {m:Nat} (ha:DT X ρ a d) (nf:d.ty ≠ "function") (hm:X.mg "isinstance" = a6) (hT1:X.mg T1=a6) (hT2:X.mg T2=a6) (hv1:aY T1=a3 (.type c1)) (hv2:aY T2=a3 (.type c2))
  (hk:W.kitAny X.K (.type d.ty) [.type c1,.type c2]=a3 k) (hg:Gl X "isinstance":=by rfl) (hg1:Gl X T1:=by rfl) (hg2:Gl X T2:=by rfl)
  (hn1:T1 ≠ "__name__":=by decide) (hd1:(T1==k8h)=a4:=by decide) (hn2:T2 ≠ "__name__":=by decide) (hd2:(T2==k8h)=a4:=by decide)
  (hs:a8 [a,.Tuple [.Name T1 p1,.Name T2 p2] m p3] X.env=(a4,ay a X.env)::a8 [.Tuple [.Name T1 p1,.Name T2 p2] m p3] X.env:=by rfl)
  (hs2:a8 [.Tuple [.Name T1 p1,.Name T2 p2] m p3] X.env=(a4,ay (.Tuple [.Name T1 p1,.Name T2 p2] m p3) X.env)::a8 [] X.env:=by rfl) (hpl:(aM pos (a8 [.Tuple [.Name T1 p1,.Name T2 p2] m p3] X.env)).any (·.1)=a4:=by rfl)
  (hs3:a8 [.Name T1 p1,.Name T2 p2] X.env=(a4,ay (.Name T1 p1) X.env)::a8 [.Name T2 p2] X.env:=by rfl) (hs4:a8 [.Name T2 p2] X.env=(a4,ay (.Name T2 p2) X.env)::a8 [] X.env:=by rfl) :
  DE X ρ (.Call (.Name "isinstance" p) [a,.Tuple [.Name T1 p1,.Name T2 p2] m p3] [] pos) (.bl k):=λσ H Q R q =>
 (vq j6y hg hm lL (jd peS (jd (j59 (jd (j3e hg1 hT1 hv1 hn1 hd1) (jd (j3e hg2 hT2 hv2 hn2 hd2) jz hs4) hs3)) jz hs2) hs) (by decide) (by decide) hs hpl).to
  (ha σ H _ R λv H1 g1 e1=>⟨by show 2<=ak;decide,λt ht=>⟨v,t,d,[c1,c2],k,rfl,e1.mono (j7 ht),nf,.inl (.inl j9),hk,q _ _ (g1.trans (j7 ht)) rfl⟩⟩)
end
mutual
noncomputable def deq:D->D->Bool
 |.non,.non=>a5
 |.bl a,.bl b=>a==b
 |.bl a,.int b=>(if a then 1 else 0)==b
 |.int a,.bl b=>a==(if b then 1 else 0)
 |.int a,.int b=>a==b
 |.str a,.str b=>a==b
 |.tup xs,.tup ys=>zy xs ys
 |.lst xs,.lst ys=>zy xs ys
 |.dct k xs,.dct m ys=>decide (k=m)&&zy xs ys
 |.sct k,.sct m=>decide (k=m)
 |_,_=>a4
noncomputable def zy:List D->List D->Bool
 |[],[]=>a5
 |x::xs,y::ys=>deq x y&&zy xs ys
 |_,_=>a4
end
theorem jhc{a b:Bool}:deq (.bl a) (.bl b)=(a==b):=(rfl)
theorem j6c{a b:Int}:deq (.int a) (.int b)=(a==b):=(rfl)
theorem j6b{a b:ah}:deq (.str a) (.str b)=(a==b):=(rfl)
theorem Fw{a b:List D}:deq (.tup a) (.tup b)=zy a b:=(rfl)
theorem j0r{a b:List D}:deq (.lst a) (.lst b)=zy a b:=(rfl)
theorem Ys:zy [] []=a5:=(rfl)
theorem Qu{x y:D}{xs ys:List D}:zy (x::xs) (y::ys)=(deq x y&&zy xs ys):=(rfl)
theorem O5{y:D}{ys:List D}:zy [] (y::ys)=a4:=(rfl)
theorem O6{x:D}{xs:List D}:zy (x::xs) []=a4:=(rfl)
mutual
noncomputable def D.dep:D->Nat
 |.tup xs=>D.depL xs+1
 |.lst xs=>D.depL xs+1
 |.dct _ _=>20000
 |.sct _=>20000
 |.fn _ _=>20000
 |_=>0
noncomputable def D.depL:List D->Nat
 |[]=>0
 |x::xs=>max x.dep (D.depL xs)
end
mutual
theorem N5:∀d:D,d.dep<10000->deq d d=a5
 |.non,_=>rfl
 |.bl b,_=>by rw[jhc];simp
 |.int i,_=>by rw[j6c];simp
 |.str x,_=>by rw[j6b];simp
 |.tup xs,h=>by rw[Fw];exact Ub xs (by simp only[D.dep]at h;omega)
 |.lst xs,h=>by rw[j0r];exact Ub xs (by simp only[D.dep]at h;omega)
 |.dct _ _,h=>by simp[D.dep]at h
 |.sct _,h=>by simp[D.dep]at h
 |.fn _ _,h=>by simp[D.dep]at h
theorem Ub:∀ds:List D,D.depL ds<10000->zy ds ds=a5
 |[],_=>rfl
 |d::ds,h=>by rw[D.depL]at h;rw[Qu,N5 d nofun,Ub ds nofun];rfl
end
theorem Yt:∀{xs ys:List D},xs.length≠ys.length->zy xs ys=a4
 |[],[],h=>absurd rfl h
 |[],_::_,_=>by simp[Ys,Qu,O5,O6]
 |_::_,[],_=>by simp[Ys,Qu,O5,O6]
 |x::xs,y::ys,h=>by have:=Yt (xs:=xs) (ys:=ys) (by simpa using h);simp[Ys,Qu,O5,O6,this]
theorem V5{f:Nat->Bool}:∀{xs ys:List D},xs.length=ys.length->(∀(j:Nat) x y,xs[j]?=a3 x->ys[j]?=a3 y->f j=deq x y)->(aw xs.length).all f=zy xs ys
 |[],[],_,_=>by simp[Ys,Qu,O5,O6]
 |[],_::_,h,_=>by simp at h
 |_::_,[],h,_=>by simp at h
 |x::xs,y::ys,h,hf=>by have ih:=V5 (f:=λj=>f (j+1)) (xs:=xs) (ys:=ys) (by simpa using h) (λj a b ha hb=>hf (j+1) a b (by simpa using ha) (by simpa using hb));rw[X8,cq,bX,hf 0 x y rfl rfl,gP];simp only[Qu];rw[<-ih];rfl
section
variable{X:Cx}{pins:k8f}{σ:St}{H:Hp}{s:af}
theorem j08(I:Inv X pins σ H s){a:aa}{xs ys:List V}(h:SqT X.K H a xs)(h':SqL X.K H a ys):False:=by obtain⟨_,_,⟨o,h1,h2,_⟩,_⟩:=I.tuple h;obtain⟨_,_,⟨o',n,h1',h2',_⟩,_⟩:=I.list h';rw[h1]at h1';cases h1';rw[h2]at h2';injection h2' with e;exact absurd e (by decide)
noncomputable def D.atom:D->Option V
 |.non=>a3 .non
 |.bl b=>a3 (.bl b)
 |.int i=>a3 (.int i)
 |.str x=>a3 (.str x)
 |_=>a6
theorem Enc.at_{K:k8d}{d:D}{v u:V}(h:Enc K H d v)(e:d.atom=a3 u):v=u:=by
 cases d with
 |non=>cases e;exact(show v=.non from h)
 |bl b=>cases e;exact(show v=.bl b from h)
 |int i=>cases e;exact(show v=.int i from h)
 |str x=>cases e;exact(show v=.str x from h)
 |_=>cases e
theorem Enc.ref{K:k8d}{d:D}{v:V}(h:Enc K H d v)(e:d.atom=a6):∃a,v=.ref a:=by
 cases d with
 |tup l=>obtain⟨a,_,e,_⟩:=h;exact⟨a,e⟩
 |lst l=>obtain⟨a,_,e,_⟩:=h;exact⟨a,e⟩
 |dct k l=>obtain⟨a,_,_,_,e,_⟩:=h;exact⟨a,e⟩
 |sct k=>obtain⟨a,e,_⟩:=h;exact⟨a,e⟩
 |fn x l=>obtain⟨a,_,_,_,_,e,_⟩:=h;exact⟨a,e⟩
 |_=>cases e
theorem ja6{d d':D}{u:V}(h:d.atom=a3 u)(h':d'.atom=a3 u):d=d':=by cases d<;>cases d'<;>first|(cases h;done)|(cases h';done)|(cases h;cases h';rfl)|(cases h;cases h')
theorem j14{d:D}{a:aa}(h:d.atom=a3 (.ref a)):False:=by cases d<;>cases h
theorem jgo(I:Inv X pins σ H s){d d':D}{v:V}(hd:d.dep<10000)(hd':d'.dep<10000)(h:Enc X.K H d v)(h':Enc X.K H d' v) :
  d=d'\/∃ds ds' xs,((d=.tup ds/\d'=.tup ds')\/(d=.lst ds/\d'=.lst ds'))/\j4 X.K H ds xs/\j4 X.K H ds' xs:=by
 cases e:d.atom with
 |some u =>
  have ev:=h.at_ e;subst ev;cases e':d'.atom with
  |some u'=>exact .inl (ja6 e ((h'.at_ e')▸e'))
  |none=>obtain⟨a,ea⟩:=h'.ref e';subst ea;exact(j14 e).elim
 |none =>
  cases e':d'.atom with
  |some u'=>have ev:=h'.at_ e';subst ev;obtain⟨a,ea⟩:=h.ref e;subst ea;exact(j14 e').elim
  |none =>
   cases d with
   |tup ds =>
    obtain⟨a,xs,ea,sq,l⟩:=h;cases d' with
    |tup ds' =>obtain⟨a',ys,eb,sq',l'⟩:=h';rw[ea]at eb;cases eb;rw[I.tuple_inj sq' sq]at l';exact .inr ⟨ds,ds',xs,.inl ⟨rfl,rfl⟩,l,l'⟩
    |lst ds'=>obtain⟨a',ys,eb,sq',l'⟩:=h';rw[ea]at eb;cases eb;exact(j08 I sq sq').elim
    |dct _ _=>simp[D.dep]at hd'
    |sct _=>simp[D.dep]at hd'
    |fn _ _=>simp[D.dep]at hd'
    |_=>cases e'
   |lst ds =>
    obtain⟨a,xs,ea,sq,l⟩:=h;cases d' with
    |lst ds' =>obtain⟨a',ys,eb,sq',l'⟩:=h';rw[ea]at eb;cases eb;rw[I.list_inj sq' sq]at l';exact .inr ⟨ds,ds',xs,.inr ⟨rfl,rfl⟩,l,l'⟩
    |tup ds'=>obtain⟨a',ys,eb,sq',l'⟩:=h';rw[ea]at eb;cases eb;exact(j08 I sq' sq).elim
    |dct _ _=>simp[D.dep]at hd'
    |sct _=>simp[D.dep]at hd'
    |fn _ _=>simp[D.dep]at hd'
    |_=>cases e'
   |dct _ _=>simp[D.dep]at hd
   |sct _=>simp[D.dep]at hd
   |fn _ _=>simp[D.dep]at hd
   |_=>cases e
theorem j8w{n:Nat}(ih:∀{d d':D}{v:V},d.dep<=n->d.dep<10000->d'.dep<10000->Enc X.K H d v->Enc X.K H d' v->d=d'):∀{ds ds':List D}{xs:List V},D.depL ds<=n->D.depL ds<10000->D.depL ds'<10000->j4 X.K H ds xs->j4 X.K H ds' xs->ds=ds'
 |[],[],_,_,_,_,_,_=>rfl
 |[],_::_,_,_,_,_,h,⟨x,r,e,_⟩=>by cases h;cases e
 |_::_,[],_,_,_,_,⟨x,r,e,_⟩,h=>by cases h;cases e
 |d::ds,d'::ds',_,m,n1,n2,⟨x,r,e,h,l⟩,⟨x',r',e',h',l'⟩=>by subst e;cases e';rw[D.depL]at m n1 n2;rw[ih nofun nofun nofun h h',j8w ih nofun nofun nofun l l']
theorem j8v(I:Inv X pins σ H s):∀(n:Nat){d d':D}{v:V},d.dep<=n->d.dep<10000->d'.dep<10000->Enc X.K H d v->Enc X.K H d' v->d=d'
 |0,d,d',v,hn,hd,hd',h,h'=>by
  rcases jgo I hd hd' h h' with e|⟨ds,ds',xs,⟨e,_⟩|⟨e,_⟩,_⟩
  .exact e
  .subst e;simp[D.dep]at hn
  .subst e;simp[D.dep]at hn
 |n+1,d,d',v,hn,hd,hd',h,h'=>by
  rcases jgo I hd hd' h h' with e|⟨ds,ds',xs,⟨e,e'⟩|⟨e,e'⟩,l,l'⟩
  .exact e
  .subst e e';simp only[D.dep]at hn hd hd';rw[j8w (λa b c=>j8v I n a b c) nofun nofun nofun l l']
  .subst e e';simp only[D.dep]at hn hd hd';rw[j8w (λa b c=>j8v I n a b c) nofun nofun nofun l l']
theorem Enc.inj(I:Inv X pins σ H s){d d':D}{v:V}(hd:d.dep<10000)(hd':d'.dep<10000)(h:Enc X.K H d v)(h':Enc X.K H d' v):d=d':=j8v I d.dep (xx _) hd hd' h h'
end
section
variable{X:Cx}{pins:k8f}{σ:St}{H:Hp}{s:af}
theorem D.depL_le:∀{ds:List D}{j:Nat}{d:D},ds[j]?=a3 d->d.dep<=D.depL ds
 |[],_,_,h=>by simp at h
 |x::xs,0,d,h=>by simp at h;subst h;simp[D.depL];omega
 |x::xs,j+1,d,h=>by have:=D.depL_le (ds:=xs) (j:=j) (d:=d) (by simpa using h);simp[D.depL];omega
theorem Vc(I:Inv X pins σ H s):∀(n:Nat)(A:aC){d d':D}{v v':V}{u u':a9},d.dep<=n->A.units+n<aS->d'.dep<10000->Enc X.K H d v->RelV v u->Enc X.K H d' v'->RelV v' u' ->
  fO A s u u' (deq d d')/\cR A s u u' (deq d d')
 |0,A,d,d',v,v',u,u',hn,hu,nd,en,r,en',r'=>by
  have hu0:A.units<aS:=by omega
  cases d with
  |tup l=>simp[D.dep]at hn
  |lst l=>simp[D.dep]at hn
  |dct ks l=>simp[D.dep]at hn
  |sct k=>simp[D.dep]at hn
  |fn x l=>simp[D.dep]at hn
  |non =>
   cases(show v=.non from en);cases(show u=aR from r);cases d' with
   |dct ks' l'=>simp[D.dep]at nd
   |sct k'=>simp[D.dep]at nd
   |fn x' l'=>simp[D.dep]at nd
   |non=>cases(show v'=.non from en');cases(show u'=aR from r');exact⟨.none_none,.same _⟩
   |bl k=>cases(show v'=.bl k from en');cases(show u'=bu k from r');exact⟨.none_bool _,.none_bool _⟩
   |int k=>cases(show v'=.int k from en');obtain⟨t,q⟩:=(show ∃t,u'=bc k t from r');subst q;exact⟨.none_int _ _,.none_int _ _⟩
   |str k=>cases(show v'=.str k from en');obtain⟨t,q⟩:=(show ∃t,u'=bC k t from r');subst q;exact⟨.none_str _ _,.none_str _ _⟩
   |tup l=>obtain⟨a,xs,e,sq,_⟩:=en';subst e;cases(show u'=aA a from r');obtain⟨_,_,q,_⟩:=I.tuple sq;exact⟨.none_tuple q hu0,.none_tuple q hu0⟩
   |lst l=>obtain⟨a,xs,e,sq,_⟩:=en';subst e;cases(show u'=aA a from r');obtain⟨_,_,q,_⟩:=I.list sq;exact⟨.none_list q.isList hu0,.none_list q.isList hu0⟩
  |bl b =>
   cases(show v=.bl b from en);cases(show u=bu b from r);cases d' with
   |dct ks' l'=>simp[D.dep]at nd
   |sct k'=>simp[D.dep]at nd
   |fn x' l'=>simp[D.dep]at nd
   |non=>cases(show v'=.non from en');cases(show u'=aR from r');exact⟨.bool_none _,.bool_none _⟩
   |bl k=>cases(show v'=.bl k from en');cases(show u'=bu k from r');exact⟨.bool_bool _ _,.bool_bool _ _⟩
   |int k=>cases(show v'=.int k from en');obtain⟨t,q⟩:=(show ∃t,u'=bc k t from r');subst q;exact⟨.bool_int _ _ _,.bool_int _ _ _⟩
   |str k=>cases(show v'=.str k from en');obtain⟨t,q⟩:=(show ∃t,u'=bC k t from r');subst q;exact⟨.bool_str _ _ _,.bool_str _ _ _⟩
   |tup l=>obtain⟨a,xs,e,sq,_⟩:=en';subst e;cases(show u'=aA a from r');obtain⟨_,_,q,_⟩:=I.tuple sq;exact⟨.bool_tuple _ q hu0,.bool_tuple _ q hu0⟩
   |lst l=>obtain⟨a,xs,e,sq,_⟩:=en';subst e;cases(show u'=aA a from r');obtain⟨_,_,q,_⟩:=I.list sq;exact⟨.bool_list _ q.isList hu0,.bool_list _ q.isList hu0⟩
  |int b =>
   cases(show v=.int b from en);obtain⟨tk,q0⟩:=(show ∃t,u=bc b t from r);subst q0;cases d' with
   |dct ks' l'=>simp[D.dep]at nd
   |sct k'=>simp[D.dep]at nd
   |fn x' l'=>simp[D.dep]at nd
   |non=>cases(show v'=.non from en');cases(show u'=aR from r');exact⟨.int_none _ _,.int_none _ _⟩
   |bl k=>cases(show v'=.bl k from en');cases(show u'=bu k from r');exact⟨.int_bool _ _ _,.int_bool _ _ _⟩
   |int k=>cases(show v'=.int k from en');obtain⟨t,q⟩:=(show ∃t,u'=bc k t from r');subst q;exact⟨.int_int _ _ _ _,.int_int _ _ _ _⟩
   |str k=>cases(show v'=.str k from en');obtain⟨t,q⟩:=(show ∃t,u'=bC k t from r');subst q;exact⟨.int_str _ _ _ _,.int_str _ _ _ _⟩
   |tup l=>obtain⟨a,xs,e,sq,_⟩:=en';subst e;cases(show u'=aA a from r');obtain⟨_,_,q,_⟩:=I.tuple sq;exact⟨.int_tuple _ _ q hu0,.int_tuple _ _ q hu0⟩
   |lst l=>obtain⟨a,xs,e,sq,_⟩:=en';subst e;cases(show u'=aA a from r');obtain⟨_,_,q,_⟩:=I.list sq;exact⟨.int_list _ _ q.isList hu0,.int_list _ _ q.isList hu0⟩
  |str b =>
   cases(show v=.str b from en);obtain⟨tk,q0⟩:=(show ∃t,u=bC b t from r);subst q0;cases d' with
   |dct ks' l'=>simp[D.dep]at nd
   |sct k'=>simp[D.dep]at nd
   |fn x' l'=>simp[D.dep]at nd
   |non=>cases(show v'=.non from en');cases(show u'=aR from r');exact⟨.str_none _ _,.str_none _ _⟩
   |bl k=>cases(show v'=.bl k from en');cases(show u'=bu k from r');exact⟨.str_bool _ _ _,.str_bool _ _ _⟩
   |int k=>cases(show v'=.int k from en');obtain⟨t,q⟩:=(show ∃t,u'=bc k t from r');subst q;exact⟨.str_int _ _ _ _,.str_int _ _ _ _⟩
   |str k=>cases(show v'=.str k from en');obtain⟨t,q⟩:=(show ∃t,u'=bC k t from r');subst q;exact⟨.str_str _ _ _ _,.str_str _ _ _ _⟩
   |tup l=>obtain⟨a,xs,e,sq,_⟩:=en';subst e;cases(show u'=aA a from r');obtain⟨_,_,q,_⟩:=I.tuple sq;exact⟨.str_tuple _ _ q hu0,.str_tuple _ _ q hu0⟩
   |lst l=>obtain⟨a,xs,e,sq,_⟩:=en';subst e;cases(show u'=aA a from r');obtain⟨_,_,q,_⟩:=I.list sq;exact⟨.str_list _ _ q.isList hu0,.str_list _ _ q.isList hu0⟩
 |n+1,A,d,d',v,v',u,u',hn,hu,nd,en,r,en',r'=>by
  have hu0:A.units<aS:=by omega
  have hu1:A.in1.units+n<aS:=by show A.units+1+n<aS;omega
  have low:d.dep<=n->fO A s u u' (deq d d')/\cR A s u u' (deq d d'):=λh=>Vc I n A h nofun nd en r en' r';cases d with
  |non=>exact low (by simp[D.dep])
  |bl b=>exact low (by simp[D.dep])
  |int b=>exact low (by simp[D.dep])
  |str b=>exact low (by simp[D.dep])
  |dct ks l=>exfalso;have:(9900:Nat)=aS:=rfl;simp only[D.dep]at hn;omega
  |sct k=>exfalso;have:(9900:Nat)=aS:=rfl;simp only[D.dep]at hn;omega
  |fn x l=>exfalso;have:(9900:Nat)=aS:=rfl;simp only[D.dep]at hn;omega
  |tup ds =>
   have hd:D.depL ds<=n:=by simp[D.dep]at hn;omega
   obtain⟨a,xs,e,sq,l⟩:=id en;subst e;cases(show u=aA a from r);obtain⟨us,rv,q,_⟩:=I.tuple sq;cases d' with
   |dct ks' l'=>simp[D.dep]at nd
   |sct k'=>simp[D.dep]at nd
   |fn x' l'=>simp[D.dep]at nd
   |non=>cases(show v'=.non from en');cases(show u'=aR from r');exact⟨.tuple_none q hu0,.tuple_none q hu0⟩
   |bl k=>cases(show v'=.bl k from en');cases(show u'=bu k from r');exact⟨.tuple_bool _ q hu0,.tuple_bool _ q hu0⟩
   |int k=>cases(show v'=.int k from en');obtain⟨t,q'⟩:=(show ∃t,u'=bc k t from r');subst q';exact⟨.tuple_int _ _ q hu0,.tuple_int _ _ q hu0⟩
   |str k=>cases(show v'=.str k from en');obtain⟨t,q'⟩:=(show ∃t,u'=bC k t from r');subst q';exact⟨.tuple_str _ _ q hu0,.tuple_str _ _ q hu0⟩
   |lst ds'=>obtain⟨a',ys,e,sq',_⟩:=en';subst e;cases(show u'=aA a' from r');obtain⟨_,_,q',_⟩:=I.list sq';exact⟨.tuple_list q q'.isList hu0,.tuple_list q q'.isList hu0⟩
   |tup ds' =>
    obtain⟨a',ys,e,sq',l'⟩:=id en';subst e;cases(show u'=aA a' from r');obtain⟨us',rv',q',_⟩:=I.tuple sq';have e1:us.length=ds.length:=by rw[<-rv.length,l.length]
    have e2:us'.length=ds'.length:=by rw[<-rv'.length,l'.length]
    have main:fO A s (.ref a) (.ref a') (deq (.tup ds) (.tup ds')):=by
     have item:∀(j:Nat)(h1:j<us.toArray.size)(h2:j<us'.toArray.size),cR A.in1 s us.toArray[j] us'.toArray[j] (deq (ds.getD j .non) (ds'.getD j .non)):=λj h1 h2=>by
      have k1:j<ds.length:=by rw[<-e1];simpa using h1
      have k2:j<ds'.length:=by rw[<-e2];simpa using h2
      obtain⟨x,hx,ex⟩:=l.get (kh k1);obtain⟨y,hy,ey⟩:=l'.get (kh k2);obtain⟨w1,hw1,rw1⟩:=rv.get hx;obtain⟨w2,hw2,rw2⟩:=rv'.get hy;have g1:us.toArray[j]=w1:=by simp at h1 ⊢;rw[kh (by simpa using h1)]at hw1;exact av hw1
      have g2:us'.toArray[j]=w2:=by simp at h2 ⊢;rw[kh (by simpa using h2)]at hw2;exact av hw2
      rw[g1,g2,km,km,kh k1,kh k2];exact(Vc I n A.in1 (Xk (D.depL_le (kh k1)) hd) hu1 (c8 (D.depL_le (kh k2)) (by simp only[D.dep]at nd;omega)) ex rw1 ey rw2).2
     have z:=SeqAt.RcAt.tuples (A:=A) (s:=s) q q' hu0 (e:=λj=>deq (ds.getD j .non) (ds'.getD j .non)) item;have ev:((aw (min us.toArray.size us'.toArray.size)).all (λj=>deq (ds.getD j .non) (ds'.getD j .non))&&us.toArray.size==us'.toArray.size)=deq (.tup ds) (.tup ds'):=by
      simp only[Fw,X4,e1,e2];by_cases hl:ds.length=ds'.length
      .rw[hl,kX,beq_self_eq_true,gz,<-hl];exact V5 hl λj x y hx hy=>by rw[km,km,hx,hy];rfl
      .rw[Yt hl,beq_false_of_ne hl,fZ]
     rw[ev]at z;exact z
    refine⟨main,?_⟩;by_cases ea:a=a'
    .subst ea;have e9:(9900:Nat)=aS:=rfl;rw[Enc.inj I nofun nd en en',N5 _ nd];exact .same _
    .exact .of_refs ea main
  |lst ds =>
   have hd:D.depL ds<=n:=by simp[D.dep]at hn;omega
   obtain⟨a,xs,e,sq,l⟩:=id en;subst e;cases(show u=aA a from r);obtain⟨us,rv,q0,_⟩:=I.list sq;have q:=q0.isList;cases d' with
   |dct ks' l'=>simp[D.dep]at nd
   |sct k'=>simp[D.dep]at nd
   |fn x' l'=>simp[D.dep]at nd
   |non=>cases(show v'=.non from en');cases(show u'=aR from r');exact⟨.list_none q hu0,.list_none q hu0⟩
   |bl k=>cases(show v'=.bl k from en');cases(show u'=bu k from r');exact⟨.list_bool _ q hu0,.list_bool _ q hu0⟩
   |int k=>cases(show v'=.int k from en');obtain⟨t,q'⟩:=(show ∃t,u'=bc k t from r');subst q';exact⟨.list_int _ _ q hu0,.list_int _ _ q hu0⟩
   |str k=>cases(show v'=.str k from en');obtain⟨t,q'⟩:=(show ∃t,u'=bC k t from r');subst q';exact⟨.list_str _ _ q hu0,.list_str _ _ q hu0⟩
   |tup ds'=>obtain⟨a',ys,e,sq',_⟩:=en';subst e;cases(show u'=aA a' from r');obtain⟨_,_,q',_⟩:=I.tuple sq';exact⟨.list_tuple q q' hu0,.list_tuple q q' hu0⟩
   |lst ds' =>
    obtain⟨a',ys,e,sq',l'⟩:=id en';subst e;cases(show u'=aA a' from r');obtain⟨us',rv',q0',_⟩:=I.list sq';have q':=q0'.isList;have e1:us.length=ds.length:=by rw[<-rv.length,l.length]
    have e2:us'.length=ds'.length:=by rw[<-rv'.length,l'.length]
    have main:fO A s (.ref a) (.ref a') (deq (.lst ds) (.lst ds')):=by
     have item:∀(j:Nat)(h1:j<us.toArray.size)(h2:j<us'.toArray.size),cR A.in1 s us.toArray[j] us'.toArray[j] (deq (ds.getD j .non) (ds'.getD j .non)):=λj h1 h2=>by
      have k1:j<ds.length:=by rw[<-e1];simpa using h1
      have k2:j<ds'.length:=by rw[<-e2];simpa using h2
      obtain⟨x,hx,ex⟩:=l.get (kh k1);obtain⟨y,hy,ey⟩:=l'.get (kh k2);obtain⟨w1,hw1,rw1⟩:=rv.get hx;obtain⟨w2,hw2,rw2⟩:=rv'.get hy;have g1:us.toArray[j]=w1:=by simp at h1 ⊢;rw[kh (by simpa using h1)]at hw1;exact av hw1
      have g2:us'.toArray[j]=w2:=by simp at h2 ⊢;rw[kh (by simpa using h2)]at hw2;exact av hw2
      rw[g1,g2,km,km,kh k1,kh k2];exact(Vc I n A.in1 (Xk (D.depL_le (kh k1)) hd) hu1 (c8 (D.depL_le (kh k2)) (by simp only[D.dep]at nd;omega)) ex rw1 ey rw2).2
     simp only[j0r];by_cases hl:ds.length=ds'.length
     .have z:=SeqAt.RcAt.lists (A:=A) (s:=s) q q' (by simp[e1,e2,hl]) hu0 (e:=λj=>deq (ds.getD j .non) (ds'.getD j .non)) item;have ev:(aw us.toArray.size).all (λj=>deq (ds.getD j .non) (ds'.getD j .non))=zy ds ds':=by rw[X4,e1];exact V5 hl λj x y hx hy=>by rw[km,km,hx,hy];rfl
      rw[ev]at z;exact z
     .rw[Yt hl];exact .lists_lengths q q' (by simp[e1,e2,hl]) hu0
    refine⟨main,?_⟩;by_cases ea:a=a'
    .subst ea;have e9:(9900:Nat)=aS:=rfl;rw[Enc.inj I nofun nd en en',N5 _ nd];exact .same _
    .exact .of_refs ea main
end
section
variable{X:Cx}{pins:k8f}{σ:St}{H:Hp}{s:af}{A:aC}
theorem j8i(I:Inv X pins σ H s){n:Nat}{ds ds':List D}{xs ys:List V}{us us':List a9}(l:j4 X.K H ds xs)(rv:Vals xs us)(l':j4 X.K H ds' ys)(rv':Vals ys us')(hd:D.depL ds<=n)(hu:A.units+1+n<aS)(nd:D.depL ds'<10000) :
  ∀(j:Nat)(h1:j<us.toArray.size)(h2:j<us'.toArray.size),cR A.in1 s us.toArray[j] us'.toArray[j] (deq (ds.getD j .non) (ds'.getD j .non)):=λj h1 h2=>by
 have k1:j<ds.length:=by rw[<-l.length,rv.length];simpa using h1
 have k2:j<ds'.length:=by rw[<-l'.length,rv'.length];simpa using h2
 obtain⟨x,hx,ex⟩:=l.get (kh k1);obtain⟨y,hy,ey⟩:=l'.get (kh k2);obtain⟨w1,hw1,rw1⟩:=rv.get hx;obtain⟨w2,hw2,rw2⟩:=rv'.get hy;have g1:us.toArray[j]=w1:=by simp at h1 ⊢;rw[kh (by simpa using h1)]at hw1;exact av hw1
 have g2:us'.toArray[j]=w2:=by simp at h2 ⊢;rw[kh (by simpa using h2)]at hw2;exact av hw2
 rw[g1,g2,km,km,kh k1,kh k2];exact(Vc I n A.in1 (Xk (D.depL_le (kh k1)) hd) hu (c8 (D.depL_le (kh k2)) nd) ex rw1 ey rw2).2
theorem j5k(hu:X.A.units+100<aS):OpR X (aN .Eq) (λx y H Q=>∃d d',Enc X.K H d x/\Enc X.K H d' y/\d.dep<=100/\d'.dep<10000/\Q (.bl (deq d d')) H):=by rintro pins s σ H x y v u Q I rx ry ⟨d,d',en,en',hd,nd,q⟩;exact(Vc I 100 X.A hd hu nd en rx en' ry).1 X.prog X.w X.xe _ ⟨.bl (deq d d'),H,I,rfl,q⟩
theorem j5i(hu:X.A.units+100<aS):OpR X (aN .NotEq) (λx y H Q=>∃ds ds' k,Enc X.K H (D.seq k ds) x/\Enc X.K H (D.seq k ds') y/\D.depL ds<=98/\D.depL ds'<10000/\Q (.bl (!zy ds ds')) H):=by
 rintro pins s σ H x y v u Q I rx ry ⟨ds,ds',k,en,en',hd,nd,q⟩;have h0:X.A.units<aS:=by omega
 obtain⟨t,xs,e,sq,l⟩:=Vh en;obtain⟨t',ys,e',sq',l'⟩:=Vh en';subst e e';cases rx;cases ry;obtain⟨us,rv,qs,_⟩:=I.side sq;obtain⟨us',rv',qs',_⟩:=I.side sq';have e1:us.length=ds.length:=by rw[<-rv.length,l.length]
 have e2:us'.length=ds'.length:=by rw[<-rv'.length,l'.length]
 have item:=j8i (A:=X.A) I l rv l' rv' hd nofun nd;unfold qw at qs qs';cases k with
 |true =>
  rw[if_pos rfl]at qs qs';by_cases hl:ds.length=ds'.length
  .have z:=SeqAt.RcNeAt.lists (A:=X.A) (s:=s) qs qs' (by simp[e1,e2,hl]) h0 (e:=λj=>deq (ds.getD j .non) (ds'.getD j .non)) item;have ev:(aw us.toArray.size).all (λj=>deq (ds.getD j .non) (ds'.getD j .non))=zy ds ds':=by rw[X4,e1];exact V5 hl λj x y hx hy=>by rw[km,km,hx,hy];rfl
   rw[ev]at z;exact z X.prog X.w X.xe _ ⟨.bl (!zy ds ds'),H,I,rfl,q⟩
  .have z:=SeqAt.RcNeAt.lists_lengths (A:=X.A) (s:=s) qs qs' (by simp[e1,e2,hl]) h0;rw[Yt hl]at q;exact z X.prog X.w X.xe _ ⟨.bl a5,H,I,rfl,q⟩
 |false =>
  rw[if_neg xf]at qs qs';have z:=SeqAt.RcNeAt.tuples (A:=X.A) (s:=s) qs qs' h0 (e:=λj=>deq (ds.getD j .non) (ds'.getD j .non)) item;have ev:((aw (min us.toArray.size us'.toArray.size)).all (λj=>deq (ds.getD j .non) (ds'.getD j .non))&&us.toArray.size==us'.toArray.size)=zy ds ds':=by
   simp only[X4,e1,e2];by_cases hl:ds.length=ds'.length
   .rw[hl,kX,beq_self_eq_true,gz,<-hl];exact V5 hl λj x y hx hy=>by rw[km,km,hx,hy];rfl
   .rw[Yt hl,beq_false_of_ne hl,fZ]
  rw[ev]at z;exact z X.prog X.w X.xe _ ⟨.bl (!zy ds ds'),H,I,rfl,q⟩
noncomputable def eqW(X:Cx)(H:Hp)(d:D)(y:a9):Bool:=@decide (∃e v,e.dep<10000/\Enc X.K H e v/\RelV v y/\deq e d=a5) (d5 _)
theorem j0o(I:Inv X pins σ H s){d e:D}{v:V}{y:a9}(he:e.dep<10000)(en:Enc X.K H e v)(r:RelV v y):eqW X H d y=deq e d:=by
 unfold eqW;cases h:deq e d with
 |true=>exact @decide_eq_true _ (d5 _) ⟨e,v,he,en,r,h⟩
 |false =>refine @decide_eq_false _ (d5 _) λ⟨e',v',he',en',r',h'⟩=>?_;rw[r'.inj r]at en';rw[Enc.inj I he' he en' en,h]at h';cases h'
theorem La(I:Inv X pins σ H s){d:D}:∀{ds:List D}{xs:List V}{us:List a9},D.depL ds<10000->j4 X.K H ds xs->Vals xs us->us.any (eqW X H d)=ds.any λe=>deq e d
 |[],_,_,_,h,r=>by cases h;cases r;rfl
 |e::ds,_,_,hd,⟨x,r,eq,h,l⟩,rv=>by
  subst eq;rw[D.depL]at hd;cases rv with
  |cons a b=>rw[eP,eP,La I nofun l b,j0o I nofun h a]
theorem Wo(I:Inv X pins σ H s){d:D}:∀{ds:List D}{xs:List V}{us:List a9},D.depL ds<10000->j4 X.K H ds xs->Vals xs us->us.countP (eqW X H d)=ds.countP λe=>deq e d
 |[],_,_,_,h,r=>by cases h;cases r;rfl
 |e::ds,_,_,hd,⟨x,r,eq,h,l⟩,rv=>by
  subst eq;rw[D.depL]at hd;cases rv with
  |cons a b=>rw[Pq,Pq,Wo I nofun l b,j0o I nofun h a]
theorem W0(I:Inv X pins σ H s){d:D}{v:V}{u:a9}(en:Enc X.K H d v)(r:RelV v u)(nd:d.dep<10000){n:Nat}(hu:A.units+n<aS):∀{ds:List D}{xs:List V}{us:List a9},D.depL ds<=n->j4 X.K H ds xs->Vals xs us->∀y∈us,cR A s y u (eqW X H d y)
 |[],_,_,_,h,rv,y,hy=>by cases h;cases rv;cases hy
 |e::ds,_,_,hd,⟨x,r',eq,h,l⟩,rv,y,hy=>by
  subst eq;have hd':e.dep<=n/\D.depL ds<=n:=by simp[D.depL]at hd;omega
  cases rv with
  |cons a b =>
   rcases xq.mp hy with rfl|hy
   .have e9:(9900:Nat)=aS:=rfl;rw[j0o I nofun h a];exact(Vc I n A hd'.1 hu nd h a en r).2
   .exact W0 I en r nd hu hd'.2 l b y hy
theorem j5j(hu:X.A.units+100<aS):OpR X (aN .In) (λx y H Q=>∃d ds k,Enc X.K H d x/\Enc X.K H (D.seq k ds) y/\D.depL ds<=98/\d.dep<10000/\Q (.bl (ds.any λe=>deq e d)) H):=by
 rintro pins s σ H x y v u Q I rx ry ⟨d,ds,k,en,en',hd,nd,q⟩;obtain⟨t,xs,e,sq,l⟩:=Vh en';subst e;cases ry;obtain⟨us,rv,qs,_⟩:=I.side sq;have me:=λy (hy:y∈us.toArray)=>W0 (A:=X.A.in1) I en rx nd (n:=98) (by show X.A.units+1+98<aS;omega) hd l rv y (by simpa using hy);have ev:us.toArray.any (eqW X H d)=ds.any λe=>deq e d:=by rw[jH];exact La I nofun l rv
 unfold qw at qs;cases k with
 |true=>rw[if_pos rfl]at qs;exact SeqAt.in_listAt (eqW X H d) qs me (by rw[ev];exact⟨.bl _,H,I,rfl,q⟩)
 |false=>rw[if_neg xf]at qs;exact SeqAt.in_tupleAt (eqW X H d) qs me (by rw[ev];exact⟨.bl _,H,I,rfl,q⟩)
theorem Lr(hu:X.A.units+100<aS):OpR X (aN .NotIn) (λx y H Q=>∃d ds k,Enc X.K H d x/\Enc X.K H (D.seq k ds) y/\D.depL ds<=98/\d.dep<10000/\Q (.bl (!ds.any λe=>deq e d)) H):=by
 rintro pins s σ H x y v u Q I rx ry ⟨d,ds,k,en,en',hd,nd,q⟩;obtain⟨t,xs,e,sq,l⟩:=Vh en';subst e;cases ry;obtain⟨us,rv,qs,_⟩:=I.side sq;have me:=λy (hy:y∈us.toArray)=>W0 (A:=X.A.in1) I en rx nd (n:=98) (by show X.A.units+1+98<aS;omega) hd l rv y (by simpa using hy);have ev:us.toArray.any (eqW X H d)=ds.any λe=>deq e d:=by rw[jH];exact La I nofun l rv
 unfold qw at qs;cases k with
 |true=>rw[if_pos rfl]at qs;exact SeqAt.notIn_listAt (eqW X H d) qs me (by rw[ev];exact⟨.bl _,H,I,rfl,q⟩)
 |false=>rw[if_neg xf]at qs;exact SeqAt.notIn_tupleAt (eqW X H d) qs me (by rw[ev];exact⟨.bl _,H,I,rfl,q⟩)
theorem j5o (hu:X.A.units+100<aS):MtR X "tuple.count" (λx vs H Q=>∃t xs ds d y,x=.ref t/\vs=[y]/\SqT X.K H t xs/\j4 X.K H ds xs/\Enc X.K H d y/\D.depL ds<=97/\d.dep<10000/\Q (.int (ds.countP λe=>deq e d)) H):=by
 rintro pins s σ H x vs v us Q I rx rv ⟨t,xs,ds,d,y,e,e',sq,l,en,hd,nd,q⟩;subst e e';cases rx;obtain⟨u,eu,ru⟩:=rv.one;subst eu;obtain⟨its,ri,⟨⟨cl,dd,da,sl⟩,h1,h2,n,h3⟩,_⟩:=I.tuple sq;have h2:cl=.type "tuple":=h2;have h3:da=.seq its.toArray n:=h3;subst h2 h3;refine bI gW ⟨_,h1,rfl⟩ F.entry_tuple_count (F.args_tuple_count_2 _ _) (SeqAt.tuple_countAt t its.toArray n dd sl u (eqW X H d)) ⟨h1,λy hy=>W0 (n:=97) I en ru nd (by show X.A.units+1+97<aS;omega) hd l ri y (by simpa using hy),?_⟩;have ev:(its.toArray.toList.countP (eqW X H d):Nat)=ds.countP λe=>deq e d:=by rw[eG];exact Wo I nofun l ri
 rw[ev];exact⟨.int _,H,I.tok _,⟨_,rfl⟩,q⟩
theorem j87:OpR X (aZ .Add) (λx y H Q=>∃a b xs ys,x=.ref a/\y=.ref b/\SqT X.K H a xs/\SqT X.K H b ys/\xs.length+ys.length<=ak /\
  (xs=[]->Q (.ref b) H)/\(xs≠[]->ys=[]->Q (.ref a) H)/\(xs≠[]->ys≠[]->∀p,H p=a6->Q (.ref p) (upd H p (.tup (xs++ys))))):=by
 rintro pins s σ H x y v u Q I rx ry ⟨a,b,xs,ys,e,e',sa,sb,hz,q1,q2,q3⟩;by_cases hx:xs=[]
 .subst e e' hx;cases rx;cases ry;obtain⟨us,ru,⟨⟨c1,d1,f1,g1⟩,h1,k1,n1,m1⟩,_⟩:=I.tuple sa;obtain⟨vs,rv,⟨⟨c2,d2,f2,g2⟩,h2,k2,n2,m2⟩,_⟩:=I.tuple sb;cases ru;have k1:c1=.type "tuple":=k1;have m1:f1=.seq ([]:List a9).toArray n1:=m1;have k2:c2=.type "tuple":=k2;have m2:f2=.seq vs.toArray n2:=m2;subst k1 m1 k2 m2;exact fT ⟨_,h1,rfl⟩ ⟨_,h2,rfl⟩ gf iz dm d6 (cZ _ _)
   (tuple_addW0 a b ([]:List a9).toArray vs.toArray n1 n2 d1 d2 g1 g2 (by simp)) ⟨h1,h2,⟨.ref b,H,I,rfl,q1 rfl⟩⟩
 .exact jcb pins s σ H x y v u Q I rx ry ⟨a,b,xs,ys,e,e',sa,sb,hx,hz,q2 hx,q3 hx⟩
theorem all_range:∀bs:List Bool,(aw bs.length).all (λi=>(bs[i]?).getD a5)=bs.all id
 |[]=>rfl
 |b::bs=>by rw[X8,cq,bX,gP,bX,<-all_range bs];rfl
theorem j1n (hc:X.calm=a5):Jq X (.builtin "all") (λxs H Q=>∃(l:aa)(bs:List Bool),xs=[.ref l]/\SqL X.K H l (bs.map V.bl)/\Q (.bl (bs.all id)) H):=by
 rintro pins s σ H xs us Q I r ⟨l,bs,e,sq,q⟩;subst e;obtain⟨u,eu,ru⟩:=vals1 r;subst eu;cases ru;obtain⟨its,rv,pl,_⟩:=I.list sq;have hlt:l<s.heap.objs.size:=by obtain⟨_,_,e,_⟩:=pl;exact xu e
 have hl:its.length=bs.length:=by rw[<-rv.length,kj]
 refine call_all_walk (bo pl.isList ⟨s.heap.objs.size,[s.heap.objs.size,l],[s.heap.objs.size],its.toArray.size,_,_,λi=>(bs[i]?).getD a5,rfl,Walks.list (A:=X.A.in1) (I.ok.hd hc) _ _ (Xa hlt) its.toArray,⟨⟨_,X5 _ rfl,rfl,rfl⟩,pl.isList.push _⟩,?_,λh' tk kp=>?_⟩)
 .intro i v s' Q' E' hv hq;have hi:i<its.length:=by have:=Array.getElem?_eq_some_iff.mp hv;obtain⟨h,_⟩:=this;simpa using h
  have hb:i<bs.length:=by omega
  obtain⟨w1,hw,rw1⟩:=rv.get (x:=.bl bs[i]) (i:=i) (by rw[X3,kh hb];rfl);have:its.toArray[i]?=a3 w1:=by simpa using hw
  rw[this]at hv;cases hv;cases rw1;simp only[kh hb,dj]at hq;exact b9 hq
 .have ev:(aw its.toArray.size).all (λi=>(bs[i]?).getD a5)=bs.all id:=by rw[X4,hl];exact all_range bs
  rw[ev];refine⟨.bl _,H,I.kept (t':=tk) λb o e=>kp b o ?_ (xj _ e),rfl,q⟩;intro z;rw[xn.mp z]at e;exact ph _ (xu e)
end
section
variable{X:Cx}{ρ:Rho}{a b e:aj}{d d':D}{ds ds':List D}{i j:Int}{pos p p1 p2:aK}{k:Nat}{x:ah}{P:Po}
theorem DE.eqD(hu:X.A.units+100<aS)(ha:DT X ρ a d)(hb:DT X ρ b d')(hd:d.dep<=100)(nd:d'.dep<10000):DE X ρ (.Compare a [.Eq] [b] pos) (.bl (deq d d')):=λσ H Q R q =>(Jr (j5k hu) peS peS (zf _)).to (ha σ H _ R λv H1 g1 e1=>hb σ H1 _ (R.grow g1) λu H2 g2 e2=>⟨d,d',e1.mono g2,e2,hd,nd,q _ H2 (g1.trans g2) rfl⟩)
theorem DB.eqD(hu:X.A.units+100<aS)(ha:DT X ρ a d)(hb:DT X ρ b d')(hd:d.dep<=100)(nd:d'.dep<10000):DB X ρ (.Compare a [.Eq] [b] pos) (deq d d'):=λσ H Q R q =>(Qf (j5k hu) peS peS (zf _)).to (ha σ H _ R λv H1 g1 e1=>hb σ H1 _ (R.grow g1) λu H2 g2 e2=>⟨d,d',e1.mono g2,e2,hd,nd,_,rfl,q H2 (g1.trans g2)⟩)
theorem DB.neD(s:Bool)(hu:X.A.units+100<aS)(ha:DT X ρ a (D.seq s ds))(hb:DT X ρ b (D.seq s ds'))(hd:D.depL ds<=98)(nd:D.depL ds'<10000):DB X ρ (.Compare a [.NotEq] [b] pos) (!zy ds ds'):=λσ H Q R q =>(Qf (j5i hu) peS peS (zf _)).to (ha σ H _ R λv H1 g1 e1=>hb σ H1 _ (R.grow g1) λu H2 g2 e2=>⟨ds,ds',s,e1.mono g2,e2,hd,nd,_,rfl,q H2 (g1.trans g2)⟩)
theorem DB.notIn(s:Bool)(hu:X.A.units+100<aS)(ha:DT X ρ a d)(hb:DT X ρ b (D.seq s ds))(hd:D.depL ds<=98)(nd:d.dep<10000)(hm:aG .NotIn b=a4:=by with_unfolding_all rfl):DB X ρ (.Compare a [.NotIn] [b] pos) (!ds.any λe=>deq e d):=λσ H Q R q =>(Qf (Lr hu) peS peS hm).to (ha σ H _ R λv H1 g1 e1=>hb σ H1 _ (R.grow g1) λu H2 g2 e2=>⟨d,ds,s,e1.mono g2,e2,hd,nd,_,rfl,q H2 (g1.trans g2)⟩)
theorem DB.in(s:Bool)(hu:X.A.units+100<aS)(ha:DT X ρ a d)(hb:DT X ρ b (D.seq s ds))(hd:D.depL ds<=98)(nd:d.dep<10000)(hm:aG .In b=a4:=by with_unfolding_all rfl):DB X ρ (.Compare a [.In] [b] pos) (ds.any λe=>deq e d):=λσ H Q R q =>(Qf (j5j hu) peS peS hm).to (ha σ H _ R λv H1 g1 e1=>hb σ H1 _ (R.grow g1) λu H2 g2 e2=>⟨d,ds,s,e1.mono g2,e2,hd,nd,_,rfl,q H2 (g1.trans g2)⟩)
theorem DE.countT (hu:X.A.units+100<aS) (ha:DT X ρ a (.tup ds)) (hb:DT X ρ b d) (hd:D.depL ds<=97) (nd:d.dep<10000) (hbase:aP a "count" X.env (ay a X.env)=ay a X.env:=by rfl)
  (hfew:((aM p2 (a8 [b] X.env)).all (λx=>!x.1)&&(b0 p2 (aJ [] X.env)).all (λx=>x.1.isSome)
   && decide (([b]:List aj).length+([]:List ba).length+(if ([]:List ba).isEmpty then 0 else 1)<30))=a5:=by rfl) (hline:(p1.endLine==p2.line)=a5:=by rfl)
  (hs:a8 [b] X.env=(a4,ay b X.env)::a8 [] X.env:=by rfl):DE X ρ (.Call (.Attribute a "count" p1) [b] [] p2) (.int (ds.countP λe=>deq e d)):=λσ H Q R q =>
 (Fb PySem.F.plainAttrs_tuple gW PySem.F.type_tuple_count (j5o hu) peS (jd peS jz hs) hbase hfew hline hs rfl).to (ha σ H _ R λv H1 g1 ⟨t,xs,e,sq,l⟩=>⟨by rw[e];exact .inr (.inl ⟨rfl,xs,sq⟩),hb σ H1 _ (R.grow g1) λu H2 g2 e2 =>
  ⟨t,xs,ds,d,u,e,rfl,g2.seqT sq,l.mono g2,e2,hd,nd,q _ H2 (g1.trans g2) rfl⟩⟩)
theorem DE.min (ha:DT X ρ a (.int i)) (hb:DT X ρ b (.int j)) (hm:X.mg "min" = a6) (hc:X.calm=a5:=by rfl) (hg:Gl X "min":=by rfl) (hs:a8 [a,b] X.env=(a4,ay a X.env)::a8 [b] X.env:=by rfl) (hs2:a8 [b] X.env=(a4,ay b X.env)::a8 [] X.env:=by rfl)
  (hpl:(aM pos (a8 [b] X.env)).any (·.1)=a4:=by rfl):DE X ρ (.Call (.Name "min" p) [a,b] [] pos) (.int (if j<i then j else i)):=λσ H Q R q =>
 (vq (j6v hc) hg hm jP (jd peS (jd peS jz hs2) hs) (by decide) (by decide) hs hpl).to (ha σ H _ R λv H1 g1 e1=>hb σ H1 _ (R.grow g1) λu H2 g2 e2=>⟨i,j,by rw[show v=.int i from e1,show u=.int j from e2],q _ H2 (g1.trans g2) rfl⟩)
theorem Bv{K:k8d}{H:Hp}:∀{bs:List Bool}{xs:List V},j4 K H (bs.map D.bl) xs->xs=bs.map V.bl
 |[],_,h=>h
 |b::bs,_,⟨x,r,e,h,l⟩=>by subst e;cases(show x=.bl b from h);rw[Bv l];rfl
theorem DE.all {bs:List Bool} (ha:DT X ρ a (.lst (bs.map D.bl))) (hm:X.mg "all" = a6) (hc:X.calm=a5:=by rfl) (hg:Gl X "all":=by rfl) (hs:a8 [a] X.env=[(a4,ay a X.env)]:=by rfl):DE X ρ (.Call (.Name "all" p) [a] [] pos) (.bl (bs.all id)):=λσ H Q R q =>(vq (j1n hc) hg hm boot_all (jd peS jz hs) (by decide) (by decide) hs).to (ha σ H _ R λv H1 g1 ⟨l,xs,e,sq,en⟩=>⟨l,bs,by rw[e],by rw[Bv en]at sq;exact sq,q _ H1 g1 rfl⟩)
def jes(X:Cx)(e:Option aj):TO:=λσ H Q=>∀pins s,Inv X pins σ H s->ar (ax X.prog X.w) X.A (evalPart e X.env) (λu s'=>∃o H',Inv X pins σ H' s'/\eZ u o/\Q o H') X.xe s
theorem poS{e:Option aj}:PO X e (jes X e):=λpins s σ H Q I h=>h pins s I
def DP(X:Cx)(ρ:Rho)(e:Option aj)(o:Option Int):Prop:=∀σ H Q,Rep X.K ρ σ H->(∀H',j0 H H'->Q o H')->jes X e σ H Q
theorem DP.none:DP X ρ a6 a6:=λσ H Q R q pins s I=>jc5 pins s σ H Q I (q H (j0.refl H))
theorem DP.some(h:DT X ρ e (.int i)):DP X ρ (a3 e) (a3 i):=λσ H Q R q pins s I=>jc4 peS pins s σ H Q I (h σ H _ R λv H1 g1 e1=>⟨i,e1,q H1 g1⟩)
variable{lo hi:Option aj}{l u:Option Int}
theorem DS.setItem(m:Nat){t:aa}{n:Nat}(hk:ρ[m]?=a3 (.own t ds))(he:DE X ρ e d)(hi:DT X ρ a (.int i))(hx:ixN ds.length i=a3 n)(h:P.nx (ρ.set m (.own t (ds.set n d))))
  (hN:X.N[m]?=a3 x:=by rfl) (hv:Vis X.env.scope x:=by first|exact aV rfl|exact bj (aV rfl)|exact bj (bj rfl)) (hd:(x==k8h)=a4:=by decide) (hcd:(x==k8i)=a4:=by decide)
  (ha:∀v,cL (.Subscript (.Name x p) a p1) X.env v=(do
   let ov <-cj [v] (ay (.Name x p) X.env)
   let iv <-cj [v,ov] (ay a X.env)
   fR p1
   cj [v,ov,iv] (setItem ov iv v)
   release [v,ov,iv] []):=by intro _;rfl)
  (hs:iw [.Subscript (.Name x p) a p1] e pos.line X.env=pure a4:=by rfl) (hw:iy [.Subscript (.Name x p) a p1] e X.env=pure a6:=by rfl)
  (h1:(bg [.Subscript (.Name x p) a p1] X.env).map (·.2)=[cL (.Subscript (.Name x p) a p1) X.env]:=by rfl):DS X ρ (.Assign [.Subscript (.Name x p) a p1] e pos) P:=λσ H E R q=>by
 refine(jfa peS (jfe (J8 hN hv hd hcd) peS set_list ha) hs hw h1).to (he σ H _ R λv H1 g1 e1=>?_);obtain⟨hσ,xs,mm,en⟩:=(R.grow g1).own m t ds hk;refine⟨_,hσ,hi σ H1 _ (R.grow g1) λu H2 g2 e2=>⟨t,xs,i,n,rfl,e2,g2 _ _ mm,by rw[en.length];exact hx,?_⟩⟩;exact q.nx _ σ _ h ((R.grow (g1.trans g2)).upd_own hk ((en.mono (je g2)).set (e1.mono (je g2)))) (j0m (σ:=σ) hk (g1.trans g2))
end
def jen(K:k8d)(S:List D->List D->D->List D->Prop):Sp:=λvs H Q _=>∃(a:aa)(ds l:List D)(d:D)(l':List D)(ws xs:List V),vs=ws++[.ref a]/\TabOk K H/\H a=a3 (.lst xs)/\j4 K (del H [a]) l xs/\j4 K (del H [a]) ds ws/\S ds l d l' /\
 ∀v H' ys,j0 (del H [a]) (del H' [a])->H' a=a3 (.lst ys)->j4 K (del H' [a]) l' ys->Enc K (del H' [a]) d v->Q v H'
section
variable{X:Cx}{ρ ρ1:Rho}{e e1 e2 e3 c:aj}{st:aQ}{rest sa:List aQ}{a:aa}{d d1 d2 d3:D}{l l':List D}{k i:Nat}{x y f:ah}{p p1 p2 p3 p4 pos:aK}
end
noncomputable def j53(dR n:Int):Int:=if 0<n then n%60 else(dR*48271+11)%2147483647/16
noncomputable def Bd(dR n:Int):Int:=if 0<n then n%60/6%2 else(dR*48271+11)%2147483647/128%2
noncomputable def Mr(n:Int):Int:=if 0<n then n/60 else n
noncomputable def U6:Nat->List ah->Int->Int->D×Int
 |0,_,dR,n=>(.tup [.str "tell",.int (Bd dR n)],Mr n)
 |k+1,ws,dR,n=>match ws[(j53 dR n%ws.length).toNat]? with
  |none=>(.tup [.str "tell",.int (Bd dR n)],Mr n)
  |some y=>if j53 dR n%6=0 then(.tup [.str "tell",.int (Bd dR n)],Mr n)
   else(.tup [.str "ask",.str y,(U6 k (ws.filter λz=>!(z==y)) ((dR*48271+11)%2147483647*3+1) (Mr n)).1,
     (U6 k (ws.filter λz=>!(z==y)) ((dR*48271+11)%2147483647*5+2) (U6 k (ws.filter λz=>!(z==y)) ((dR*48271+11)%2147483647*3+1) (Mr n)).2).1],
    (U6 k (ws.filter λz=>!(z==y)) ((dR*48271+11)%2147483647*5+2) (U6 k (ws.filter λz=>!(z==y)) ((dR*48271+11)%2147483647*3+1) (Mr n)).2).2)
def jak(ds l:List D)(d:D)(l':List D):Prop:=∃(ws:List ah)(dR n:Int)(k:Nat),ds=[.lst (ws.map D.str),.int dR,.int k]/\l=[.int n]/\k<=5/\ws.length<=60/\d=(U6 k ws dR n).1/\l'=[.int (U6 k ws dR n).2]
section
variable{P:au}{w:az}{K:k8d}{mg:k8g}{base:aD}{x qual:ah}{st:aQ}{f:aa}{fd:aL}{N ps:List ah}{k:Nat}
end
def Fz(o:Option HO):Prop:=(∃xs,o=a3 (.lst xs))\/∃oc v,o=a3 (.frz oc (.own 0))/\oc.data=.cell v
theorem j65{P:au}{w:az}{K:k8d}{mg:k8g}{base:aD}{A0:aC}{outer:List dB}{s:af}{H:Hp}{A:List aa}(e0:Env0 P w K mg base A0 outer s H)(hA:∀a∈A,Fz (H a)) :
  Env0 P w K mg base A0 outer s (del H A)/\∀(Q:VK)(E E':XK)(r:eX)(s':af),CR CX0 outer P w (del H A) s (λv F=>(∀a∈A,F a=a6)->Q v (mrg A H F)) E r s'->CR CX0 outer P w H s Q E' r s':=by
 have nd:∀{b:aa},H b=a6->del H A b=a6:=λ{b} q=>by
  by_cases z:b∈A
  .exact qp z
  .rw[j5 z];exact q
 have out:∀{b:aa}{o:HO},H b=a3 o->(∀ys,o≠.lst ys)->(∀oc v,o=.frz oc (.own 0)->oc.data≠.cell v)->b∉A:=λ{b o} q z z2 y=>by
  rcases hA b y with ⟨ys,e'⟩|⟨oc,v,e',d⟩
  .rw[q]at e';cases e';exact z ys rfl
  .rw[q]at e';cases e';exact z2 _ _ rfl d
 have e1:Env0 P w K mg base A0 outer s (del H A):=⟨e0.frames,e0.mod,λb o q=>⟨(e0.bs b o q).1,nd (e0.bs b o q).2⟩,e0.bsz,e0.funs,λb hb=>nd (e0.frf b hb),
  λa o q=>by
   obtain⟨_,q⟩:=of_del q
   exact jj.stay (e0.hok a o q) (λb u _ z=>z) (λb z=>by rw[j5 (out z (λ_ y=>by cases y) λ_ _ y=>by cases y)];exact z) (λb xs z=>by rw[j5 (out z (λ_ y=>by cases y) λ_ _ y=>by cases y)];exact z)
    (λb o ⟨vs,d⟩ z=>by rw[j5 (out z (λ_ y=>by cases y) λ_ _ y d'=>by cases y;rw[d]at d';cases d')];exact z),e0.bare⟩
 refine⟨e1,λQ E E' r s' hq=>?_⟩;cases r with
 |error e=>exact(show False from hq).elim
 |ok fl =>
  cases fl with
  |next=>exact(show False from hq).elim
  |brk=>exact(show False from hq).elim
  |cont=>exact(show False from hq).elim
  |ret u =>
   obtain⟨v,H',os,bare,un,hok',rel,q⟩:=(show CE outer P w (del H A) s _ u s' from hq)
   have kept:∀a∈A,∃o,s.heap.get? a=a3 o/\s'.heap.get? a=a3 o/\H' a=a6:=λa ha=>by
    have nf:a∉frs outer:=λy=>by have z:=e0.frf a y;rcases hA a ha with ⟨xs,e⟩|⟨oc,v,e,_⟩<;>(rw[z]at e;cases e)
    have ob:∃o,s.heap.get? a=a3 o:=by
     rcases hA a ha with ⟨xs,e⟩|⟨oc,v,e,_⟩
     .obtain⟨_,its,n,_,z⟩:=(show jj P w H s.heap a (.lst xs)from e0.hok _ _ e);exact⟨_,z⟩
     .exact⟨_,(show jj P w H s.heap a (.frz oc (.own 0))from e0.hok _ _ e).1⟩
    obtain⟨o,z⟩:=ob;exact⟨_,z,un.keep a _ z (qp ha) nf (by simp),un.free a _ z (qp ha) (by simp)⟩
   have hF:∀a∈A,H' a=a6:=λa ha=>let ⟨_,_,_,z⟩:=kept a ha;z;have outF:∀{b:aa}{o:HO},H' b=a3 o->b∉A:=λ{b o} e z=>by rw[hF b z]at e;cases e
   refine⟨v,mrg A H H',os,bare,?_,λa o e=>?_,rel,q hF⟩
   .exact{
     keep:=λb o e n=>un.keep b o e (nd n)
     slot:=λb o e n=>un.slot b o e (nd n)
     free:=λb o e n hx=>by
      by_cases z:b∈A
      .rw[Jd z];exact n
      .rw[jm z];exact un.free b o e (nd n) hx
     there:=un.there
     tups:=λb xs e=>by
      have z:=un.tups b xs (by rw[j5 (out e (λ_ y=>by cases y) λ_ _ y=>by cases y)];exact e)
      rw[jm (outF z)];exact z
     frzs:=λb o u e=>by
      by_cases y:b∈A
      .rw[Jd y];exact e
      .have z:=un.frzs b o u (by rw[j5 y];exact e)
       rw[jm y];exact z
     tbls:=λb ps e=>by
      obtain⟨more,z⟩:=un.tbls b ps (by rw[j5 (out e (λ_ y=>by cases y) λ_ _ y=>by cases y)];exact e)
      exact⟨more,by rw[jm (outF z)];exact z⟩ }
   .by_cases z:a∈A
    .rw[Jd z]at e;obtain⟨o',q1,q2,_⟩:=kept a z;rcases hA a z with ⟨xs,e'⟩|⟨oc,v,e',_⟩
     .rw[e']at e;cases e;obtain⟨hl,its,n,r,y⟩:=(show jj P w H s.heap a (.lst xs)from e0.hok _ _ e')
      rw[y]at q1;cases q1;exact⟨hl,its,n,r,q2⟩
     .rw[e']at e;cases e;have y:=(show jj P w H s.heap a (.frz oc (.own 0))from e0.hok _ _ e').1;rw[y]at q1;cases q1;exact⟨q2,_,q2⟩
    .rw[jm z]at e;refine jj.stay (hok' a o e) (λb u _ q=>q) (λb q=>?_) (λb xs q=>?_) (λb _ _ q=>?_)
     .rw[jm (outF q)];exact q
     .rw[jm (outF q)];exact q
     .rw[jm (outF q)];exact q
structure LamScope(N ps:List ah)(sc:b7):Prop where
 kind:sc.kind=.function
 co:sc.isCoroutine=a4
 gen:sc.isGenerator=a4
 nd:N.Nodup
 nm:N=v5 sc++ps
 lfr:∀x∈v5 sc,sc.names.lookup x=a3 .free
 lps:∀x∈ps,sc.names.lookup x=a3 .local
 nocell:∀y∈sc.names,y.2≠.cell
 cov:∀x,sc.names.lookup x=a3 .free->x∈v5 sc
noncomputable def Uc(P:au)(w:az)(K:k8d)(mg:k8g)(base:aD)(N:List ah)(qual:ah)(scope:b7)(a:aa)(cd:a9)(cl:List (ah×aa))(A:aC)(outer:List dB)(s:af)(H:Hp):Cx where
 prog:=P
 w:=w
 K:=K
 mg:=mg
 base:=base
 A:=A.deeper (W.envX qual scope s.heap.objs.size a cd cl)
 N:=N
 s₀:=s
 H₀:=H
 env:=W.envX qual scope s.heap.objs.size a cd cl
 outer:=outer
 stack:=W.envX qual scope s.heap.objs.size a cd cl::outer
 ex:=[]
 calm:=a5
 fn:=λ_=>a4
 pn:=[]
 xe:=λ_ _=>False
def Jz(h:aD):List aa->List V->Prop
 |[],vs=>vs=[]
 |c::cs,vs=>∃v r u,vs=v::r/\h.IsCell c (a3 u)/\RelV v u/\Jz h cs r
theorem Jz.get{h:aD}:∀{cs:List aa}{vs:List V}{i:Nat}{v:V},Jz h cs vs->vs[i]?=a3 v->∃c u,cs[i]?=a3 c/\h.IsCell c (a3 u)/\RelV v u
 |[],_,i,v,e,q=>by cases e;simp at q
 |c::cs,_,0,v,⟨x,r,u,e,h1,h2,_⟩,q=>by subst e;simp at q;subst q;exact⟨c,u,rfl,h1,h2⟩
 |c::cs,_,i+1,v,⟨x,r,u,e,_,_,l⟩,q=>by subst e;obtain⟨c',u',z1,z2⟩:=Jz.get l (i:=i) (by simpa using q);exact⟨c',u',by simpa using z1,z2⟩
theorem Jz.length{h:aD}:∀{cs:List aa}{vs:List V},Jz h cs vs->vs.length=cs.length
 |[],_,e=>by cases e;rfl
 |c::cs,_,⟨x,r,u,e,_,_,l⟩=>by subst e;simp[l.length]
theorem Jz.all{h:aD}:∀{cs:List aa}{vs:List V},Jz h cs vs->∀c∈cs,∃v,h.IsCell c v
 |c::cs,_,⟨x,r,u,e,h1,_,l⟩,b,hb=>(xq.mp hb).elim (λz=>z▸⟨_,h1⟩) (l.all b)
theorem lookup_at{α:Type}:∀{l:List (ah×α)} {i:Nat} {p:ah×α},(l.map (·.1)).Nodup->l[i]?=a3 p->l.lookup p.1=a3 p.2
 |[],i,p,_,h=>by simp at h
 |q::l,0,p,_,h=>by simp at h;subst h;rw[Xl,beq_self_eq_true]
 |q::l,i+1,p,nd,h=>by rw[xr]at nd;rw[dz]at h;have ne:(p.1==q.1)=a4:=beq_eq_false_iff_ne.mpr λz=>(Xn.mp nd).1 (z▸eJ (Xm h));rw[Xl,ne];exact lookup_at (Xn.mp nd).2 h
theorem j3n{ps:List ah}{us:List a9}{i:Nat}{p:ah}{u:a9}(nd:ps.Nodup)(hl:us.length=ps.length)(h1:ps[i]?=a3 p)(h2:us[i]?=a3 u):(ps.zip us).reverse.lookup p=a3 u:=by
 have hm:(p,u)∈(ps.zip us).reverse:=List.mem_reverse.mpr (Xm (i:=i) (by rw[List.getElem?_zip_eq_some];exact⟨h1,h2⟩));have e:((ps.zip us).reverse.map (·.1))=ps.reverse:=by rw[List.map_reverse,List.map_fst_zip nofun]
 obtain⟨j,hj⟩:=List.mem_iff_getElem?.mp hm;exact lookup_at (by rw[e];exact(List.reverse_perm ps).nodup_iff.mpr nd) hj
section
variable{P:au}{w:az}{K:k8d}{mg:k8g}{base:aD}{A:aC}{outer:List dB}{s:af}{H:Hp}{x:ah}{a c:aa}{tx:Tx}{cl:List (ah×aa)}{pm ctv:a9}{cvs vs:List V}{us:List a9}{N ps:List ah}{k:Nat}{Q:VK}{E:XK}
theorem jd7{h1:aD}{tk:Nat}(hh:A.handled=a6)(e0:Env0 P w K mg base A outer s H)(S:LamScope N ps tx.2.2)(hn:cl.map (·.1)=v5 tx.2.2)(nd:(cl.map (·.2)).Nodup)(hc:Jz s.heap (cl.map (·.2)) cvs)(hf:∀q∈cl.map (·.2),H q=a6)(rv:Vals vs us)(hl:vs.length=ps.length)
  (ns:h1.Ns s.heap.objs.size λy=>(ps.zip us).reverse.lookup y) (kp:∀b o,s.heap.get? b=a3 o->h1.get? b=a3 o) :
  Inv (Uc P w K mg base N (jx x) tx.2.2 a (.ref c) cl A outer s H) [] (start N (cvs++vs)) H { s with heap:=h1,toks:=tk }:=by
 have ndN:(v5 tx.2.2).Nodup:=by have:=S.nd;rw[S.nm]at this;exact(List.nodup_append.mp this).1
 have ndP:ps.Nodup:=by have:=S.nd;rw[S.nm]at this;exact(List.nodup_append.mp this).2.1
 have ndC:(cl.map (·.1)).Nodup:=by rw[hn];exact ndN
 have lenC:cvs.length=(v5 tx.2.2).length:=by rw[hc.length,<-hn,kj,kj]
 have lenN:N.length=(cvs++vs).length:=by rw[S.nm,Xb,Xb,lenC,hl]
 have noA:∀b:aa,b∉(Uc P w K mg base N (jx x) tx.2.2 a (.ref c) cl A outer s H).ex:=λb z=>absurd (show b∈([]:List aa)from z) (by simp);have mem2:∀{y:ah}{q:aa},cl.lookup y=a3 q->q∈cl.map (·.2):=λ{y q} h=>Xh.mpr ⟨(y,q),Pu h,rfl⟩;have inj:∀(l:List (ah×aa)),(l.map (·.2)).Nodup->∀y z q,(y,q)∈l->(z,q)∈l->y=z:=λl=>by
  induction l with
  |nil=>intro _ y z q h;cases h
  |cons p r ih =>
   intro nd y z q h1 h2;rw[xr]at nd;obtain⟨n1,n2⟩:=Xn.mp nd;rcases xq.mp h1 with e1|h1<;>rcases xq.mp h2 with e2|h2
   .rw[<-e1]at e2;cases e2;rfl
   .exact absurd (Xh.mpr ⟨(z,q),h2,by rw[<-e1]⟩) n1
   .exact absurd (Xh.mpr ⟨(y,q),h1,by rw[<-e2]⟩) n1
   .exact ih n2 y z q h1 h2
 refine⟨⟨e0.mod,S.kind,rfl,rfl,xx _,λy z q h1 h2=>inj cl nd y z q (Pu h1) (Pu h2),λy hy=>?_,λy q h=>(by cases h),λ_=>hh,Around.frames_deeper e0.frames,.inr ⟨rfl,rfl⟩,λb z=>absurd z (noA b),e0.bs,e0.bsz,λb _ _=>noA b,λb z=>absurd z (noA b),e0.funs,e0.frf⟩,
  rfl,e0.bare,Un.kept kp,⟨_,ns,λi y v h1 h2 h3=>?_⟩,λy q h=>?_,e0.hok.fresh (xx _),λy q h=>hf q (mem2 h),λp hp=>absurd (show p∈([]:k8f)from hp) (by simp),e0.hok.kept kp,?_⟩
 .have hy:tx.2.2.names.lookup y=a3 .cell\/tx.2.2.names.lookup y=a3 .free:=hy;rcases hy with hy|hy
  .exact absurd rfl (S.nocell _ (Pu hy))
  .have m:=S.cov y hy;rw[<-hn]at m;obtain⟨p,hp,e⟩:=Xh.mp m;obtain⟨i,hi⟩:=List.mem_iff_getElem?.mp hp;exact⟨p.2,by have:=lookup_at ndC hi;rw[e]at this;exact this⟩
 .have h1:N[i]?=a3 y:=h1;have hi:i<(cvs++vs).length:=by rw[<-lenN];exact(X7.mp h1).1
  have ha:(cvs++vs)[i]?=a3 v:=by
   unfold start at h2;rw[Pr (by simpa using hi),X3]at h2;cases e:(cvs++vs)[i]? with
   |none=>rw[e]at h2;cases h2
   |some a=>rw[e]at h2;cases h2;rfl
  rw[S.nm]at h1;by_cases z:i<cvs.length
  .rw[Pr z]at ha;rw[Pr nofun]at h1;obtain⟨q,u,e1,e2,r⟩:=hc.get ha;refine⟨u,r,.inr ⟨.inr (S.lfr y (Xm h1)),q,?_,e2.keeps kp⟩⟩;rw[<-hn,X3]at h1;rw[X3]at e1;obtain⟨p,hp,ep⟩:=Xq.mp h1;rw[hp]at e1;have:=lookup_at ndC hp;rw[ep]at this;show cl.lookup y=a3 q;rw[this];exact e1
  .rw[bM nofun]at ha h1;rw[<-lenC]at h1;obtain⟨u,hu,r⟩:=rv.get ha;exact⟨u,r,.inl ⟨S.lps y (Xm h1),j3n ndP (by rw[<-rv.length,hl]) h1 hu⟩⟩
 .obtain⟨v,z⟩:=hc.all q (mem2 h);exact⟨v,z.keeps kp⟩
 .unfold start;show _=N.length;rw[Xb,kj,Px];omega
theorem j8e (hr:Room (k+1) A) (e0:Env0 P w K mg base A outer s H) (ho:s.heap.get? a=a3 (W.kla_obj "<lambda>" (jx x) tx.1 tx.2.1 tx.2.2 cl pm c ctv)) (hcd:s.heap.CodeRec (.ref c) (jx x))
  (S:LamScope N ps tx.2.2) (hn:cl.map (·.1)=v5 tx.2.2) (nd:(cl.map (·.2)).Nodup) (hc:Jz s.heap (cl.map (·.2)) cvs) (hf:∀q∈cl.map (·.2),H q=a6)
  (hb:eW (W.kla_fn "<lambda>" (jx x) tx.1 tx.2.1 tx.2.2 cl pm (.ref c) ctv) ⟨us,[]⟩=pure (ps.zip us)) (rv:Vals vs us) (hl:vs.length=ps.length)
  (body:Room k (Uc P w K mg base N (jx x) tx.2.2 a (.ref c) cl A outer s H).A->Qm (Uc P w K mg base N (jx x) tx.2.2 a (.ref c) cl A outer s H) tx.2.1 (start N (cvs++vs)) H Q) :
  ck (ax P w) A (.call (.ref a) ⟨us,[]⟩) (CR CX0 outer P w H s Q E) s:=by
 have lim:s.heap.NoLimit:=e0.mod.nolimit.keeps λb o e=>(e0.bs b o e).1;refine W.kla_callFunE (by have:=hr.dp;omega) ho rfl S.co S.gen rfl hcd ?_;rw[hb];refine ai (wpAny_newFunctionEnv S.nocell (λy hy=>S.lps y.1 (dJ (a:=y.1) (b:=y.2) hy).1) (λh1 ns sb=>⟨lim.fresh _ sb,?_⟩) S.kind);show ck _ _ (.expr tx.2.1 (W.envX (jx x) tx.2.2 s.heap.objs.size a (.ref c) cl)) _ _;have kp:∀b o,s.heap.get? b=a3 o->h1.get? b=a3 o:=λb o e=>sb.extBut b o (Xa (xu e)) (xj _ e);have I:=jd7 (x:=x) (a:=a) (c:=c) (tk:=s.toks+(ps.zip us).length) hr.hd e0 S hn nd hc hf rv hl ns kp;refine W.kla_codeExpr (bH (body (hr.deeper _) [] _ I) (λu s' ⟨v,H',J,r,q⟩=>?_) λ_ _ z=>z.elim);exact⟨v,H',J.os,J.bare,J.base,J.hok,r,q⟩
end
mutual
noncomputable def noFn:D->Bool
 |.fn _ _=>a4
 |.tup ds=>Jc ds
 |.lst ds=>Jc ds
 |.dct _ ds=>Jc ds
 |_=>a5
noncomputable def Jc:List D->Bool
 |[]=>a5
 |d::ds=>noFn d&&Jc ds
end
section
variable{K:k8d}{H:Hp}{A:List aa}
def Cel(H:Hp)(A:List aa):Prop:=∀a∈A,∃oc v,H a=a3 (.frz oc (.own 0))/\oc.data=.cell v
theorem Cel.out(hA:Cel H A){b:aa}{o:HO}(q:H b=a3 o)(h:∀oc,o≠.frz oc (.own 0)):del H A b=a3 o:=by rw[j5];exact q;intro y;obtain⟨oc,v,e,_⟩:=hA b y;rw[q]at e;exact h oc (av e)
theorem Cel.seqT(hA:Cel H A){a:aa}{xs:List V}(h:SqT K H a xs):SqT K (del H A) a xs:=by
 rcases h with (h|⟨o,h⟩)|h
 .exact .inl (.inl (hA.out h λ_ z=>by cases z))
 .exact .inl (.inr ⟨o,hA.out h λ_ z=>by cases z⟩)
 .exact .inr h
theorem Cel.seq(hA:Cel H A){a:aa}{xs:List V}(h:SqL K H a xs):SqL K (del H A) a xs:=by
 rcases h with (h|⟨o,h⟩)|h
 .exact .inl (.inl (hA.out h λ_ z=>by cases z))
 .exact .inl (.inr ⟨o,hA.out h λ_ z=>by cases z⟩)
 .exact .inr h
mutual
theorem Enc.noc(hA:Cel H A):∀{d:D}{v:V},noFn d=a5->Enc K H d v->Enc K (del H A) d v
 |.non,_,_,h=>h
 |.bl _,_,_,h=>h
 |.int _,_,_,h=>h
 |.str _,_,_,h=>h
 |.tup _,_,n,⟨a,xs,e,q,l⟩=>⟨a,xs,e,hA.seqT q,j4.noc hA (by simpa [noFn]using n) l⟩
 |.lst _,_,n,⟨a,xs,e,q,l⟩=>⟨a,xs,e,hA.seq q,j4.noc hA (by simpa [noFn]using n) l⟩
 |.dct _ _,_,n,⟨a,xs,ep,vs,e,q,ek,kt,rv,l⟩=>⟨a,xs,ep,vs,e,hA.out q (λ_ z=>by cases z),ek,λx hx=>hA.seqT (kt x hx),rv,j4.noc hA (by simpa [noFn]using n) l⟩
 |.sct _,_,_,⟨a,e,q⟩=>⟨a,e,hA.out q λ_ z=>by cases z⟩
 |.fn _ _,_,n,_=>by cases n
theorem j4.noc(hA:Cel H A):∀{ds:List D}{xs:List V},Jc ds=a5->j4 K H ds xs->j4 K (del H A) ds xs
 |[],_,_,h=>h
 |d::ds,_,n,⟨x,r,e,h,l⟩=>by rw[Jc,Xg]at n;exact⟨x,r,e,Enc.noc hA n.1 h,j4.noc hA n.2 l⟩
end
theorem vp.cel:∀{cs:List aa}{vs:List V},vp H cs vs->Cel H cs
 |[],_,_=>λ_ h=>nomatch h
 |c::cs,_,⟨v,r,o,u,e,h,d,rv,l⟩=>λa ha=>(xq.mp ha).elim (λz=>⟨o,_,z▸h,d⟩) (l.cel a)
theorem vp.inn{P:au}{w:az}{h:aD}(ok:HOk P w H h):∀{cs:List aa}{vs:List V},vp H cs vs->Jz h cs vs
 |[],_,e=>e
 |c::cs,_,⟨v,r,o,u,e,q,d,rv,l⟩=>⟨v,r,u,e,⟨o,(show jj P w H h c (.frz o (.own 0))from ok _ _ q).1,d⟩,rv,l.inn ok⟩
theorem vp.of_del{B:List aa}:∀{cs:List aa}{vs:List V},vp (del H B) cs vs->vp H cs vs:=λh=>h.mono ju
theorem TabOk.fz(h:TabOk K H)(hA:∀a∈A,Fz (H a)):TabOk K (L2.del H A):=λx hx c P z=>by have q:=h x hx c P z;rw[j5];exact q;intro y;rcases hA _ y with ⟨xs,e⟩|⟨oc,v,e,_⟩<;>(rw[q]at e;cases e)
end
def Iv(P:au)(w:az)(K:k8d)(mg:k8g)(base:aD)(k:Nat)(x:ah)(S:List D->D->Prop):Prop :=
 ∀(A:aC)(outer:List dB)(s:af)(H:Hp)(a:aa)(B:List aa)(cs ds:List D) (d:D) (vs:List V) (us:List a9) (Q:VK) (E:XK),Room k A->Env0 P w K mg base A outer s H->TabOk K H->(∀b∈B,∃xs,H b=a3 (.lst xs)) ->
  Enc K (del H B) (.fn x cs) (.ref a)->j4 K (del H B) ds vs->Jc ds=a5->S (cs++ds) d->Vals vs us->(∀v H',j0 H H'->Enc K (del H' B) d v->Q v H')->ck (ax P w) A (.call (.ref a) ⟨us,[]⟩) (CR CX0 outer P w H s Q E) s
section
variable{P:au}{w:az}{K:k8d}{mg:k8g}{base:aD}{k:Nat}{x:ah}{S:List D->D->Prop}{tx:Tx}{N ps:List ah}
theorem jg7(ht:Qz K x=a3 tx)(Sc:LamScope N ps tx.2.2)(hl:∀ds d,S ds d->ds.length=N.length)
  (hb:∀(cl:List (ah×aa)) (pm:a9) (c:aa) (ctv:a9) (us:List a9),us.length=ps.length->eW (W.kla_fn "<lambda>" (jx x) tx.1 tx.2.1 tx.2.2 cl pm (.ref c) ctv) ⟨us,[]⟩=pure (ps.zip us))
  (hbody:∀(a c:aa)(cl:List (ah×aa)) (A:aC) (outer:List dB) (s:af) (H:Hp),cl.map (·.1)=v5 tx.2.2->Room k (Uc P w K mg base N (jx x) tx.2.2 a (.ref c) cl A outer s H).A->∀ds d,S ds d->DT (Uc P w K mg base N (jx x) tx.2.2 a (.ref c) cl A outer s H) (z9 N ds) tx.2.1 d):Iv P w K mg base (k+1) x S:=by
 intro A outer s H a B cs ds d vs us Q E hr e0 tb hB en ea nf hS rv q;obtain⟨a',c,tx',cl,cvs,e,L,l⟩:=en;cases e;have et:tx'=tx:=av (L.tx.symm.trans ht);subst et;have cs_at:vp H (cl.map (·.2)) cvs:=L.cs.of_del;have hA:∀b∈B++cl.map (·.2),Fz (H b):=λb hb=>(pq.mp hb).elim (λz=>.inl (hB b z)) λz=>.inr (cs_at.cel b z);obtain⟨e1,back⟩:=j65 e0 hA;obtain⟨pm,ctv,hfo⟩:=L.fo;obtain⟨oc,hco,vs0,t0,hd0,hv0⟩:=L.co;have ho:=(show jj P w H s.heap a (.frz _ (.own 0))from e0.hok _ _ (of_del hfo).2).1;have hcd:s.heap.CodeRec (.ref c) (jx x):=⟨c,oc,vs0,t0,rfl,(show jj P w H s.heap c (.frz oc (.own 0))from e0.hok _ _ (of_del hco).2).1,hd0,hv0⟩
 have ll:=l.length;have la:=ea.length;have hlen:=hl _ _ hS;have lenC:(cl.map (·.2)).length=(v5 tx'.2.2).length:=by rw[<-L.nm,kj,kj]
 have lcv:=(cs_at.inn e0.hok).length;have hlv:vs.length=ps.length:=by rw[Sc.nm,Xb,Xb]at hlen;omega
 have celB:Cel (del H B) (cl.map (·.2)):=L.cs.cel;have ea1:j4 K (del H (B++cl.map (·.2))) ds vs:=by rw[<-Z0];exact ea.noc celB nf
 have l1:j4 K (del H (B++cl.map (·.2))) cs cvs:=by rw[<-Z0];exact l
 refine bf (j8e (E:=E) (Q:=λv F=>(∀a∈B++cl.map (·.2),F a=a6)->Q v (mrg (B++cl.map (·.2)) H F)) hr e1 ho hcd Sc L.nm L.nd (cs_at.inn e0.hok) (λb hb=>qp (Xe _ hb)) (hb cl pm c ctv us (by rw[<-rv.length];exact hlv)) rv hlv λhrm=>?_) λr s' h=>back Q E E r s' h;refine hbody a c cl A outer s _ L.nm hrm (cs++ds) d hS _ _ _ (U4 (tb.fz hA) (l1.append ea1)) λv F g en' hF=>q v _ (Bb g) (en'.mono λb o z=>?_);have nb:b∉B++cl.map (·.2):=λy=>by rw[hF b y]at z;cases z
 rw[j5 (λy=>nb (Pn _ y)),jm nb];exact z
end
section
variable{X:Cx}{ρ:Rho}{e:aj}{es:List aj}{d:D}{cs ds:List D}{pos p:aK}{x y:ah}{i k:Nat}
theorem DE.callV {S:List D->D->Prop} (c:Iv X.prog X.w X.K X.mg X.base k x S) (hr:Room k X.A) (hi:ρ[i]?=a3 (.val (.fn x cs))) (ha:DA X ρ (e::es) ds) (nf:Jc ds=a5) (hS:S (cs++ds) d) (hN:X.N[i]?=a3 y) (hv:Vis X.env.scope y) (hd:(y==k8h)=a4) (hcd:(y==k8i)=a4)
  (he:a8 (e::es) X.env=(a4,ay e X.env)::a8 es X.env) (hpl:(aM pos (a8 es X.env)).any (·.1)=a4):DE X ρ (.Call (.Name y p) (e::es) [] pos) d:=λσ H Q R q pins s I=>by
 obtain⟨v,hσ,en⟩:=R.val i _ hi;obtain⟨a,c0,tx,cl,cvs,ev,L,l⟩:=id en;subst ev;refine aH (thn (J8 hN hv hd hcd pins s σ H (λv' H'=>v'=.ref a/\H'=H) I ⟨_,hσ,rfl,rfl⟩) λu s1 ⟨v',H',I1,r1,e1,e2⟩=>?_);subst e1 e2;cases(show u=aA a from r1);obtain⟨pm,ctv,hfo⟩:=L.fo;have fnAt:∀{H2:Hp}{s2:af},Inv X pins σ H2 s2->j0 H' H2->PySem.W.FnAt a s2.heap:=λ{H2 s2} I2 g=>⟨_,_,_,_,(show jj X.prog X.w H2 s2.heap a (.frz _ (.own 0))from I2.hok _ _ (g _ _ (of_del hfo).2)).1⟩
 refine W.callWith_F (fnAt I1 (j0.refl _)) (thn (ha σ H' (λvs H2=>j0 H' H2/\j4 X.K (del H2 (owns ρ)) ds vs) R (λvs H2 g z=>⟨g,z⟩) pos pins s1 I1) λus s2 ⟨vs,H2,I2,rv,g,ea⟩=>⟨fnAt I2 g,?_⟩) he hpl;refine dZ (bf (c X.A X.stack s2 H2 a (owns ρ) cs ds d vs us Q E0 hr I2.env0 (R.tb.mono g) (R.grow g).owned (en.mono (je g)) ea nf hS rv λv H3 g3 z=>q v H3 (g.trans g3) z) λr s' hq=>?_);cases r with
 |error e=>exact(show False from hq).elim
 |ok fl =>
  cases fl with
  |ret u=>exact I2.after hq
  |next=>exact(show False from hq).elim
  |brk=>exact(show False from hq).elim
  |cont=>exact(show False from hq).elim
end
theorem Dh{pos:aK}{c cv:a9}{a b:Int}:∀(l:List a9),TriplesOk l->ff pos (l++[dE a,dE b,c])=a3 cv->ff pos l=a3 cv\/cv=c
 |[],_,h=>by
  simp only[cJ,dE,ff]at h;split at h
  .exact .inr (av h).symm
  .cases h
 |.int i t::.int j u::x::r,ht,h=>by
  simp only[dA,ff]at h ⊢;split at h
  .rename_i z;rw[if_pos z];exact .inl h
  .rename_i z;rw[if_neg z];exact Dh r ht h
section
variable{X:Cx}{pins:k8f}{σ:St}{H:Hp}{s:af}
theorem Inv.madeL{q:ah}{P:aa}{h2:aD}{tk:Nat}{H2:Hp}(I:Inv X pins σ H s)(hP:H P=a3 (.cod q))(g:j0 H H2)(kp:∀b o,b≠P->s.heap.get? b=a3 o->h2.get? b=a3 o)
  (new:∀b o,H2 b=a3 o->H b=a3 o\/(s.heap.objs.size<=b/\jj X.prog X.w H2 h2 b o)) (okP:jj X.prog X.w H2 h2 P (.cod q)):Inv X pins σ H2 { s with heap:=h2,toks:=tk }:=by
 have nP:∀{b:aa},H b=a6->b≠P:=λ{b} n z=>by rw[z,hP]at n;cases n
 have nO:∀{b:aa}{u:HO},H b=a3 u->(∀q,u≠.cod q)->b≠P:=λ{b u} e n z=>by rw[z,hP]at e;cases e;exact n _ rfl
 refine I.un (H':=H2) (h':=h2) (t':=tk) ⟨λb o e n _ _=>kp b o (nP n) e,λb o e n _ _=>⟨o.slots,kp b o (nP n) e⟩,λb o e n _=>?_,λb o e _=>?_,λb xs e=>g _ _ e,λb o u e=>g _ _ e,λb ps e=>⟨#[],by rw[g _ _ e];simp⟩⟩ λb o e=>?_
 .cases z:H2 b with
  |none=>rfl
  |some u =>
   rcases new b u z with y|⟨y,_⟩
   .rw[n]at y;cases y
   .exact absurd (Xj (xu e) y) (ph _)
 .by_cases z:b=P
  .obtain⟨ps,y,_⟩:=okP;exact⟨_,by rw[z];exact y⟩
  .exact⟨o,kp b o z e⟩
 .rcases new b o e with y|⟨_,y⟩
  .by_cases z:b=P
   .subst z;rw[hP]at y;cases y;exact okP
   .exact(I.hok b o y).stay (λc u hc r=>kp c u (hc.elim (λe=>e▸z) λe=>nO e λ_ z=>by cases z) r) (λ_ r=>g _ _ r) (λ_ _ r=>g _ _ r) λ_ _ _ r=>g _ _ r
  .exact y
structure LMk(X:Cx)(x:ah):Prop where
 mem:x∈Zz
 qual:X.env.qual=x ++ ".<locals>."
 code:∃c P,X.env.code=.ref c/\W.codeHdIn X.K c P=a5/\W.tabIn X.K x=a3 (c,P)
def jkt(X:Cx)(x:ah)(params:dh)(body:aj)(scope:b7)(cl:List (ah×aa)):TE:=λ_ H Q=>TabOk X.K H/\∀(f c:aa)(oc:d8)(pm ctv:a9)(H2:Hp),j0 H H2->H f=a6->H2 f=a3 (.frz (W.kla_obj "<lambda>" (jx x) params body scope cl pm c ctv) (.own 0)) ->
 H2 c=a3 (.frz oc (.own 0))->Ob oc (jx x)->Q (.ref f) H2
theorem j5e{x:ah}{params:dh}{body:aj}{scope:b7}{cl:List (ah×aa)}{pos:aK}(M:LMk X x)(hdef:fJ params X.env=([],[]))(hcl:du scope X.env=pure cl):PE X (.Lambda params body scope pos) (jkt X x params body scope cl):=by
 rintro pins s σ H Q I ⟨tb,h⟩;obtain⟨c,P,hc,hd,ht⟩:=M.code;have hP:=tb x M.mem c P ht;have C:iP s.heap c P:=W.codeHd_of_K I.kIn hd;obtain⟨ps,hps,htr,hcod⟩:=(show jj X.prog X.w H s.heap P (.cod (jx x))from I.hok _ _ hP)
 have hns:=I.mod.glob.keeps I.bk;have hgP:aq≠P:=λz=>by obtain⟨o,es,ep,e,d,_⟩:=hns;rw[z,hps]at e;cases e;cases d
 have hbP:s.heap.BuiltinsAt X.mg P:=by
  obtain⟨bm,ob,b1,b2,b3,b4,b5,b6⟩:=I.mod.bm;have b3':=I.bk _ _ b3;refine⟨bm,ob,b1,b2,λz=>?_,λz=>?_,b3',b4,b5,b6⟩
  .obtain⟨o,es,ep,e,d,_⟩:=hns;rw[z,e]at b3';cases b3';rw[d]at b6;cases b6
  .rw[z,hps]at b3';cases b3';cases b4
 have hq:X.env.qual ++ "<lambda>" = jx x:=by rw[M.qual];rfl
 refine W.kla_eval hdef ?_;rw[hq];cases e:ff pos ps.toList with
 |none =>
  refine W.kla_makeFunction hcl I.ok.glob hns hc C hps htr e hgP hbP λc' ctv h' tk hx hge hlt hrec htb=>?_;obtain⟨c2,oc,vs,t,ec,hoc,hdt,hv⟩:=hrec;cases ec;have hsz:s.heap.objs.size<=h'.objs.size:=cT (c8 hge hlt);have n1:H c'=a6:=I.hok.fresh hge;have n2:H h'.objs.size=a6:=I.hok.fresh hsz;have ne:c'≠h'.objs.size:=Xa hlt;have hne:∀{b:aa}{u:HO},H b=a3 u->b≠c'/\b≠h'.objs.size:=λz=>⟨vf z n1,vf z n2⟩
  have g:∀fo:HO,j0 H (upd (upd H c' (.frz oc (.own 0))) h'.objs.size fo):=λfo b u z=>by rw[jg (hne z).2,jg (hne z).1];exact z
  have h2c:∀fo:HO,upd (upd H c' (.frz oc (.own 0))) h'.objs.size fo c'=a3 (.frz oc (.own 0)):=λfo=>by rw[jg ne,j9]
  refine⟨.ref h'.objs.size,_,I.madeL (P:=P) (q:=jx x) (H2:=upd (upd H c' (.frz oc (.own 0))) h'.objs.size (.frz (W.kla_obj "<lambda>" (jx x) params body scope cl ((X.mg "__name__").getD .none) c' ctv) (.own 0))) hP (g _)
   (λb o nb z=>xj _ (hx b o nb z)) (λb o z=>?_) ?_,rfl,h _ c' oc _ ctv _ (g _) n2 j9 (h2c _) ⟨vs,t,hdt,hv⟩⟩
  .by_cases z1:b=h'.objs.size
   .subst z1;rw[j9]at z;cases z;exact .inr ⟨hsz,X5 _ rfl,_,X5 _ rfl⟩
   .rw[jg z1]at z;by_cases z2:b=c'
    .subst z2;rw[j9]at z;cases z;exact .inr ⟨hge,xj _ hoc,_,xj _ hoc⟩
    .rw[jg z2]at z;exact .inl z
  .refine⟨_,xj _ htb,by rw[Tv];exact TriplesOk_snoc _ _ _ _ htr,λpos' cv z=>?_⟩;rw[Tv]at z;rcases Dh ps.toList htr z with z|z
   .obtain⟨c3,oc3,e1,e2,e3⟩:=hcod pos' cv z;exact⟨c3,oc3,e1,g _ _ _ e2,e3⟩
   .exact⟨c',oc,z,h2c _,vs,t,hdt,hv⟩
 |some cv =>
  obtain⟨c',oc,ec,h1,h2⟩:=hcod pos cv e;subst ec;refine W.kla_makeFunctionHit hcl I.ok.glob hns hc C hps htr e hbP λctv h' tk hk hsz=>?_;have n2:H h'.objs.size=a6:=I.hok.fresh hsz;have g:∀fo:HO,j0 H (upd H h'.objs.size fo):=λfo=>j7 n2;refine⟨.ref h'.objs.size,_,I.madeL (P:=P) (q:=jx x) (H2:=upd H h'.objs.size (.frz (W.kla_obj "<lambda>" (jx x) params body scope cl ((X.mg "__name__").getD .none) c' ctv) (.own 0))) hP (g _)
   (λb o _ z=>xj _ (hk b o z)) (λb o z=>?_) ?_,rfl,h _ c' oc _ ctv _ (g _) n2 j9 (g _ _ _ h1) h2⟩
  .by_cases z1:b=h'.objs.size
   .subst z1;rw[j9]at z;cases z;exact .inr ⟨hsz,X5 _ rfl,_,X5 _ rfl⟩
   .rw[jg z1]at z;exact .inl z
  .refine⟨ps,xj _ (hk _ _ hps),htr,λpos' cv z=>?_⟩;obtain⟨c3,oc3,e1,e2,e3⟩:=hcod pos' cv z;exact⟨c3,oc3,e1,g _ _ _ e2,e3⟩
noncomputable def plus(H:Hp)(h:aD)(cs:List aa):Hp:=λb=>if b∈cs then(h.get? b).map λo=>.frz o (.own 0)else H b
theorem Mq{h:aD}{cs:List aa}{b:aa}{o:d8}(hb:b∈cs)(e:h.get? b=a3 o):plus H h cs b=a3 (.frz o (.own 0)):=by unfold plus;rw[if_pos hb,e];rfl
theorem Q5{h:aD}{cs:List aa}{b:aa}(hb:b∉cs):plus H h cs b=H b:=if_neg hb
def Own(X:Cx)(cs:List aa):Prop:=∀c∈cs,∃y,X.env.cells.lookup y=a3 c/\X.fn y=a5
theorem Own.obj{cs:List aa}(I:Inv X pins σ H s)(hc:Own X cs){c:aa}(h:c∈cs):∃o v,s.heap.get? c=a3 o/\o.data=.cell v/\H c=a6/\X.s₀.heap.objs.size<=c/\c≠X.env.locals:=by obtain⟨y,e,f⟩:=hc c h;obtain⟨v,o,e1,e2⟩:=I.cell y c e;exact⟨o,v,e1,e2,I.freeC y c e,I.ok.cab y c f e,I.cne y c e⟩
theorem U5{cs:List aa}(I:Inv X pins σ H s)(hc:Own X cs):j0 H (plus H s.heap cs):=λb o e=>by rw[Q5];exact e;intro z;obtain⟨_,_,_,_,n,_⟩:=hc.obj I z;rw[n]at e;cases e
theorem Inv.plus{cs:List aa}(I:Inv X pins σ H s)(hc:Own X cs) :
  Env0 X.prog X.w X.K X.mg X.base X.A X.stack s (plus H s.heap cs)/\∀(Q:VK)(u:a9)(s':af),CE X.stack X.prog X.w (L2.plus H s.heap cs) s (λv H'=>Cel H' cs->Q v (del H' cs)) u s'->EP X pins σ Q u s':=by
 have e0:=I.env0;have nb:∀{b:aa}{u:HO},H b=a3 u->b∉cs:=λ{b u} e z=>by obtain⟨_,_,_,_,n,_⟩:=hc.obj I z;rw[n]at e;cases e
 have nf:∀b∈frs X.stack,b∉cs:=λb hb z=>by
  obtain⟨o,v,e1,e2,n,hge,hl⟩:=hc.obj I z;rcases xq.mp (I.stkSub b hb)with y|y
  .exact hl y
  .obtain⟨_,o',ho,_⟩:=I.ok.funs.mem y;exact absurd (Xj (xu ho) hge) (ph _)
 have g:=U5 I hc;refine⟨⟨e0.frames,e0.mod,λb o e=>⟨(e0.bs b o e).1,?_⟩,e0.bsz,e0.funs,λb hb=>by rw[Q5 (nf b hb)];exact e0.frf b hb,λb o e=>?_,e0.bare⟩,λQ u s' hq=>?_⟩
 .rw[Q5];exact(e0.bs b o e).2;intro z;obtain⟨_,_,_,_,_,hge,_⟩:=hc.obj I z;exact absurd (Xj (xu e) (Xk I.ok.bsz hge)) (ph _)
 .by_cases z:b∈cs
  .obtain⟨oc,v,e1,_⟩:=hc.obj I z;rw[Mq z e1]at e;cases e;exact⟨e1,_,e1⟩
  .rw[Q5 z]at e;exact(I.hok b o e).stay (λ_ _ _ r=>r) (λ_ r=>g _ _ r) (λ_ _ r=>g _ _ r) λ_ _ _ r=>g _ _ r
 .obtain⟨v,H',os,bare,un,hok',rel,q⟩:=hq;have cel:∀c∈cs,∃o v,s.heap.get? c=a3 o/\o.data=.cell v/\H' c=a3 (.frz o (.own 0))/\s'.heap.get? c=a3 o:=λc hcs=>by obtain⟨o,v,e1,e2,_⟩:=hc.obj I hcs;have z:=un.frzs c o _ (Mq hcs e1);exact⟨o,v,e1,e2,z,(show jj X.prog X.w H' s'.heap c (.frz o (.own 0))from hok' _ _ z).1⟩
  have hC:Cel H' cs:=λc hcs=>let ⟨o,v,_,e2,e3,_⟩:=cel c hcs;⟨o,v,e3,e2⟩;have nb':∀{b:aa}{u:HO},H' b=a3 u->(∀oc v,u=.frz oc (.own 0)->oc.data≠.cell v)->del H' cs b=a3 u:=λ{b u} e n=>by rw[j5];exact e;intro z;obtain⟨o,v,_,e2,e3,_⟩:=cel b z;rw[e]at e3;cases e3;exact n _ _ rfl e2
  refine⟨v,del H' cs,I.call' (ch:=[]) os ⟨λb o e n hb hx=>?_,λb o e n hb hx=>?_,λb o e n hx=>?_,un.there,λb xs e=>?_,λb o u e=>?_,λb ps e=>?_⟩ (λb o e=>?_) bare (λb z=>absurd z (by simp)),rel,q hC⟩
  .by_cases z:b∈cs
   .obtain⟨o',v',e1,_,_,e4⟩:=cel b z;rw[e]at e1;cases e1;exact e4
   .exact un.keep b o e (by rw[Q5 z];exact n) hb hx
  .exact un.slot b o e (by rw[Q5 (nf b hb)];exact n) hb hx
  .by_cases z:b∈cs
   .exact qp z
   .rw[j5 z];exact un.free b o e (by rw[Q5 z];exact n) hx
  .have z:=un.tups b xs (g _ _ e);exact nb' z λ_ _ y=>by cases y
  .have z:=un.frzs b o u (g _ _ e);rw[j5 (nb e)];exact z
  .obtain⟨m,z⟩:=un.tbls b ps (g _ _ e);exact⟨m,nb' z λ_ _ y=>by cases y⟩
  .obtain⟨n,e⟩:=of_del e;exact(hok' b o e).stay (λ_ _ _ r=>r) (λ_ r=>nb' r λ_ _ y=>by cases y) (λ_ _ r=>nb' r λ_ _ y=>by cases y) λ_ _ ⟨vs,d⟩ r=>nb' r λ_ _ y d'=>by cases y;rw[d]at d';cases d'
end
def Zu(X:Cx)(ρ:Rho):List (ah×aa)->List D->Prop
 |[],ds=>ds=[]
 |p::cl,ds=>∃(d:D)(r:List D)(i:Nat),ds=d::r/\X.N[i]?=a3 p.1/\X.env.scope.names.lookup p.1=a3 .cell/\X.env.cells.lookup p.1=a3 p.2/\X.fn p.1=a5/\ρ[i]?=a3 (.val d)/\Zu X ρ cl r
section
variable{X:Cx}{pins:k8f}{σ:St}{H H2:Hp}{s s2:af}{ρ:Rho}
theorem Zu.own:∀{cl:List (ah×aa)} {ds:List D},Zu X ρ cl ds->Own X (cl.map (·.2))
 |[],_,_=>λ_ h=>nomatch h
 |p::cl,_,⟨d,r,i,e,h1,h2,h3,h4,h5,l⟩=>λc hc=>(xq.mp hc).elim (λz=>⟨p.1,by rw[z];exact h3,h4⟩) (Zu.own l c)
theorem Zu.look:∀{cl:List (ah×aa)} {ds:List D},Zu X ρ cl ds->∀p∈cl,X.env.cells.lookup p.1=a3 p.2
 |p::cl,_,⟨d,r,i,e,h1,h2,h3,h4,h5,l⟩,q,hq=>(xq.mp hq).elim (λz=>z▸h3) (Zu.look l q)
theorem Zu.cells(I2:Inv X pins σ H2 s2)(R:Rep X.K ρ σ H){cs:List aa}(hg:j0 (del H (owns ρ)) (del (plus H2 s2.heap cs) cs)):∀{cl:List (ah×aa)} {ds:List D},Zu X ρ cl ds->(∀c∈cl.map (·.2),c∈cs) ->
  ∃vs,vp (plus H2 s2.heap cs) (cl.map (·.2)) vs/\j4 X.K (del (plus H2 s2.heap cs) cs) ds vs
 |[],_,h,_=>by cases h;exact⟨[],rfl,rfl⟩
 |p::cl,_,⟨d,r,i,e,h1,h2,h3,h4,h5,l⟩,hm=>by
  subst e;obtain⟨vs,q1,q2⟩:=Zu.cells I2 R hg l λc hc=>hm c (xg _ hc);obtain⟨v,hv,en⟩:=R.val i d h5;obtain⟨m,hn,hl⟩:=I2.loc;obtain⟨u,r,lk⟩:=hl i p.1 v h1 hv (.inr (.inl h2));rcases lk with ⟨k,_⟩|⟨_,c,e,o,ho,hd⟩
  .have k:X.env.scope.names.lookup p.1=a3 .local:=k;rw[h2]at k;cases k
  .rw[h3]at e;cases e;exact⟨v::vs,⟨v,vs,o,u,rfl,Mq (hm _ (xm ..)) ho,hd,r,q1⟩,v,vs,rfl,en.mono hg,q2⟩
theorem j1h{cl:List (ah×aa)}{ds:List D}(ok:X.Ok)(h:Zu X ρ cl ds)(nd:(cl.map (·.1)).Nodup):(cl.map (·.2)).Nodup:=by
 have lk:=h.look;clear h;induction cl with
 |nil=>exact cU
 |cons p r ih =>rw[xr]at nd ⊢;obtain⟨n1,n2⟩:=Xn.mp nd;refine Xn.mpr ⟨λz=>?_,ih n2 λq hq=>lk q (xg _ hq)⟩;obtain⟨q,hq,e⟩:=Xh.mp z;have:=ok.inj p.1 q.1 p.2 (lk p (xm ..)) (by rw[<-e];exact lk q (xg _ hq));exact n1 (this▸eJ hq)
theorem j68{x:ah}{tx:Tx}{cl:List (ah×aa)}{ds:List D}{f c:aa}{oc:d8}{pm ctv:a9}(ht:Qz X.K x=a3 tx)(hn:cl.map (·.1)=v5 tx.2.2)(nd:(v5 tx.2.2).Nodup)(hc:Zu X ρ cl ds)(I2:Inv X pins σ H2 s2)(R:Rep X.K ρ σ H)(g:j0 H H2)
  (hf:H2 f=a3 (.frz (W.kla_obj "<lambda>" (jx x) tx.1 tx.2.1 tx.2.2 cl pm c ctv) (.own 0))) (ho:H2 c=a3 (.frz oc (.own 0))) (hq:Ob oc (jx x)):Enc X.K (plus H2 s2.heap (cl.map (·.2))) (.fn x ds) (.ref f):=by
 have pg:=U5 I2 hc.own;have hg:j0 (del H (owns ρ)) (del (plus H2 s2.heap (cl.map (·.2))) (cl.map (·.2))):=λb o e=>by
  have e2:=g _ _ (of_del e).2;have nb:b∉cl.map (·.2):=λz=>by obtain⟨_,_,_,_,n,_⟩:=hc.own.obj I2 z;rw[n]at e2;cases e2
  rw[j5 nb,Q5 nb];exact e2
 obtain⟨vs,q1,q2⟩:=hc.cells I2 R hg λ_ z=>z;exact⟨f,c,tx,cl,vs,rfl,⟨ht,⟨pm,ctv,pg _ _ hf⟩,⟨oc,pg _ _ ho,hq⟩,hn,j1h I2.ok hc (by rw[hn];exact nd),q1⟩,q2⟩
end
section
variable{X:Cx}{ρ:Rho}{P:Po}{x:ah}{params:dh}{body:aj}{scope:b7}{cl:List (ah×aa)}{ds:List D}{pos p1 p2:aK}
theorem DS.retLam(M:LMk X x)(hdef:fJ params X.env=([],[]))(hcl:du scope X.env=pure cl)(ht:Qz X.K x=a3 (params,body,scope))(hn:cl.map (·.1)=v5 scope)(nd:(v5 scope).Nodup)(hc:Zu X ρ cl ds)(h:P.rt (.val (.fn x ds))) :
  DS X ρ (.Return (a3 (.Lambda params body scope p1)) pos) P:=λσ H E R q pins s I=>by
 refine kv (thn (j5e M hdef hcl pins s σ H (λv H2=>∃(f c:aa)(oc:d8)(pm ctv:a9),v=.ref f/\j0 H H2/\H2 f=a3 (.frz (W.kla_obj "<lambda>" (jx x) params body scope cl pm c ctv) (.own 0))/\H2 c=a3 (.frz oc (.own 0))/\Ob oc (jx x)) I
  ⟨R.tb,λf c oc pm ctv H2 g _ h1 h2 h3=>⟨f,c,oc,pm,ctv,rfl,g,h1,h2,h3⟩⟩) λu s2 ⟨v,H2,I2,r,f,c,oc,pm,ctv,ev,g,h1,h2,h3⟩=>?_)
 subst ev;refine⟨_,σ,H2,plus H2 s2.heap (cl.map (·.2)),I2,r,λb=>?_,q.rt _ _ _ h ⟨λb o e=>U5 I2 hc.own _ _ (g _ _ (of_del e).2),j68 (tx:=(params,body,scope)) ht hn nd hc I2 R g h1 h2 h3⟩⟩;by_cases z:b∈cl.map (·.2)
 .obtain⟨o,v,e1,e2,_⟩:=hc.own.obj I2 z;obtain⟨y,e,fy⟩:=hc.own b z;exact .inr ⟨y,o,v,e,fy,Mq z e1,e1,e2⟩
 .exact .inl (Q5 z)
theorem DT.callL{S:List D->D->Prop}{g:ah}{e1 e2:aj}{d1 d2 d:D}(c:Cal X g (spP X.K S))(M:LMk X x)(hdef:fJ params X.env=([],[]))(hcl:du scope X.env=pure cl)(ht:Qz X.K x=a3 (params,body,scope))(hn:cl.map (·.1)=v5 scope)(nd:(v5 scope).Nodup)(hc:Zu X ρ cl ds)
  (h1:DT X ρ e1 d1) (h2:DT X ρ e2 d2) (nf:noFn d=a5) (hS:S [d1,d2,.fn x ds] d) (hg:Gl X g) (hdb:(g==k8h)=a4)
  (hs1:a8 [e1,e2,.Lambda params body scope p1] X.env=(a4,ay e1 X.env)::a8 [e2,.Lambda params body scope p1] X.env) (hs2:a8 [e2,.Lambda params body scope p1] X.env=(a4,ay e2 X.env)::a8 [.Lambda params body scope p1] X.env)
  (hs3:a8 [.Lambda params body scope p1] X.env=(a4,ay (.Lambda params body scope p1) X.env)::a8 [] X.env) (hpl:(aM pos (a8 [e2,.Lambda params body scope p1] X.env)).any (·.1)=a4) :
  DT X ρ (.Call (.Name g p2) [e1,e2,.Lambda params body scope p1] [] pos) d:=λσ H Q R q pins s I=>by
 obtain⟨k,f,fd,ps,F,hr,hm,hk,hb,_⟩:=c.ex;refine aH (Yd I hg hm ?_ hdb);refine W.callWith_K (h₀:=X.base) I.ok.mod.kin hk (thn ((jd peS (jd peS (jd (j5e M hdef hcl) jz hs3) hs2) hs1) pos pins s σ H (λvs H2=>∃(v1 v2:V)(f c:aa)(oc:d8)(pm ctv:a9),vs=[v1,v2,.ref f]/\j0 H H2/\Enc X.K H2 d1 v1/\Enc X.K H2 d2 v2 /\
   H2 f=a3 (.frz (W.kla_obj "<lambda>" (jx x) params body scope cl pm c ctv) (.own 0))/\H2 c=a3 (.frz oc (.own 0))/\Ob oc (jx x)) I
  (h1 σ H _ R λv1 H1 g1 q1=>h2 σ H1 _ (R.grow g1) λv2 H2 g2 q2=>⟨R.tb.mono (g1.trans g2),λf c oc pm ctv H3 g3 _ z1 z2 z3=>⟨v1,v2,f,c,oc,pm,ctv,rfl,(g1.trans g2).trans g3,q1.mono (g2.trans g3),q2.mono g3,z1,z2,z3⟩⟩)) λus s2 ⟨vs,H2,I2,rv,v1,v2,fa,ca,oc,pm,ctv,ev,g,q1,q2,z1,z2,z3⟩=>⟨I2.kIn,?_⟩) hs1 hpl
 subst ev;have pg:=U5 I2 hc.own;have ef:=j68 (tx:=(params,body,scope)) ht hn nd hc I2 R g z1 z2 z3;obtain⟨e0,back⟩:=I2.plus hc.own;have sp:spP X.K S [v1,v2,.ref fa] (plus H2 s2.heap (cl.map (·.2))) (λv H'=>Cel H' (cl.map (·.2))->Q v (del H' (cl.map (·.2)))) E0 :=
  ⟨[],[d1,d2,.fn x ds],d,(R.tb.mono g).mono pg,(λa h=>nomatch h),by rw[Jw];exact⟨_,_,rfl,q1.mono pg,_,_,rfl,q2.mono pg,_,_,rfl,ef,rfl⟩,hS,λv H' g' en hC=>by
   rw[Jw]at en
   refine q v _ (λb o e=>?_) (en.noc hC nf)
   have e2:=g _ _ e
   have nb:b∉cl.map (·.2):=λz=>by obtain⟨_,_,_,_,n,_⟩:=hc.own.obj I2 z;rw[n]at e2;cases e2
   rw[j5 nb];exact g' _ _ (pg _ _ e2)⟩
 have hl:us.length=ps.length:=by rw[<-rv.length];exact F.len _ _ _ _ sp
 have hb':=hb s2 us I2.kIn (by rw[Xv];exact hl);rw[Xv]at hb';refine dZ (bf (F.run X.A X.stack s2 _ ⟨us,[]⟩ us _ _ _ (hr.mono (Py _)) e0 hb' rv sp) λr s' hq=>?_);cases r with
 |error e=>exact(show False from hq).elim
 |ok fl =>
  cases fl with
  |ret u=>exact back Q u s' hq
  |next=>exact(show False from hq).elim
  |brk=>exact(show False from hq).elim
  |cont=>exact(show False from hq).elim
end
section
variable{X:Cx}{ρ:Rho}{e a b c:aj}{es:List aj}{st:aQ}{rest sa sb body:List aQ}{P:Po}{d:D}{ds ds':List D}{pos p p1 p2 p3:aK}{x:ah}{i:Nat}
theorem Cal.comp{sp:Sp}{scope:b7}{C:aa}{s:af}{H:Hp}{fp:List aa}{pn:k8f}(h:Cal X x sp):Cal (cCx X scope C s H fp pn) x sp:=⟨h.ex⟩
end
theorem jq(lo:Int)(n:Nat):(upto lo n).length=n:=by unfold upto;rw[kj,Xi]
theorem j0e{lo:Int}{n:Nat}{d:D}(h:d∈upto lo n):∃j:Nat,j<n/\d=.int (lo+j):=by unfold upto at h;obtain⟨j,hj,e⟩:=Xh.mp h;exact⟨j,Xd.mp hj,e.symm⟩
theorem Va{lo:Int}{n j:Nat}{d:D}(h:(upto lo n)[j]?=a3 d):j<n/\d=.int (lo+j):=by
 unfold upto at h;rw[X3]at h;cases z:(aw n)[j]? with
 |none=>rw[z]at h;cases h
 |some k =>rw[z]at h;have hl:=(X7.mp z).1;rw[Xi]at hl;have:=Pj (n:=n) (i:=j) hl;rw[this]at z;cases z;cases h;exact⟨hl,rfl⟩
section
variable{X:Cx}{ρ:Rho}{a b tg it:aj}{ds ds':List D}{d:D}{i:Int}{pos:aK}
end
mutual
def Qg:D->Prop
 |.tup l=>l.length<=1000/\Zg l
 |.lst l=>l.length<=1000/\Zg l
 |.dct _ _=>False
 |.sct _=>False
 |.fn _ _=>False
 |_=>True
def Zg:List D->Prop
 |[]=>True
 |d::ds=>Qg d/\Zg ds
end
theorem Wc:∀{ds:List D}{d:D},Zg ds->d∈ds->Qg d
 |x::xs,d,h,m=>by
  simp only[Zg]at h;rcases xq.mp m with e|m
  .subst e;exact h.1
  .exact Wc h.2 m
theorem K1:∀{ds:List D},(∀d∈ds,Qg d)->Zg ds
 |[],_=>by simp only[Zg]
 |x::xs,h=>by simp only[Zg];exact⟨h x (xm ..),K1 λd m=>h d (xg _ m)⟩
theorem D.depL_mem:∀{ds:List D}{d:D},d∈ds->d.dep<=D.depL ds
 |x::xs,d,m=>by
  simp only[D.depL];rcases xq.mp m with e|m
  .subst e;omega
  .have:=D.depL_mem m;omega
theorem D.depL_of{n:Nat}:∀{ds:List D},(∀d∈ds,d.dep<=n)->D.depL ds<=n
 |[],_=>by simp only[D.depL];omega
 |x::xs,h=>by simp only[D.depL];have h1:=h x (xm ..);have h2:=D.depL_of (ds:=xs) λd m=>h d (xg _ m);omega
end L2
namespace L2
noncomputable def j6(b:Int):Nat->Int->List Int
 |0,_=>[]
 |i+1,n=>(n/b^i%b)::j6 b i n
theorem q9(b:Int):∀(m:Nat)(n:Int),(j6 b m n).length=m
 |0,_=>rfl
 |m+1,n=>by rw[j6,X8,q9 b m n]
theorem Zr(b:Int):∀{m k:Nat}{n:Int},k<m->(j6 b m n)[k]?=a3 (n/b^(m-k-1)%b)
 |m+1,0,n,_=>by rw[j6];rfl
 |m+1,k+1,n,h=>by
  rw[j6,dz,Zr b nofun];have:m-k-1=m+1-(k+1)-1:=by omega
  rw[this]
theorem V4{b:Int}(hb:0<b):∀{m:Nat}{n v:Int},v∈j6 b m n->0<=v/\v<b
 |m+1,n,v,h=>by
  rw[j6]at h;rcases xq.mp h with e|h
  .subst e;exact⟨T8 _ nofun,sr _ hb⟩
  .exact V4 hb h
theorem Bw(n b:Int)(hb:0<b)(i:Nat):n/b^i/b=n/b^(i+1):=by rw[Int.ediv_ediv_of_nonneg (kZ (bO hb)),i8]
end L2
end
section
namespace L2
open PySem PySem.Spec PyProof.Rows
def CX1(P:au)(w:az):CXT:=λouter H s E ev s'=>∃(e:aa)(C:a9)(H':Hp),ev=.ref e/\s'.os=s.os/\dD s'.gens/\Un (frs outer) [] H H' s.heap s'.heap/\HOk P w H' s'.heap /\
 Fl (λb=>∃o,s.heap.get? b=a3 o) H' s'.heap e C/\E C a6 H'
theorem jj.get{P:au}{w:az}{H:Hp}{h:aD}{a:aa}{o:HO}(x:jj P w H h a o):∃u,h.get? a=a3 u:=by
 cases o with
 |lst xs=>obtain⟨_,_,_,_,e⟩:=x;exact⟨_,e⟩
 |tup xs=>obtain⟨_,_,_,⟨_,e,_⟩,_⟩:=x;exact⟨_,e⟩
 |dK kvs=>obtain⟨_,_,_,_,o,_,_,e,_⟩:=x;exact⟨_,e⟩
 |dT kvs=>obtain⟨_,_,_,_,o,_,_,e,_⟩:=x;exact⟨_,e⟩
 |dI xs ep=>obtain⟨_,_,_,o,_,e,_⟩:=x;exact⟨_,e⟩
 |set S n=>obtain⟨o,_,_,_,e,_⟩:=x;exact⟨_,e⟩
 |ins C dx fs=>obtain⟨_,_,_,e,_⟩:=x;exact⟨_,e⟩
 |own y=>obtain⟨_,e⟩:=x;exact⟨_,e⟩
 |xd fs=>obtain⟨_,⟨_,_,_,e,_⟩,_⟩:=x;exact⟨_,e⟩
 |rng lo hi=>obtain⟨_,_,_,e⟩:=x;exact⟨_,e⟩
 |frz ob u=>obtain⟨e,_⟩:=x;exact⟨_,e⟩
 |tbl ps=>exact⟨_,(show h.get? a=a3 _ from x)⟩
 |cod q=>obtain⟨_,e,_⟩:=x;exact⟨_,e⟩
 |met f y=>exact⟨_,(show h.get? a=a3 _ from x)⟩
 |ext φ=>obtain⟨_,⟨_,e⟩,_⟩:=x;exact⟨_,e⟩
section
variable{X:Cx}{pins:k8f}{σ:St}{H:Hp}{s:af}
theorem Inv.old(I:Inv X pins σ H s){b:aa}(h:Old X pins b):∃o,s.heap.get? b=a3 o:=by
 rcases h with ⟨o,q,n⟩|⟨p,hp,rfl⟩|rfl|⟨x,e⟩
 .exact I.base.there b o q n
 .exact⟨_,(I.pin p hp).1⟩
 .obtain⟨m,⟨o,_,_,e,_⟩,_⟩:=I.loc;exact⟨o,e⟩
 .obtain⟨v,o,e,_⟩:=I.cell x b e;exact⟨o,e⟩
end
section
variable{P:au}{w:az}{K:k8d}{mg:k8g}{base:aD}{N ps:List ah}{qual:ah}{scope:b7}{f:aa}{cd:a9}{A:aC}{outer:List dB}{s s':af}{H H':Hp}{E:XK}{σ:St}{pins:k8f}{e:aa}{C:a9}
theorem j25{as:List aa}{h':aD}{a0:a9}(I:Inv (vy (CX1 P w) P w K mg base N qual scope f cd A outer s H E) pins σ H' s')(F:Fl (Old (vy (CX1 P w) P w K mg base N qual scope f cd A outer s H E) pins) H' s'.heap e C)
  (hE:E C a6 H') (ha:∀b,b∈as↔b∈frs (br qual scope s.heap.objs.size f cd::outer)\/(¬(∃o,s.heap.get? b=a3 o)/\H' b=a6/\b∈as)) (hfa:∀b∈frs (br qual scope s.heap.objs.size f cd::outer),b∈as)
  (hL:Heap.LeftW (W.hideAll s'.heap as) (br qual scope s.heap.objs.size f cd::outer) e C a0 s'.heap h'):CX1 P w outer H s E (.ref e) { s' with heap:=h' }:=by
 obtain⟨k1,k2,k3,k4⟩:=hL;have fr:∀b∈frs outer,∃o,s'.heap.get? b=a3 o/\∀vs,o.data≠.fields vs:=λb hb=>by obtain⟨o,ho,hd⟩:=(I.stack.mem (show b∈frs (br qual scope s.heap.objs.size f cd::outer)from xg _ hb)).2;exact⟨o,ho,hd⟩
 have sfree:∀b∈frs (br qual scope s.heap.objs.size f cd::outer),H' b=a6:=I.stkFree;have keep:∀b o,s'.heap.get? b=a3 o->b∉as->h'.get? b=a3 o:=λb o q n=>k1 b o (W.hideAll_get _ q n);have nold:∀b o,s.heap.get? b=a3 o->b∉frs outer->b∉as:=λb o q n z=>by
  rcases(ha b).mp z with z|⟨z,_⟩
  .rcases xq.mp z with z|z
   .have:=xu q;rw[show b=s.heap.objs.size from z]at this;exact absurd this (ph _)
   .exact n z
  .exact z ⟨o,q⟩
 have ntrk:∀b u,H' b=a3 u->b∉as:=λb u q z=>by
  rcases(ha b).mp z with z|⟨_,z,_⟩
  .rw[sfree b z]at q;cases q
  .rw[z]at q;cases q
 have slot:∀b∈frs outer,∀o,s'.heap.get? b=a3 o->∃sl,h'.get? b=a3 { o with slots:=sl }:=λb hb o q=>by obtain⟨o',ho,hd⟩:=fr b hb;rw[q]at ho;cases ho;exact k4 b o q hd
 have un:=I.base;refine⟨e,C,H',rfl,I.os,I.bare,⟨λb o q n hb _=>keep b o (un.keep b o q n hb (λz=>nomatch z)) (nold b o q hb),λb o q n hb _=>?_,λb o q n _=>un.free b o q n (λz=>nomatch z),λb o q _=>?_,un.tups,un.frzs,un.tbls⟩,
  λa o q=>(I.hok a o q).stay (λb u hb r=>keep b u r ?_) (λ_ z=>z) (λ_ _ z=>z) λ_ _ _ z=>z,?_,hE⟩
 .obtain⟨sl,q'⟩:=un.slot b o q n hb (λz=>nomatch z);obtain⟨sl',q2⟩:=slot b hb _ q';exact⟨sl',q2⟩
 .obtain⟨o',q'⟩:=un.there b o q (λz=>nomatch z);by_cases hb:b∈frs outer
  .obtain⟨sl,q2⟩:=slot b hb _ q';exact⟨_,q2⟩
  .exact⟨_,keep b o' q' (nold b o q hb)⟩
 .rcases hb with rfl|hb
  .exact ntrk _ _ q
  .exact ntrk _ _ hb
 .obtain⟨oe,vs,T,oT,ts,he,⟨hc,h0⟩,hd,h1,hnT,hTe,hT,hdT,h3⟩:=k3;refine⟨λb ⟨o,q⟩=>F.new b (.inl ⟨o,q,λz=>nomatch z⟩),F.free,oe,vs,a0,he,hc,hd,h0,.inr ⟨T,oT,ts,h1,hTe,hT,hdT,h3,?_,λb ⟨o,q⟩ z=>?_⟩⟩
  .cases r:H' T with
   |none=>rfl
   |some u =>obtain⟨ob,q⟩:=(I.hok T u r).get;rw[W.hideAll_get _ q (ntrk T u r)]at hnT;cases hnT
  .subst z;obtain⟨o',q'⟩:=un.there b o q (λz=>nomatch z);by_cases hb:b∈frs outer
   .obtain⟨o2,q2,nf⟩:=fr b hb;obtain⟨sl,q3⟩:=slot b hb o2 q2;rw[q3]at hT;cases hT;exact nf ts hdT
   .rw[W.hideAll_get _ q' (nold b o q hb)]at hnT;cases hnT
theorem j5v(I:Inv (vy (CX1 P w) P w K mg base N qual scope f cd A outer s H E) pins σ H' s')(F:Fl (Old (vy (CX1 P w) P w K mg base N qual scope f cd A outer s H E) pins) H' s'.heap e C)(hE:E C a6 H') :
  (vy (CX1 P w) P w K mg base N qual scope f cd A outer s H E).xe (.ref e) s':=by
 obtain⟨oe,vs,a0,he,hc,hd,h0,hT⟩:=F.obj;have hsN:∀b,(∃o,s.heap.get? b=a3 o)->Old (vy (CX1 P w) P w K mg base N qual scope f cd A outer s H E) pins b:=λb ⟨o,q⟩=>.inl ⟨o,q,λz=>nomatch z⟩;have hin:∀(as:List aa),(∀b∈frs (br qual scope s.heap.objs.size f cd::outer),b∈as)->∀env∈br qual scope s.heap.objs.size f cd::outer,∀a,env.frame=a3 a->a∈as:=λas h env he a ha=>h a (Te.mpr ⟨env,he,ha⟩);subst hc;rcases hT with h1|⟨T,oT,ts,h1,hTe,hT,hdT,h3,hTf,hTn⟩
 .let as:=e::frs (br qual scope s.heap.objs.size f cd::outer)
  have hfa:∀b∈frs (br qual scope s.heap.objs.size f cd::outer),b∈as:=λb hb=>xg _ hb;refine wpAny_leaving_firstW (base:=W.hideAll s'.heap as) I.ok.frames (W.funFrames_hide I.stack (hin as hfa)) rfl he (λb o q=>W.of_hideAll _ q) (W.hideAll_none _ (xm ..)) hd h1 h0 λh' hL =>j25 I F hE (λb=>⟨λz=>?_,λz=>z.elim (hfa b) λz=>z.2.2⟩) hfa hL
  rcases xq.mp z with e1|z'
  .subst e1;exact .inr ⟨λq=>F.new _ (hsN _ q) rfl,F.free,z⟩
  .exact .inl z'
 .let as:=e::T::frs (br qual scope s.heap.objs.size f cd::outer)
  have hfa:∀b∈frs (br qual scope s.heap.objs.size f cd::outer),b∈as:=λb hb=>xg _ (xg _ hb);refine wpAny_leaving_nextW (base:=W.hideAll s'.heap as) (a0:=a0) I.ok.frames (W.funFrames_hide I.stack (hin as hfa)) rfl ⟨oe,vs,T,oT,ts,he,⟨rfl,h0⟩,hd,h1,W.hideAll_none _ (xg _ (xm ..)),hTe,hT,hdT,h3⟩
   (λb o q=>W.of_hideAll _ q) (W.hideAll_none _ (xm ..)) λh' hL =>
   j25 I F hE (λb=>⟨λz=>?_,λz=>z.elim (hfa b) λz=>z.2.2⟩) hfa hL
  rcases xq.mp z with e1|z'
  .subst e1;exact .inr ⟨λq=>F.new _ (hsN _ q) rfl,F.free,z⟩
  .rcases xq.mp z' with e1|z2
   .subst e1;exact .inr ⟨λq=>hTn _ (hsN _ q) rfl,hTf,z⟩
   .exact .inl z2
end
def spX(K:k8d)(mg:k8g)(S:List D->ah->Prop):Sp:=λvs H _ E=>∃ds x C,TabOk K H/\j4 K H ds vs/\S ds x/\mg x=a3 C/\∀H',j0 H H'->E C a6 H'
section
variable{P:au}{w:az}{K:k8d}{mg:k8g}{base:aD}{x qual:ah}{st:aQ}{f:aa}{fd:aL}{N ps:List ah}{k:Nat}
theorem j66{S:List D->ah->Prop}(F:Fun K x qual st f fd)(Sc:FnScope N ps (jb st))(hl:∀ds y,S ds y->ds.length=ps.length)
  (hbody:∀(cdv:a9)(A:aC)(outer:List dB)(s:af)(H:Hp)(E:XK),Mi K f cdv->Room k (A.deeper (br qual (jb st) s.heap.objs.size f cdv))->∀ds y,S ds y ->
   DSs (vy (CX1 P w) P w K mg base N qual (jb st) f cdv A outer s H E) (z9 N ds) (jt st) { nx:=λ_=>False,rt:=λ_=>False,ex:=λz _=>z=y }):FnOk P w K mg base (CX1 P w) (k+1) f fd ps (spX K mg S):=by
 obtain⟨oc,od,dV,kV,doc,pm,an,cdv,ct,osl,rfl,lk,hcd⟩:=F.ex;refine jaw lk hcd Sc (λvs H Q E ⟨ds,y,C,tb,en,hS,_⟩=>by rw[en.length];exact hl ds y hS) λA outer s H vs Q E hr ⟨ds,y,C,tb,en,hS,hC,hE⟩=>⟨_,J7,?_⟩
 have ho:=Vm N ds;refine hbody cdv A outer s H E ⟨oc,od,_,osl,lk,rfl⟩ hr ds y hS (start N vs) H _ (U4 tb en) ⟨λρ' σ' H' n R f=>n.elim,λ_ _ _ z=>z.elim,λ_ _ _ z=>z.elim,λr v H' n z=>n.elim,λz ρ' σ' H' n R g=>?_⟩;cases(show z=y from n);intro pins H2 s' e C' I g2 hC' Fe;cases hC.symm.trans hC';unfold Fr0 at g;rw[ho,Jw]at g;exact j5v I Fe (hE H2 ((g.trans ju).trans g2))
end
def DX(X:Cx)(ρ:Rho)(e:aj)(x:ah):Prop:=∀σ H Q,Rep X.K ρ σ H->Ld X σ H x->Qm X e σ H Q
def DXA(X:Cx)(ρ:Rho)(es:List aj)(x:ah):Prop:=∀σ H Q,Rep X.K ρ σ H->Ld X σ H x->Dq X es σ H Q
structure CalX(X:Cx)(x:ah)(sp:Sp):Prop where
 ex:∃(k:Nat)(f:aa)(fd:aL)(ps:List ah),FnOk X.prog X.w X.K X.mg X.base (CX1 X.prog X.w) k f fd ps sp/\Room k X.A/\X.mg x=a3 (.ref f)/\W.keepIn X.K (.ref f)=a5/\Binds X.K fd ps []
section
variable{X:Cx}{ρ:Rho}{e:aj}{es:List aj}{f x:ah}{ds:List D}{p pos:aK}{C:a9}
theorem DX.call {S:List D->ah->Prop} (c:CalX X f (spX X.K X.mg S)) (ha:DTA X ρ (e::es) ds) (hS:S ds x) (hC:X.mg x=a3 C) (hg:Gl X f) (hdb:(f==k8h)=a4)
  (he:a8 (e::es) X.env=(a4,ay e X.env)::a8 es X.env) (hpl:(aM pos (a8 es X.env)).any (·.1)=a4):DX X ρ (.Call (.Name f p) (e::es) [] pos) x:=λσ H Q R k pins s I=>by
 obtain⟨n,fa,fd,ps,F,hr,hm,hk,hb⟩:=c.ex;refine aH (Yd I hg hm ?_ hdb);refine W.callWith_K (h₀:=X.base) I.ok.mod.kin hk (thn (ha σ H (λvs H1=>j0 H H1/\j4 X.K H1 ds vs) R (λvs H1 g e=>⟨g,e⟩) pos pins s I) λus s1 ⟨vs,H1,I1,r,g,en⟩=>⟨I1.kIn,?_⟩) he hpl;have sp:spX X.K X.mg S vs H1 (λ_ _=>False) (λC' _ H'=>C'=C/\j0 H1 H'):=⟨ds,x,C,R.tb.mono g,en,hS,hC,λH' g=>⟨rfl,g⟩⟩
 have hl:us.length=ps.length:=by rw[<-r.length];exact F.len _ _ _ _ sp
 have hb':=hb s1 us I1.kIn (by rw[Xv];exact hl);rw[Xv]at hb';refine dZ (bf (F.run X.A X.stack s1 H1 ⟨us,[]⟩ us vs _ _ hr I1.env0 hb' r sp) λr s' hq=>?_);cases r with
 |error ev =>obtain⟨e,C',H',rfl,os,bare,un,hok,fl,rfl,g'⟩:=hq;have I':Inv X pins σ H' s':=I1.call' os un hok bare (λb z=>nomatch z);refine k pins H' s' e C' I' (g.trans g') hC ⟨λb hb=>fl.new b (I1.old hb),fl.free,?_⟩;obtain⟨oe,ws,a0,q1,q2,q3,q4,q5⟩:=fl.obj;refine⟨oe,ws,a0,q1,q2,q3,q4,q5.imp id ?_⟩;rintro⟨T,oT,ts,z1,z2,z3,z4,z5,z6,z7⟩;exact⟨T,oT,ts,z1,z2,z3,z4,z5,z6,λb hb=>z7 b (I1.old hb)⟩
 |ok fl =>
  cases fl with
  |ret u=>obtain⟨_,_,_,_,_,_,_,z⟩:=hq;exact z.elim
  |next=>exact aT hq
  |brk=>exact aT hq
  |cont=>exact aT hq
end
section
variable{X:Cx}{ρ:Rho}{e:aj}{es:List aj}{x:ah}{d:D}{p pos np cpos:aK}{P:Po}{i:Int}{y:ah}{ys:List ah}
noncomputable def jat(out:ah):List ah->ah
 |[]=>out
 |y::ys=>jat (out++y) ys
def DPs(X:Cx)(ρ:Rho):List aj->List ah->Prop
 |[],[]=>True
 |e::es,y::ys=>DE X ρ e (.str y)/\DPs X ρ es ys
 |_,_=>False
end
structure FlT(N:aa->Prop)(H:Hp)(h:aD)(e:aa)(C fl:a9):Prop where
 new:∀b,N b->b≠e
 free:H e=a6
 obj:∃(oe:d8)(vs:Array a9)(a0:a9)(T:aa)(oT:d8)(ts:Array a9),h.get? e=a3 oe/\oe.cls=C/\oe.data=.fields vs/\vs[0]?=a3 a0/\vs[1]?=a3 (.ref T)/\T≠e/\h.get? T=a3 oT/\oT.data=.fields ts/\ts[3]?=a3 fl /\
  H T=a6/\∀b,N b->b≠T
section
variable{X:Cx}{pins:k8f}{σ:St}{H:Hp}{s:af}{e:aa}{C fl:a9}{M:ky}{A:aC}{E:k8e}
end
end L2
end
section
namespace PySem.W
open PySem PySem.Spec PySem.Calls PyProof.Rows Builtin Builtin.ObjectAttr Builtin.Getset_descriptor
section
variable{prog:au}{w:az}{A:aC}{E:k8e}{h:aD}{g:Array f6}{d:Drawn}{t:Nat}{os:OsState}{K:lO}{e C:aa}
end
end PySem.W
end
section
namespace L2
open PySem PySem.Spec PyProof.Rows
noncomputable def Jv:List ah:=["WrongSize","NoAsk","NoWord","Twice","WrongAnswers","Unlike","NoPlace","NoText","WrongPrices","WrongWeights","NoPlan"]
noncomputable def bmV:List a9:=[.type "ValueError",.type "Exception",.type "BaseException",.type "object"]
noncomputable def jkj(K:k8d)(C:aa):Bool:=W.findIn K (.ref C) "__getattribute__" == a3 (a3 (.builtin "BaseException.__getattribute__"))&&(W.findIn K (.ref C) "__getattr__" == a3 a6&&(W.subIn K (.ref C) (.type "BaseException")==a3 a5 &&
 (W.findIn K (.ref C) "__class__" == a3 (a3 (.builtin "object.__class__"))&&(W.mroIn K C (.type "object")==a3 a5&&((W.clsIn K C).isSome&&W.excIn K C bmV "ValueError.__new__")))))
noncomputable def Ip(K:k8d):Bool:=Jv.all λx=>match W.nsIn K aq x with
 |some (a3 (.ref C))=>jkj K C&&(W.kitOne K (.ref C) (.type "ValueError")==a3 a5&&((match W.nsIn K aq "AskError" with
   |some (a3 a)=>W.exmOne K (.ref C) a==a3 a5
   |_=>a4)&&Jv.all λc=>match W.nsIn K aq c with
   |some (a3 v)=>W.kitOne K (.ref C) v==a3 (x==c)
   |_=>a5))
 |some (a3 _)=>a4
 |_=>a5
structure XcOk(K:k8d)(C:aa):Prop where
 ga:W.findIn K (.ref C) "__getattribute__" = a3 (a3 (.builtin "BaseException.__getattribute__"))
 gt:W.findIn K (.ref C) "__getattr__" = a3 a6
 sub:W.subIn K (.ref C) (.type "BaseException")=a3 a5
 cls:W.findIn K (.ref C) "__class__" = a3 (a3 (.builtin "object.__class__"))
 mro:W.mroIn K C (.type "object")=a3 a5
 is:(W.clsIn K C).isSome=a5
 exc:W.excIn K C bmV "ValueError.__new__" = a5
structure ExOne(K:k8d)(x:ah)(C:aa):Prop where
 ok:XcOk K C
 val:W.kitOne K (.ref C) (.type "ValueError")=a3 a5
 ask:∃a,W.nsIn K aq "AskError" = a3 (a3 a)/\W.exmOne K (.ref C) a=a3 a5
 one:∀c∈Jv,∀v,W.nsIn K aq c=a3 (a3 v)->W.kitOne K (.ref C) v=a3 (x==c)
section
variable{X:Cx}{pins pins':k8f}{σ:St}{H:Hp}{s:af}{xe:k8e}{e:aa}
noncomputable abbrev Cx.hnd(X:Cx)(e:aa):Cx:={ X with A:=X.A.mark (a3 (.ref e)),calm:=a4,xe:=λ_ _=>False }
end
section
variable{X:Cx}{ρ:Rho}{i:Nat}{a:aa}{o:d8}{x y c c1 c2:ah}{p p1 p2 p3 p4 p5 pos:aK}{k:Bool}
end
structure KindsP(P:au)(w:az)(K:k8d)(mg:k8g)(base:aD)(f x:ah)(l:List D):Prop where
 ex:∃fa:aa,mg f=a3 (.ref fa)/\W.keepIn K (.ref fa)=a5/\∀(A:aC)(outer:List dB)(s:af)(H:Hp)(e:aa)(o:d8),A.depth+4<eT->A.units+150<aS->Env0 P w K mg base A outer s H->TabOk K H ->
  H e=a3 (.frz o (.own e))->W.nsIn K aq x=a3 (a3 o.cls) ->
  ck (ax P w) A (.call (.ref fa) ⟨[.ref e],[]⟩) (CR CX0 outer P w H s (λv H'=>∃a xs,v=.ref a/\j0 H H'/\H a=a6/\H' a=a3 (.lst xs)/\j4 K (del H' [a]) l xs) E0) s
 nl:zg l=a5
abbrev Kinds(X:Cx)(f x:ah)(l:List D):Prop:=KindsP X.prog X.w X.K X.mg X.base f x l
section
variable{X:Cx}{ρ:Rho}{i j:Nat}{e:aa}{o:d8}{f x n k A:ah}{l:List D}{P:Po}{body:List aQ}{p p1 p2 p3 p4 p5 pos hpos:aK}
end
section
variable{X:Cx}{ρ:Rho}{i j:Nat}{f n k:ah}{P:Po}{body:List aQ}{p p1 p2 p3 p4 p5 pos hpos:aK}
end
section
variable{P:au}{w:az}{K:k8d}{mg:k8g}{base:aD}{f:aa}{g x pn:ah}{st:aQ}{fd:aL}{N:List ah}{l:List D}
end
section
variable{X:Cx}
def jl3:V->Option Int->Option Int->Hp->VK->Prop:=λx lo hi H Q=>∃z,x=.str z/\z.length<=ak/\Q (.str (bJ z lo hi)) H
theorem part_of{v:a9}{o:Option Int}(h:eZ v o):∃l:Option (Int×gL),v=partValue l/\l.map (·.1)=o:=by
 cases h with
 |none=>exact⟨a6,rfl,rfl⟩
 |int i t=>exact⟨a3 (i,t),rfl,rfl⟩
theorem jep:SlR X jl3:=by intro pins s σ H x v vl vu lo hi sl Q I rx hs pl pu h;obtain⟨z,ex,hz,q⟩:=h;subst ex;obtain⟨t,ev⟩:=rx;subst ev;obtain⟨l,el,ml⟩:=part_of pl;obtain⟨u,eu,mu⟩:=part_of pu;subst el eu ml mu;obtain⟨o,h1,h2,h3⟩:=hs;refine⟨"str",_,PySem.F.slot_str_getitem.lookup,hV s z t,wpAny_getItem_str_slice (l:=l) (u:=u) (st:=a6) ⟨o,h1,h2,h3⟩ rfl ?_⟩;exact post_val_or_str ⟨Xk (Txt.slice_le z _ _) hz,λt' k=>⟨.str _,H,I.tok k,⟨_,rfl⟩,q⟩⟩
theorem j1x:∀{ts:List ah}{us:List a9},Vals (ts.map V.str) us->∃l:List (ah×gL),us=strValues l/\l.map (·.1)=ts
 |[],_,r=>by cases r;exact⟨[],rfl,rfl⟩
 |t::ts,_,r=>by
  cases r with
  |cons a b =>obtain⟨k,e⟩:=a;obtain⟨l,e1,e2⟩:=j1x b;subst e e1 e2;exact⟨(t,k)::l,rfl,rfl⟩
theorem jcg:MtR X "str.join" (λx vs H Q=>∃(sep:ah)(l:aa)(ts:List ah),x=.str sep/\vs=[.ref l]/\SqL X.K H l (ts.map V.str)/\eY sep ts=a5/\Q (.str (dX sep ts)) H):=by rintro pins s σ H x vs v us Q I rx rv ⟨sep,l,ts,e,e',sq,hok,q⟩;subst e e';obtain⟨t,ev⟩:=rx;subst ev;obtain⟨u,eu,ru⟩:=rv.one;subst eu;cases ru;obtain⟨its,ri,pl,_⟩:=I.list sq;obtain⟨ps,e1,e2⟩:=j1x ri;subst e1 e2;unfold eY at hok;rw[jB]at hok;exact bI iB (hV _ _ _) F.entry_str_join (F.args_str_join_2 _ _) (meets_str_join_list sep t l ps hok) ⟨pl.isList,post_join ps ⟨joinFit_length hok,λt' k=>⟨.str _,H,I.tok k,⟨_,rfl⟩,q⟩⟩⟩
theorem j6s (hc:X.calm=a5):Jq X (.builtin "sum") (λxs H Q=>∃(lst:Bool)(l:aa)(ns:List Int),xs=[.ref l]/\SqB X.K lst H l (ns.map V.int)/\Q (.int ns.sum) H):=by
 rintro pins s σ H xs us Q I r ⟨lst,l,ns,e,sq,q⟩;subst e;obtain⟨u,eu,ru⟩:=vals1 r;subst eu;cases ru;obtain⟨its,rv,pl,_⟩:=I.side sq;have hl:its.length=ns.length:=by rw[<-rv.length,kj]
 have val:∀i v,its.toArray[i]?=a3 v->∃t,v=bc (ns.getD i 0) t:=by
  intro i v hv;have hi:i<its.length:=by obtain⟨h,_⟩:=Array.getElem?_eq_some_iff.mp hv;simpa using h
  have hi':i<ns.length:=by omega
  obtain⟨w1,hw,rw1⟩:=rv.get (x:=.int (ns.getD i 0)) (i:=i) (by rw[X3,kh hi',km,kh hi'];rfl);have:its.toArray[i]?=a3 w1:=by simpa using hw
  rw[this]at hv;cases hv;exact rw1
 have tot:preSum (λi=>ns.getD i 0) its.toArray.size=ns.sum:=by rw[preSum_getD,t7 (by rw[X4];omega)]
 have fin:∀(o:d8)(s':af)(t':gL),Moved [s.heap.objs.size] (λa b=>b=a) { s with heap:=s.heap.push o } s'->EP X pins σ Q (.int (preSum (λi=>ns.getD i 0) its.toArray.size) t') s':=λo s' t' mv=>by obtain⟨hh,gg,dd,tt,oo⟩:=s';obtain⟨m1,m2,m3,m4,m5⟩:=mv;cases m2;cases m3;cases m4;rw[tot];refine⟨.int _,H,I.kept (t':=tt) λb o e=>m1 b o ?_ (xj _ e),⟨_,rfl⟩,q⟩;intro z;rw[xn.mp z]at e;exact ph _ (xu e)
 unfold qw at pl;cases lst with
 |true =>
  rw[if_pos rfl]at pl;have hlt:l<s.heap.objs.size:=by obtain⟨_,e,_⟩:=pl;exact xu e
  refine kx (bo pl ⟨s.heap.objs.size,[s.heap.objs.size,l],[s.heap.objs.size],_,its.toArray.size,_,_,λi=>ns.getD i 0,rfl,(Walks.list (A:=X.A.in1) (I.ok.hd hc) _ _ (Xa hlt) its.toArray).toS,⟨⟨_,X5 _ rfl,rfl,rfl⟩,pl.push _⟩,?_,val,λs' t' mv=>fin _ s' t' mv⟩);intro b hb;show b<(s.heap.push _).objs.size;rw[Tz];rcases xq.mp hb with z|z
  .rw[z];exact cF _
  .rw[xn.mp z];exact S7 hlt
 |false =>
  rw[if_neg xf]at pl;have hlt:l<s.heap.objs.size:=by obtain⟨_,e,_⟩:=pl;exact xu e
  refine kx (fE pl ⟨s.heap.objs.size,[s.heap.objs.size,l],[s.heap.objs.size],_,its.toArray.size,_,_,λi=>ns.getD i 0,rfl,(Walks.tuple (A:=X.A.in1) (I.ok.hd hc) _ _ (Xa hlt) its.toArray).toS,⟨⟨_,X5 _ rfl,rfl,rfl⟩,pl.push _⟩,?_,val,λs' t' mv=>fin _ s' t' mv⟩);intro b hb;show b<(s.heap.push _).objs.size;rw[Tz];rcases xq.mp hb with z|z
  .rw[z];exact cF _
  .rw[xn.mp z];exact S7 hlt
end
section
variable{X:Cx}{ρ:Rho}{a b e:aj}{ds:List D}{i j:Int}{pos p p1 p2:aK}{y z:ah}{lo hi:Option aj}{l u:Option Int}
theorem M3{K:k8d}{H:Hp}:∀{ts:List ah}{xs:List V},j4 K H (ts.map D.str) xs->xs=ts.map V.str
 |[],_,h=>h
 |t::ts,_,⟨x,r,e,h,l⟩=>by subst e;cases(show x=.str t from h);rw[M3 l];rfl
theorem zx{K:k8d}{H:Hp}:∀{ts:List Int}{xs:List V},j4 K H (ts.map D.int) xs->xs=ts.map V.int
 |[],_,h=>h
 |t::ts,_,⟨x,r,e,h,l⟩=>by subst e;cases(show x=.int t from h);rw[zx l];rfl
theorem DE.lenS (ha:DT X ρ a (.str y)) (hy:y.length<=ak) (hm:X.mg "len" = a6) (hg:Gl X "len") (hs:a8 [a] X.env=[(a4,ay a X.env)]):DE X ρ (.Call (.Name "len" p) [a] [] pos) (.int y.length):=λσ H Q R q =>(vq j11 hg hm dS (jd peS jz hs) (by decide) (by decide) hs).to (ha σ H _ R λv H1 g1 e1=>⟨y,by rw[show v=.str y from e1],hy,q _ H1 g1 rfl⟩)
theorem DE.catS(ha:DT X ρ a (.str y))(hb:DT X ρ b (.str z))(hl:y.length+z.length<=ak):DE X ρ (.BinOp a .Add b pos) (.str (y++z)):=λσ H Q R q =>(U7 j3g peS peS).to (ha σ H _ R λv H1 g1 e1=>hb σ H1 _ (R.grow g1) λu H2 g2 e2=>⟨y,z,e1,e2,hl,q _ H2 (g1.trans g2) rfl⟩)
theorem DE.ixC{c:Nat}(ha:DT X ρ a (.str y))(hb:DT X ρ b (.int i))(hy:y.length<=ak)(h:L2.atI y.cps.toList i=a3 c)(hs:Zw b):DE X ρ (.Subscript a b pos) (.str ⟨#[c]⟩):=λσ H Q R q =>(Ms jgd peS peS hs).to (ha σ H _ R λv H1 g1 e1=>hb σ H1 _ (R.grow g1) λu H2 g2 e2=>⟨y,i,c,e1,e2,hy,h,q _ H2 (g1.trans g2) rfl⟩)
theorem DE.sliceS(ha:DT X ρ a (.str y))(hl:DP X ρ lo l)(hu:DP X ρ hi u)(hy:y.length<=ak):DE X ρ (.Subscript a (.Slice lo hi a6 p2) pos) (.str (bJ y l u)):=λσ H Q R q =>(Be jep peS poS poS).to (ha σ H _ R λv H1 g1 e1=>hl σ H1 _ (R.grow g1) λH2 g2=>hu σ H2 _ (R.grow (g1.trans g2)) λH3 g3=>⟨y,e1,hy,q _ H3 (g1.trans (g2.trans g3)) rfl⟩)
theorem DE.int1 {k:Bool} (ha:DT X ρ a (.bl k)) (hm:X.mg "int" = a6) (hg:Gl X "int") (hs:a8 [a] X.env=[(a4,ay a X.env)]):DE X ρ (.Call (.Name "int" p) [a] [] pos) (.int (if k then 1 else 0)):=λσ H Q R q =>(Rp j70 hg hm boot_int (jd peS jz hs) (by decide) (by decide) hs).to (ha σ H _ R λv H1 g1 e1=>.inr ⟨k,by rw[show v=.bl k from e1],q _ H1 g1 rfl⟩)
theorem DE.sum (lst:Bool) {ns:List Int} (ha:DT X ρ a (D.seq lst (ns.map D.int))) (hm:X.mg "sum" = a6) (hc:X.calm=a5) (hg:Gl X "sum") (hs:a8 [a] X.env=[(a4,ay a X.env)]):DE X ρ (.Call (.Name "sum" p) [a] [] pos) (.int ns.sum):=λσ H Q R q =>
 (vq (j6s hc) hg hm boot_sum (jd peS jz hs) (by decide) (by decide) hs).to (ha σ H _ R λv H1 g1 e1=>by
  obtain⟨t,xs,ev,sq,en⟩:=Vh e1
  subst ev
  rw[zx en]at sq
  exact⟨lst,t,ns,rfl,sq,q _ H1 g1 rfl⟩)
theorem DE.join{sep:ah}{ts:List ah}{n:Nat}{p0:aK}(ha:DT X ρ a (.lst (ts.map D.str)))(hok:eY sep ts=a5)
  (hfew:((aM p2 (a8 [a] X.env)).all (λx=>!x.1)&&(b0 p2 (aJ [] X.env)).all (λx=>x.1.isSome)&&decide (([a]:List aj).length+([]:List ba).length+(if ([]:List ba).isEmpty then 0 else 1)<30))=a5)
  (hbase:aP (.Constant (.str sep) n p0) "join" X.env (ay (.Constant (.str sep) n p0) X.env)=ay (.Constant (.str sep) n p0) X.env)
  (hline:(p1.endLine==p2.line)=a5) (hs:a8 [a] X.env=(a4,ay a X.env)::a8 [] X.env):DE X ρ (.Call (.Attribute (.Constant (.str sep) n p0) "join" p1) [a] [] p2) (.str (dX sep ts)):=λσ H Q R q =>
 (Fb PySem.F.plainAttrs_str iB PySem.F.type_str_join jcg j5a (jd peS jz hs) hbase hfew hline hs rfl).to ⟨rfl,ha σ H _ R λv H1 g1 ⟨t,xs,e,sq,en⟩=>⟨sep,t,ts,rfl,by rw[e],by rw[M3 en]at sq;exact sq,hok,q _ H1 g1 rfl⟩⟩
end
section
variable{prog:au}{w:az}{A:aC}{lst:Bool}{j t:aa}{its:Array a9}
theorem j3u(hh:A.handled=a6)(hne:t≠j):Draws prog w A j [j,t] its.size (λi v=>its[i]?=a3 v) (λi h=>zb lst h j t i/\qw lst h t its) where
 live:=λ_ _ st=>by obtain⟨o,e,_⟩:=st.1.obj;exact⟨o,e⟩
 frame:=λ_ h h' st hk=>⟨st.1.stay λo e=>hk j (by simp) o e,by
  have q:=st.2
  unfold qw at q ⊢
  cases lst with
  |true=>rw[if_pos rfl]at q ⊢;exact q.at λo e=>hk t (by simp) o e
  |false=>rw[if_neg xf]at q ⊢;exact q.at λo e=>hk t (by simp) o e⟩
 item:=λi s Q E hi st hQ=>j4q st.1 st.2 (y:=its[i]) (by simp[hi]) λh' hit' hs'=>hQ _ h' s.toks (by simp[hi]) ⟨hit',st.2.ext hs'.extBut hne⟩ hs'
 done:=λs Q E st hE=>Eo hh st.1 st.2 (by simp) hE
theorem j69{n:Nat}(hh:A.handled=a6)(hne:t≠j)(hn:its[n]?=a6):Draws prog w A j [j,t] n (λi v=>its[i]?=a3 v) (λi h=>i=n/\zb lst h j t i/\qw lst h t its) where
 live:=λ_ _ st=>by obtain⟨o,e,_⟩:=st.2.1.obj;exact⟨o,e⟩
 frame:=λ_ h h' st hk=>⟨st.1,st.2.1.stay λo e=>hk j (by simp) o e,by
  have q:=st.2.2
  unfold qw at q ⊢
  cases lst with
  |true=>rw[if_pos rfl]at q ⊢;exact q.at λo e=>hk t (by simp) o e
  |false=>rw[if_neg xf]at q ⊢;exact q.at λo e=>hk t (by simp) o e⟩
 item:=λi s Q E hi st hQ=>absurd st.1 (Xa hi)
 done:=λs Q E st hE=>Eo hh st.2.1 st.2.2 hn hE
end
noncomputable abbrev eh2(h:aD)(lst:Bool)(t:aa):aD:=(zh1 h lst t).push { cls:=.type "enumerate",data:=.fields #[.none,.bool a4,.ref h.objs.size,dE 0,.none,.none] }
theorem j9d {lst:Bool} (t:aa) (its:Array a9):kz (dC.«enumerate.__new__» ⟨[.type "enumerate",.ref t],[]⟩) (λ_ R s=>qw lst s.heap t its/\R (.ok (.ret (.ref (zh1 s.heap lst t).objs.size))) { s with heap:=eh2 s.heap lst t }) :=
 .of_wp λprog w A R s h=>by
  obtain⟨hp,g,d,tk,os⟩:=s;obtain⟨h1,h⟩:=h;have hsub:=sub_enumerate;have e1:qw lst (Shared.heap ⟨hp,g,d,tk,os⟩) t its:=h1;have ld:∃o:d8,hp.get? t=a3 o:=by
   unfold qw at e1;cases lst with
   |true=>rw[if_pos rfl]at e1;obtain⟨o,e,_⟩:=e1;exact⟨o,e⟩
   |false=>rw[if_neg xf]at e1;obtain⟨o,e,_⟩:=e1;exact⟨o,e⟩
  obtain⟨o,ho⟩:=ld
  wp_walk using bQ ho
  refine wpAny_stack_any λstk=>?_;refine ai ?_;split
  .rename_i cl _ _ _ _ _;cases(cl==bL "enumerate")
   .wp_walk using bQ ho,Rr e1
    exact⟨_,rfl,h⟩
   .wp_walk using bQ ho,Rr e1
    exact⟨_,rfl,h⟩
  .wp_walk using bQ ho,Rr e1
   exact⟨_,rfl,h⟩
noncomputable def Ite(K:k8d)(lst:Bool)(t:aa):It :=
 ⟨λi H=>∃xs x,SqB K lst H t xs/\xs[i]?=a3 x,
 λi H v H'=>∃p x,v=.ref p/\H p=a6/\H'=upd H p (.tup [.int (i:Int),x])/\∀xs,SqB K lst H t xs->xs[i]?=a3 x,
 λi H=>∃xs,SqB K lst H t xs/\xs.length<=i⟩
theorem j4h{P:au}{w:az}{K:k8d}{es:List aj}{n:Nat}{pos:aK}{lst:Bool}{z j t:aa}(hzj:z≠j)(hzt:z≠t)(htj:t≠j) :
  Turn P w K (.Tuple es n pos) (Ite K lst t) [z,j] z (λi h=>(∃old,IsEnum h z j (i:Nat) old)/\zb lst h j t i) where
 mem:=by simp
 obj:=λi h ⟨⟨old,hz⟩,h1⟩ c hc=>by
  simp at hc;rcases hc with rfl|rfl
  .exact⟨_,hz,λv e=>by cases e⟩
  .exact h1.obj
 keep:=λi h h' ⟨⟨old,hz⟩,h1⟩ k=>⟨⟨old,k z (by simp) _ hz⟩,h1.stay λo e=>k j (by simp) o e⟩
 item:=by
  rintro X hP hw hK hc i pins s σ H E I hf ⟨⟨old,hz⟩,h1⟩ ⟨xs,x,sx,hx⟩;subst hP hw hK;obtain⟨us,ru,qu,_⟩:=I.side sx;obtain⟨u,hu,rx⟩:=ru.get hx;have hlt:i<us.toArray.size:=by obtain⟨h,_⟩:=X7.mp hu;simpa using h
  refine wpAny_pyNext_enum_itemD (j3u (A:=X.A.in1) (I.ok.hd hc) htj) hz ⟨h1,qu⟩ hlt hzj (by simp[hzj,hzt]) λv h' tk hv ho st ht sz kp=>⟨_,rfl,?_⟩
  have ev:u=v:=by
   have:us.toArray[i]?=a3 u:=by simpa using hu
   rw[this]at hv;exact av hv
  subst ev;refine wpAny_letOwnedTupleGo_enum (s:={ s with heap:=h',toks:=tk+1 }) ho λh'' z'' sb=>?_
  replace sb:cg z h' h'':=sb
  have zlt:z<s.heap.objs.size:=xu hz;have kp':∀c o,c∉[z,j]->s.heap.get? c=a3 o->h''.get? c=a3 o:=λc o nc e=>by simp at nc;exact sb.extBut _ _ nc.1 (kp c o nc.1 nc.2 e)
  have pt:i4 h'' s.heap.objs.size [.int i tk,u].toArray:=⟨_,sb.extBut _ _ (T5 zlt) ht,rfl,_,rfl⟩
  have I2:=(I.chgT hf kp' (xs:=[.int (i:Int),x]) (.cons ⟨tk,rfl⟩ (.cons rx .nil)) (by show 2<=ak;decide) pt (V8.of (sb.extBut _ _ (T5 zlt) ht))).tok (tk+1);refine⟨.ref s.heap.objs.size,_,I2,rfl,⟨_,x,rfl,I.fresh,rfl,λws hw=>by rw[I.side_inj hw sx];exact hx⟩,⟨⟨u,?_⟩,st.1.ext sb.extBut (c7 hzj)⟩,λc hc=>?_⟩
  .have e:((i+1:Nat):Int)=(i:Int)+1:=by push_cast;rfl
   rw[e];exact z''
  .obtain⟨o,e⟩:∃o,s.heap.get? c=a3 o:=by
    simp at hc;rcases hc with rfl|rfl
    .exact⟨_,hz⟩
    .obtain⟨o,e,_⟩:=h1.obj;exact⟨o,e⟩
   rw[jg (Xa (xu e))];exact(hf c hc).1
 done:=by
  rintro X hP hw hK hc i pins s σ H E I hf ⟨⟨old,hz⟩,h1⟩ ⟨xs,sx,hend⟩;subst hP hw hK;obtain⟨us,ru,qu,_⟩:=I.side sx;have e1:=ru.length;have hn:us.toArray[i]?=a6:=by simp;omega
  refine wpAny_pyNext_enum_endD (j69 (A:=X.A.in1) (I.ok.hd hc) htj hn) hz ⟨rfl,h1,qu⟩ λh' kp=>⟨rfl,I.chg hf λc o nc e=>?_⟩
  simp at nc;exact kp c o nc.2 e
 self:=λ_ _ _ _ _ ⟨⟨old,hz⟩,_⟩ h=>kr hz h
section
variable{X:Cx}{ρ:Rho}{a b:aj}{es:List aj}{n:Nat}{pos p q1 q2:aK}{ds ds':List D}{lst:Bool}
noncomputable def Jh(ds:List D):List D:=ds.zipIdx.map λp=>D.tup [.int (p.2:Int),p.1]
theorem K7{i:Nat}:(Jh ds)[i]?=(ds[i]?).map λd=>D.tup [.int (i:Int),d]:=by unfold Jh;rw[X3,ij];cases ds[i]?<;>simp
theorem j60{K:k8d}{F:Hp}{t:aa}{xs:List V}(s1:SqB K lst F t xs)(e1:j4 K F ds xs):Yy K F (Ite K lst t) (Jh ds):=λi H A g hA=>by
 have s1':SqB K lst H t xs:=ju.seqB (g.seqB s1);have hl:(Jh ds).length=ds.length:=by unfold Jh;rw[kj,cV]
 refine⟨λh=>?_,λh=>⟨xs,s1',?_⟩,λv H' ⟨p,x,ev,np,eH,hx⟩=>?_⟩
 .rw[hl]at h;obtain⟨x,hx,_⟩:=e1.get (kh h);exact⟨xs,x,s1',hx⟩
 .rw[hl]at h;rw[e1.length];exact h
 .subst eH;refine⟨j7 np,λd hd=>?_⟩;rw[K7]at hd;cases z:ds[i]? with
  |none=>rw[z]at hd;cases hd
  |some d1 =>rw[z]at hd;cases hd;obtain⟨x',hx',ex⟩:=e1.get z;have q1:=hx xs s1';rw[hx']at q1;have q1:=av q1;subst q1;have pA:p∉A:=λz=>hA p z np;have gg:j0 F (del (upd H p (.tup [.int (i:Int),x'])) A):=g.trans (je (j7 np));exact⟨p,[.int (i:Int),x'],ev,.inl (.inl (by rw[j5 pA];exact j9)),.int (i:Int),[x'],rfl,rfl,x',[],rfl,ex.mono gg,rfl⟩
theorem DI.enum (lst:Bool) (ha:DE X ρ a (D.seq lst ds)) (hm:X.mg "enumerate" = a6) (hg:Gl X "enumerate") (hs:a8 [a] X.env=[(a4,ay a X.env)]):DI X ρ (.Tuple es n q1) (.Call (.Name "enumerate" p) [a] [] pos) (Jh ds):=λσ H R r q pins s I=>by
 have args:Dq X [a] σ H (λvs H'=>∃v,vs=[v]/\j0 H H'/\Enc X.K (del H' (owns ρ)) (D.seq lst ds) v) :=
  (jd peS jz hs).to (ha σ H _ r λv H1 g1 e1=>⟨v,rfl,g1,e1⟩)
 refine Call_ (Qs I hg hm boot_enumerate (callWith_type1 (thn (args pos pins s I) λus s1 h1=>?_) hs rfl));obtain⟨vs,H1,I1,r1,v,ev,g1,e1⟩:=h1;subst ev;obtain⟨t,xs,et,sq,en⟩:=Vh e1;subst et;obtain⟨u1,eu,ru1⟩:=r1.one;subst eu;cases ru1;obtain⟨w1,rw1,qw1,_⟩:=I1.side (ju.seqB sq);refine callType_new F.called_enumerate (by decide) (F.typeCall_enumerate_1 _) (F.newCall_enumerate_1 _) (λobj=>iR obj _) F.entry_enumerate_new (j9d (lst:=lst) t w1.toArray) ⟨qw1,?_⟩;have z1:(zh1 s1.heap lst t).objs.size=s1.heap.objs.size+1:=Tz ..;have b2:(eh2 s1.heap lst t).get? (zh1 s1.heap lst t).objs.size=a3 _:=X5 _ rfl;have b1:(eh2 s1.heap lst t).get? s1.heap.objs.size=a3 _:=xj _ (X5 _ rfl);have kp:∀c o,s1.heap.get? c=a3 o->(eh2 s1.heap lst t).get? c=a3 o:=λc o e=>xj _ (xj _ e);show _/\_;rw[z1]at b2 ⊢;have I2:Inv X pins σ H1 { s1 with heap:=eh2 s1.heap lst t }:=I1.kept (t':=s1.toks) kp;have lt1:t<s1.heap.objs.size:=by
  unfold qw at qw1;cases lst with
  |true=>rw[if_pos rfl]at qw1;obtain⟨_,e,_⟩:=qw1;exact xu e
  |false=>rw[if_neg xf]at qw1;obtain⟨_,e,_⟩:=qw1;exact xu e
 have side:zb lst (eh2 s1.heap lst t) s1.heap.objs.size t 0:=by
  unfold zb;cases lst with
  |true=>rw[if_pos rfl];exact⟨_,b1,rfl,rfl⟩
  |false=>rw[if_neg xf];exact⟨_,b1,rfl,rfl⟩
 refine⟨⟨_,b2,rfl⟩,kr (s:={ s1 with heap:=eh2 s1.heap lst t }) b2 ?_⟩;refine⟨_,_,_,Ite X.K lst t,H1,rfl,I2,j4h (j:=s1.heap.objs.size) (Nat.succ_ne_self _) (T5 (S7 lt1)) (Xa lt1),⟨⟨_,b2⟩,side⟩,λc hc=>?_,q _ H1 g1 (j60 sq en)⟩;have hc':c=s1.heap.objs.size+1\/c=s1.heap.objs.size:=by simpa using hc
 have hge:s1.heap.objs.size<=c:=by rcases hc' with e|e<;>rw[e]<;>first|exact xx _|exact Nat.le_add_right _ _
 obtain⟨f0,f1,f2,f3,f4,f5⟩:=I1.fpOk hge (I1.hok.fresh hge);exact⟨f0,f1,f2,f3,f4,f5⟩
end
section
variable{X:Cx}
theorem j86:OpR X (aZ .FloorDiv) (rI (λ_ j=>0<j/\j<18446744073709551616) λi j=>.int (i/j)):=opI λi j _ _ _ _ _ hc q=>by
 have e:i/j=i.fdiv j:=by rw[gn _ nofun]
 refine floordiv_int nofun (by rw[<-e];exact q) (.inl (PyProof.noPylong_of_log2 ?_))
 have h2:(2:Nat)^64=18446744073709551616:=by decide
 have:=(Nat.log2_lt (n:=j.natAbs) (k:=64) nofun).mpr (by rw[h2];omega);omega
theorem j5p (hu:X.A.units+100<aS):MtR X "list.count" (λx vs H Q=>∃t xs ds d y,x=.ref t/\vs=[y]/\SqL X.K H t xs/\j4 X.K H ds xs/\Enc X.K H d y/\D.depL ds<=97/\d.dep<10000/\Q (.int (ds.countP λe=>deq e d)) H):=by
 rintro pins s σ H x vs v us Q I rx rv ⟨t,xs,ds,d,y,e,e',sq,l,en,hd,nd,q⟩;subst e e';cases rx;obtain⟨u,eu,ru⟩:=rv.one;subst eu;obtain⟨its,ri,⟨⟨cl,dd,da,sl⟩,n,h1,h2,h4,h3⟩,_⟩:=I.list sq;have h2:cl=.type "list":=h2;have h3:da=.seq its.toArray n:=h3;subst h2 h3;refine bI ib ⟨_,h1,rfl⟩ F.entry_list_count (F.args_list_count_2 _ _) (SeqAt.list_countAt t its.toArray n dd sl u (eqW X H d)) ⟨h1,λy hy=>W0 (n:=97) I en ru nd (by show X.A.units+1+97<aS;omega) hd l ri y (by simpa using hy),?_⟩;have ev:(its.toArray.toList.countP (eqW X H d):Nat)=ds.countP λe=>deq e d:=by rw[eG];exact Wo I nofun l ri
 rw[ev];exact⟨.int _,H,I.tok _,⟨_,rfl⟩,q⟩
end
section
variable{X:Cx}{ρ:Rho}{a b e:aj}{d d':D}{ds:List D}{i j:Int}{pos p p1 p2:aK}{P:Po}
theorem DE.fdivB(ha:DT X ρ a (.int i))(hb:DT X ρ b (.int j))(h:0<j/\j<18446744073709551616):DE X ρ (.BinOp a .FloorDiv b pos) (.int (i/j)):=DE.arI (g:=λi j=>i/j) j86 ha hb h
theorem DE.countL (hu:X.A.units+100<aS) (ha:DT X ρ a (.lst ds)) (hb:DT X ρ b d) (hd:D.depL ds<=97) (nd:d.dep<10000) (hbase:aP a "count" X.env (ay a X.env)=ay a X.env)
  (hfew:((aM p2 (a8 [b] X.env)).all (λx=>!x.1)&&(b0 p2 (aJ [] X.env)).all (λx=>x.1.isSome)
   && decide (([b]:List aj).length+([]:List ba).length+(if ([]:List ba).isEmpty then 0 else 1)<30))=a5) (hline:(p1.endLine==p2.line)=a5)
  (hs:a8 [b] X.env=(a4,ay b X.env)::a8 [] X.env):DE X ρ (.Call (.Attribute a "count" p1) [b] [] p2) (.int (ds.countP λe=>deq e d)):=λσ H Q R q =>
 (Fb bV ib PySem.F.type_list_count (j5p hu) peS (jd peS jz hs) hbase hfew hline hs rfl).to (ha σ H _ R λv H1 g1 ⟨t,xs,e,sq,l⟩=>⟨by rw[e];exact .inl ⟨rfl,xs,sq⟩,hb σ H1 _ (R.grow g1) λu H2 g2 e2 =>
  ⟨t,xs,ds,d,u,e,rfl,g2.seq sq,l.mono g2,e2,hd,nd,q _ H2 (g1.trans g2) rfl⟩⟩)
end
noncomputable def ddS(acc:List ah)(v:ah):List ah:=if acc.any (· == v)=a5 then acc else acc++[v]
noncomputable def dd(ts:List ah):List ah:=ts.foldl ddS []
theorem jdo(ts:List ah)(v:ah):dd (ts++[v])=ddS (dd ts) v:=by simp[dd]
theorem Fx:∀(ts acc:List ah),(ts.foldl ddS acc).length<=acc.length+ts.length
 |[],acc=>by simp
 |v::ts,acc=>by
  have h:=Fx ts (ddS acc v);have h2:(ddS acc v).length<=acc.length+1:=by unfold ddS;split<;>simp
  rw[Th,X8];omega
def Zd(P:au)(w:az)(h:aD)(S:aa)(ts:List ah):Prop:=h.SetOf (d7 P w) S (λk=>(dd ts).any (· == k)) (dd ts).length
section
variable{P:au}{w:az}{A:aC}{I S:aa}{fp wr:List aa}{Gn:Array f6->Array f6->Prop}{Pv:Nat->a9->Prop}{St:Nat->af->Prop}{ts:List ah}
theorem Zd.stay{h h':aD}(x:Zd P w h S ts)(k:∀o,h.get? S=a3 o->h'.get? S=a3 o):Zd P w h' S ts:=by obtain⟨o,es,ep,t,ho,r⟩:=x;exact⟨o,es,ep,t,k o ho,r⟩
theorem Zd.more{h:aD}{v:ah}(x:h.SetOf (d7 P w) S (λk=>(dd ts).any (· == k) || decide (k=v)) (if (dd ts).any (· == v)=a5 then(dd ts).length else(dd ts).length+1)):Zd P w h S (ts++[v]):=by
 unfold Zd;rw[jdo];have e1:(λk=>(ddS (dd ts) v).any (· == k))=λk=>(dd ts).any (· == k) || decide (k=v):=by
  funext k
  unfold ddS;by_cases h1:(dd ts).any (· == v)=a5
  .rw[if_pos h1];by_cases h2:k=v
   .subst h2;rw[h1];rfl
   .rw[decide_eq_false h2,gy]
  .rw[if_neg h1,List.any_append];congr 1;by_cases h2:k=v
   .subst h2;simp
   .have:¬v=k:=λz=>h2 z.symm;simp[h2,this]
 have e2:(ddS (dd ts) v).length=if (dd ts).any (· == v)=a5 then(dd ts).length else(dd ts).length+1:=by unfold ddS;split<;>simp
 rw[e1,e2];exact x
theorem fill{R:eX->af->Prop}(W:WalksS P w A.in1 I fp wr Gn ts.length Pv St)(out:S∉fp)(hv:∀i v,Pv i v->∃x t,ts[i]?=a3 x/\v=.str x t)(room:ts.length+1<gc):∀(r i:Nat)(q:af),i+r=ts.length->St i q->Zd P w q.heap S (ts.take i) ->
  (∀q',Moved (S::wr) Gn q q'->Zd P w q'.heap S ts->R (.ok (.ret .none)) q')->ck (ax P w) A (.builtin "set.update.loop" ⟨[.ref S,.ref I],[]⟩) R q:=by
 have outw:S∉wr:=λz=>out (W.sub S z);have wider:∀b∈wr,b∈S::wr:=λb z=>xg S z;intro r;induction r with
 |zero =>intro i q hi st fu fin;have e:i=ts.length:=hi;subst e;refine be di ?_;rw[t6 bE _];refine a7 (m:=dF (.ref I)) (W.done q _ _ st λq' mv=>?_);refine ai (fin q' (mv.mono wider) ?_);rw[cC]at fu;exact fu.stay λo z=>mv.heap S o outw z
 |succ r ih =>
  intro i q hi st fu fin;have lt:i<ts.length:=by omega
  refine be di ?_;rw[t6 bE _];refine a7 (m:=dF (.ref I)) (W.item i q _ _ lt st λv q' pv st' mv=>?_);obtain⟨x,t,hx,ev⟩:=hv i v pv;subst ev;have fu':Zd P w q'.heap S (ts.take i):=fu.stay λo z=>mv.heap S o outw z;refine a7 (m:=cj [bC x t] (setAdd S (.str x t))) (bq ?_);unfold setAdd;refine bq (a7 ((d7 P w).pyHash (k:=x) (strKind_is P w x t) ?_));have small:(dd (ts.take i)).length+1<gc:=by
   have:=Fx (ts.take i) [];have e:(dd (ts.take i)).length<=i:=by
    have:([]:List ah).length+(ts.take i).length<=i:=by rw[Xo,T7];omega
    exact Xk (Fx (ts.take i) []) this
   omega
  refine wpAny_setAddHashed_of (knd:=d7 P w) (strKind_is P w x t) rfl fu' small λh' sb full2=>?_;have next:Zd P w h' S (ts.take (i+1)):=by rw[Tq,hx];exact Zd.more full2
  refine ai ⟨cf bE _,ih (i+1) _ nofun (W.frame _ q' _ _ st' (Py _) λb hb o e=>?_) next λq2 mv2 full3=>?_⟩
  .have ne:b≠S:=λz=>out (z▸hb);rw[sb.2 b ne];exact e
  .refine fin q2 (Moved.trans W.gtrans ((mv.mono wider).then_heap (Py _) λb o hb e=>?_) mv2) full3;have ne:b≠S:=λz=>hb (by rw[z];exact xm ..);rw[sb.2 b ne];exact e
end
section
variable{P:au}{w:az}{A:aC}{E:k8e}{s:af}
noncomputable abbrev Jt(led:Bool):d8:={ cls:=.type "set",dict:=a6,data:=.set #[] 0 (.fresh 0 0 led) }
theorem j8x{led:Bool}{l:aa}{its:Array a9}{ts:List ah}{X:PySem.Fin->af->Prop}{Y:k8e}(hh:A.handled=a6)(hl:s.heap.IsList l its)(hts:∀(i:Nat)(v:a9),its[i]?=a3 v->∃x t,ts[i]?=a3 x/\v=.str x t)(hn:its.size=ts.length)(room:ts.length+1<gc)
  (q:∀h' tk,Zd P w h' s.heap.objs.size ts->(∀b o,b<s.heap.objs.size->s.heap.get? b=a3 o->h'.get? b=a3 o)->X (.done (.ret .none)) { s with heap:=h',toks:=tk }) :
  ar (ax P w) A.in1 (dC.«set.__init__» ⟨[.ref s.heap.objs.size,.ref l],[]⟩) X Y { s with heap:=s.heap.push (Jt led) }:=by
 obtain⟨⟨oc,od,oda,os⟩,e1,e2,n,e3⟩:=hl;have e2:oc=.type "list":=e2;have e3:oda=.seq its n:=e3;subst e2 e3;have here:(s.heap.push (Jt led)).get? s.heap.objs.size=a3 (Jt led):=X5 _ rfl;have lst:(s.heap.push (Jt led)).get? l=a3 { cls:=.type "list",dict:=od,data:=.seq its n,slots:=os }:=xj _ e1;have ne1:=PySem.F.sub_list_set;have ne2:=PySem.F.sub_list_frozenset;have ne3:(bL "list" == bL "dict")=a4:=by decide
 have isl:(s.heap.push (Jt led)).IsList l its:=⟨_,lst,rfl,n,rfl⟩
 unfold dC.«set.__init__» noKeywords Builtin.Frozenset.updateFrom;generalize keep:hZ=PI
 wp_walk
 subst keep;refine bo isl (a7 (lR ?_));have lt:l<s.heap.objs.size:=xu e1;have sz:(s.heap.push (Jt led)).objs.size=s.heap.objs.size+1:=Tz ..;have walk:=(Walks.list (prog:=P) (w:=w) (A:=A.in1.in1) (by simp[hh]) (s.heap.push (Jt led)).objs.size l (by rw[sz];exact Xa (S7 lt)) its).toS;rw[hn]at walk;refine fill (ts:=ts) (S:=s.heap.objs.size) walk (λz=>?_) hts room ts.length 0 { s with heap:=(s.heap.push (Jt led)).push { cls:=.type "list_iterator",data:=.fields #[.ref l,.int 0 0] } } nofun ⟨⟨_,X5 _ rfl,rfl,rfl⟩,isl.push _⟩ ?_ λq' mv full=>?_
 .rw[sz]at z;rcases xq.mp z with z|z
  .exact Xa (cF _) z
  .exact T5 lt (xn.mp z)
 .have z:Zd P w (s.heap.push (Jt led)) s.heap.objs.size []:=(setObjOf_fresh (knd:=d7 P w) led).setOf here (by unfold gc;omega);exact z.stay λo e=>xj _ e
 .obtain⟨h',g',d',tk',os'⟩:=q';obtain⟨m1,m2,m3,m4,m5⟩:=mv;cases m2;cases m3;cases m4;refine ai (ai (q h' tk' full λb o hb e=>m1 b o ?_ (xj _ (xj _ e))));intro z;rw[sz]at z;rcases xq.mp z with z|z
  .exact Xa hb z
  .exact Xa (S7 hb) (xn.mp z)
theorem j6t{l:aa}{its:Array a9}{ts:List ah}{Q:k8e}(hh:A.handled=a6)(hl:s.heap.IsList l its)(hts:∀(i:Nat)(v:a9),its[i]?=a3 v->∃x t,ts[i]?=a3 x/\v=.str x t)(hn:its.size=ts.length)(room:ts.length+1<gc)
  (q:∀h' tk,Zd P w h' s.heap.objs.size ts->(∀b o,b<s.heap.objs.size->s.heap.get? b=a3 o->h'.get? b=a3 o)->Q (.ref s.heap.objs.size) { s with heap:=h',toks:=tk }):ar (ax P w) A (call (.type "set") [.ref l]) Q E s:=by
 have cs:=PySem.F.called_set;obtain⟨c0,tl0,hm0⟩:=cs.mro;have m1:=cs.made;have m2:=cs.sub;have m3:=cs.notType;have m4:=cs.canCreate;have m5:=PySem.F.typeCall_set_1 (.ref l);refine dZ (lJ (?_:ar _ _ (callAny (.type "set") _) _ _ _));refine ai ⟨Code.quiet_builtin _ (by decide +kernel),be PySem.F.entry_type_call ?_⟩;rw[Around.under_plain (weight_type_call_type "set" [.ref l] []) rfl]
 repeat (any_goals (first|assumption|wp_step))
 refine bf (PySem.code_set_new_1 (.ref l) (E:=E) (Q₁:=λo q1=>∃led:Bool,o=.ref s.heap.objs.size/\q1={ s with heap:=s.heap.push (Jt led) }) λled=>⟨led,rfl,rfl⟩) λr q1 hr=>?_;cases r with
 |error e=>exact hr
 |ok fl =>
  cases fl with
  |ret o =>
   obtain⟨led,eo,eq1⟩:=hr;subst eo eq1;have ty:Shared.TypeIs { s with heap:=s.heap.push (Jt led) } (.ref s.heap.objs.size) "set":=⟨_,X5 _ rfl,rfl⟩
   have m6:=cs.init.lookup;have m7:=cs.init.bind (.ref s.heap.objs.size)
   repeat (any_goals (first|assumption|wp_step))
   refine bf (codeAny_call_builtin (R:=wants (λr q2=>r=.none/\∃h' tk,q2={ s with heap:=h',toks:=tk }/\Zd P w h' s.heap.objs.size ts/\∀b o,b<s.heap.objs.size->s.heap.get? b=a3 o->h'.get? b=a3 o) E) cs.init.plain PySem.F.entry_set_init (PySem.check_set_init_1 ty ?_)) λr2 q2 hr2=>?_
   .exact j8x (led:=led) (by simp[hh]) hl hts hn room λh' tk full old=>⟨rfl,h',tk,rfl,full,old⟩
   .cases r2 with
    |error e=>exact hr2
    |ok fl2 =>
     cases fl2 with
     |ret r3 =>
      obtain⟨e3,h',tk,e4,full,old⟩:=hr2;subst e3 e4
      repeat (any_goals (first|assumption|wp_step))
      exact q _ _ full old
     |_=>exact hr2.elim
  |_=>exact hr.elim
end
section
variable{X:Cx}{ρ:Rho}{a:aj}{p p1 p2 pos:aK}
theorem DE.lenSet {ts:List ah} (ha:DT X ρ a (.lst (ts.map D.str))) (hc:X.calm=a5) (room:ts.length+1<4096) (hm:X.mg "len" = a6) (hm2:X.mg "set" = a6) (hg:Gl X "len") (hg2:Gl X "set") (hs:a8 [a] X.env=[(a4,ay a X.env)])
  (hs2:a8 [.Call (.Name "set" p1) [a] [] p2] X.env=[(a4,ay (.Call (.Name "set" p1) [a] [] p2) X.env)]):DE X ρ (.Call (.Name "len" p) [.Call (.Name "set" p1) [a] [] p2] [] pos) (.int (dd ts).length):=λσ H Q R q pins s I=>by
 have inner:ar (ax X.prog X.w) X.A (ay (.Call (.Name "set" p1) [a] [] p2) X.env) (λu s2=>∃(S:aa)(H1:Hp),u=.ref S/\Inv X pins σ H1 s2/\j0 H H1/\Zd X.prog X.w s2.heap S ts) X.xe s:=by
  refine aH (Qs I hg2 hm2 boot_set ?_);refine callWith_type1 (thn ((jd (es:=[]) peS jz hs).to (σ:=σ) (H:=H) (Q:=λvs H1=>∃(l:aa)(xs:List V),vs=[.ref l]/\j0 H H1/\SqL X.K H1 l xs/\j4 X.K H1 (ts.map D.str) xs) (ha σ H _ R λv H1 g ⟨l,xs,e,sq,en⟩=>⟨l,xs,by rw[e],g,sq,en⟩) p2 pins s I) λus s1 ⟨vs,H1,I1,r,l,xs,ev,g,sq,en⟩=>?_) hs rfl;subst ev;obtain⟨u,eu,r1⟩:=vals1 r;subst eu;cases(show u=aA l from r1);obtain⟨its,rv,pl,_⟩:=I1.list sq;rw[M3 en]at rv;have hlen:its.toArray.size=ts.length:=by rw[X4,<-rv.length,kj]
  refine j6t (ts:=ts) (I1.ok.hd hc) pl.isList (λi v hv=>?_) hlen (by show ts.length+1<4096;exact room) λh' tk full old=>?_
  .have hi:i<ts.length:=by have:=(Array.getElem?_eq_some_iff.mp hv).1;omega
   obtain⟨w1,hw,t,ew⟩:=rv.get (x:=.str ts[i]) (i:=i) (by rw[X3,kh hi];rfl);have:its.toArray[i]?=a3 w1:=by simpa using hw
   rw[this]at hv;cases hv;exact⟨ts[i],t,kh hi,ew⟩
  .exact⟨_,H1,rfl,I1.kept (t':=tk) λb o e=>old b o (xu e) e,g,full⟩
 refine aH (Qs I hg hm dS ?_);refine cb (by rw[hs2];rfl) (hJ ?_);show ar _ _ (iS ((a4,ay _ X.env)::aM pos [])) _ _ s;refine eL (thn inner λu s2 h2=>eQ ?_);obtain⟨S,H1,rfl,I2,g,⟨o,es,ep,t,ho,hex,hd,hel,hmem,hb,hf,hn⟩⟩:=h2;refine call_len_set ho hex hd hf ?_ ?_
 .have:es.size<4096:=hb;omega
 .rw[hn];exact⟨.int _,H1,I2.tok _,⟨_,rfl⟩,q _ H1 g rfl⟩
end
section
variable{prog:au}{w:az}{A:aC}{E:k8e}{s:af}{d it vw:aa}{od:d8}{es:Array gj}{ep i:Nat}{ok ov:a9}
end
noncomputable def jgh(ks:List (List Int))(ds:List D):List D:=(ks.zip ds).map λp=>D.tup [.tup (p.1.map D.int),p.2]
section
variable{X:Cx}{ρ:Rho}{a b:aj}{es:List aj}{n:Nat}{pos p p1 p2 q1:aK}{ks:List (List Int)}{ds:List D}{k:List Int}
theorem j0j{P:au}{w:az}:∀{ks:List Int}{us:List a9},Vals (ks.map V.int) us->ItemsAre (fe P w) ks us
 |[],_,r=>by rw[cu]at r;cases r;exact .nil
 |k::ks,_,r=>by
  rw[xr]at r;cases r with
  |cons h t =>
   obtain⟨tk,e⟩:=(show ∃t,_=bc k t from h)
   subst e;exact .cons (by simp[fe,ko]) (j0j t)
theorem Ci{pins:k8f}{σ:St}{H:Hp}{s:af}{t:aa}(I:Inv X pins σ H s)(sq:SqT X.K H t (k.map V.int)):(fc (fe X.prog X.w)).is s.heap k t:=by obtain⟨its,rv,⟨o,e1,e2,m,e3⟩,_⟩:=I.tuple sq;exact⟨o,its.toArray,m,e1,e2,e3,by simpa using j0j rv⟩
theorem j2n{pins:k8f}{σ:St}{H:Hp}{s:af}{d:aa}{xs:List (List Int×aa×a9)}{ep:Nat}(I:Inv X pins σ H s)(hx:H d=a3 (.dI xs ep))(kt:∀x∈xs,SqT X.K H x.2.1 (x.1.map V.int)) :
  (d==eA)=a4/\xs.length<=ak/\s.heap.DictOfH (fc (fe X.prog X.w)) d xs:=by
 obtain⟨z1,z2,z3,od,en,h1,h2,h3,h4⟩:=(show jj X.prog X.w H s.heap d (.dI xs ep)from I.hok _ _ hx)
 exact⟨z2,z1,od,en,ep,h1,h2,h3,h4,λx hx=>Ci I (kt x hx),z3⟩
theorem j77{xs:List (List Int×aa×a9)}:(jN xs k).isSome=(xs.map λx=>x.1).contains k:=by
 induction xs with
 |nil=>rfl
 |cons x xs ih =>
  unfold jN at ih ⊢;rw[Option.isSome_map]at ih ⊢;rw[jS,xr,List.contains_cons];by_cases z:x.1=k
  .simp[z]
  .have z':(k==x.1)=a4:=by simp;exact λe=>z e.symm
   rw[decide_eq_false z,z',ki];exact ih
theorem any_range:∀bs:List Bool,(aw bs.length).any (λi=>(bs[i]?).getD a5)=bs.any id
 |[]=>rfl
 |b::bs=>by rw[X8,cq,eP,List.any_map,eP,<-any_range bs];rfl
theorem j1m (hc:X.calm=a5):Jq X (.builtin "any") (λxs H Q=>∃(l:aa)(bs:List Bool),xs=[.ref l]/\SqL X.K H l (bs.map V.bl)/\Q (.bl (bs.any id)) H):=by
 intro pins s σ H xs us Q I r ⟨l,bs,e,sq,q⟩;subst e;obtain⟨u,eu,ru⟩:=vals1 r;subst eu;cases ru;obtain⟨its,rv,pl,_⟩:=I.list sq;have hlt:l<s.heap.objs.size:=by obtain⟨_,_,e,_⟩:=pl;exact xu e
 have hl:its.length=bs.length:=by rw[<-rv.length,kj]
 refine call_any_walk (bo pl.isList ⟨s.heap.objs.size,[s.heap.objs.size,l],[s.heap.objs.size],its.toArray.size,_,_,λi=>(bs[i]?).getD a5,rfl,Walks.list (A:=X.A.in1) (I.ok.hd hc) _ _ (Xa hlt) its.toArray,⟨⟨_,X5 _ rfl,rfl,rfl⟩,pl.isList.push _⟩,?_,λh' tk kp=>?_⟩)
 .intro i v s' Q' E' hv hq;have hi:i<its.length:=by have:=Array.getElem?_eq_some_iff.mp hv;obtain⟨h,_⟩:=this;simpa using h
  have hb:i<bs.length:=by omega
  obtain⟨w1,hw,rw1⟩:=rv.get (x:=.bl bs[i]) (i:=i) (by rw[X3,kh hb];rfl);have:its.toArray[i]?=a3 w1:=by simpa using hw
  rw[this]at hv;cases hv;cases rw1;simp only[kh hb,dj]at hq;exact b9 hq
 .have ev:(aw its.toArray.size).any (λi=>(bs[i]?).getD a5)=bs.any id:=by rw[X4,hl];exact any_range bs
  rw[ev];refine⟨.bl _,H,I.kept (t':=tk) λb o e=>kp b o ?_ (xj _ e),rfl,q⟩;intro z;rw[xn.mp z]at e;exact ph _ (xu e)
theorem DE.any {bs:List Bool} (ha:DT X ρ a (.lst (bs.map D.bl))) (hm:X.mg "any" = a6) (hc:X.calm=a5) (hg:Gl X "any") (hs:a8 [a] X.env=[(a4,ay a X.env)]):DE X ρ (.Call (.Name "any" p) [a] [] pos) (.bl (bs.any id)):=λσ H Q R q =>(vq (j1m hc) hg hm boot_any (jd peS jz hs) (by decide) (by decide) hs).to (ha σ H _ R λv H1 g1 ⟨l,xs,e,sq,en⟩=>⟨l,bs,by rw[e],by rw[Bv en]at sq;exact sq,q _ H1 g1 rfl⟩)
end
def jip:TE:=λ_ H Q=>∀p,H p=a6->Q (.ref p) (upd H p (.dI [] 0))
def jiw(K:k8d)(td ty tv:TE):TS:=λD σ H=>tv σ H λv H1=>td σ H1 λx H2=>ty σ H2 λy H3 =>
 ∃(a b:aa)(xs:List (List Int×aa×a9)) (ep:Nat) (k:List Int),x=.ref a/\H3 a=a3 (.dI xs ep)/\(∀x∈xs,SqT K H3 x.2.1 (x.1.map V.int))/\y=.ref b/\SqT K H3 b (k.map V.int) /\
  (xs.map λx=>x.1).contains k=a4/\xs.length<ak/\∀u ep',RelV v u->D.nx σ (upd H3 a (.dI (xs++[(k,b,u)]) ep'))
section
variable{X:Cx}{pos pos':aK}{o i value:aj}{td ty tv:TE}
theorem Inv.bigD{pins:k8f}{σ:St}{H:Hp}{s:af}(I:Inv X pins σ H s):eA<s.heap.objs.size:=by have h:aq<s.heap.objs.size:=(I.mod.glob.keeps I.bk).lt;exact Pb (by decide) h
theorem j24:PE X (.Dict [] [] pos) jip:=λpins s σ H Q I h =>
 wpAny_Dict_empty ⟨.ref s.heap.objs.size,_,I.laid (a:=s.heap.objs.size) (o:=.dI [] 0) (t':=s.toks) (λ_ _ q=>xj _ q) (xx _)
  ⟨c9 _,beq_eq_false_iff_ne.mpr (c7 (Xa I.bigD)),cU,_,#[],X5 _ rfl,⟨rfl,rfl,rfl⟩,rfl,rfl⟩,rfl,h _ (I.hok.fresh (xx _))⟩
theorem j21(hu:X.A.units+100<aS)(ho:PE X o td)(hi:PE X i ty)(hv:PE X value tv)(hs:aE value (a3 (.Subscript o i pos')) pos.line X.env=pure a4) :
  PS X (.Assign [.Subscript o i pos'] value pos) (jiw X.K td ty tv):=by
 intro pins s σ H D I h;refine wpAny_Assign_Subscript (thn (hv pins s σ H _ I h) λr s1 ⟨v,H1,I1,rv,q1⟩=>thn (ho pins s1 σ H1 _ I1 q1) λu s2 ⟨x,H2,I2,rx,q2⟩=>thn (hi pins s2 σ H2 _ I2 q2) λiv s3 ⟨y,H3,I3,ry,hq⟩=>?_) hs;obtain⟨a,b,xs,ep,k,ex,hx,kt,ey,sq,nk,hl,q⟩:=hq;subst ex ey;cases rx;cases ry;obtain⟨lo,hz,dd⟩:=j2n I3 hx kt;refine wpAny_setItem_heap (hsz:=hz) (k9 nofun) (Ci I3 sq) dd λh' dd' sb=>?_;have na:jN xs k=a6:=by
  have:=j77 (xs:=xs) (k:=k);rw[nk]at this;cases z:jN xs k with
  |none=>rfl
  |some _=>rw[z]at this;cases this
 rw[storedH_new na]at dd';obtain⟨ob,es,ep',w1,w2,w3,w4,w5,w6⟩:=dd';refine⟨σ,_,I3.write (x:=a) (e:=a) (o:=.dI (xs++[(k,b,r)]) ep') (t':=s3.toks+(fc (fe X.prog X.w)).draws k) (by rw[hx];exact True.intro) (.inl rfl) (λc z nc e=>(sb.2 c nc).trans e) ⟨ob,w1⟩ ?_,q r ep' rv⟩;exact⟨by simp;omega,lo,w6,ob,es,w1,w2,w3,w4⟩
end
section
variable{X:Cx}{ρ:Rho}{it e:aj}{P:Po}{ds:List D}{x t y:Nat}{nx nt ny:ah}{n8:Nat}{p1 p2 p3 p4 p5 p6 p7 p8 p9 p10 p11 p12 p13 p14 p15 p16 p17 p18:aK}
theorem j1t{H:Hp}{a:aa}{o:HO}(h:H a=a3 o):H=upd (del H [a]) a o:=funext λb=>by
 by_cases z:b=a
 .subst z;rw[j9];exact h
 .rw[jg z,j5 (by simpa using z)]
theorem N7{H:Hp}{a:aa}{o:HO}(h:H a=a6):del (upd H a o) [a]=H:=funext λb=>by
 by_cases z:b=a
 .subst z;rw[qp (by simp)];exact h.symm
 .rw[j5 (by simpa using z),jg z]
theorem Dw{H F:Hp}{a:aa}{o:HO}(h:H a=a3 o):mrg [a] H F=upd F a o:=funext λb=>by
 by_cases z:b=a
 .subst z;rw[Jd (by simp),j9];exact h
 .rw[jm (by simpa using z),jg z]
end
noncomputable def zp:List (List Int)->List D->List Int->Option D
 |k'::ks,d::ds,k=>if k'=k then a3 d else zp ks ds k
 |_,_,_=>a6
theorem j2o{K:k8d}{H:Hp}{k:List Int}{d:D}:∀{xs:List (List Int×aa×a9)} {ds:List D} {vs:List V},Vals vs (xs.map λx=>x.2.2)->j4 K H ds vs->zp (xs.map λx=>x.1) ds k=a3 d->∃p v,jN xs k=a3 p/\RelV v p.2/\Enc K H d v
 |[],_,_,_,_,h=>by cases h
 |x::xs,[],_,_,_,h=>by cases h
 |x::xs,d'::ds,_,rv,⟨v,r,e,h1,l⟩,h=>by
  subst e;rw[xr]at rv h;unfold jN;rw[jS];cases rv with
  |cons a b =>
   rw[zp]at h;by_cases z:x.1=k
   .rw[if_pos z]at h;cases h;rw[decide_eq_true z];exact⟨x.2,v,rfl,a,h1⟩
   .rw[if_neg z]at h;rw[decide_eq_false z];exact j2o b l h
section
variable{X:Cx}{ρ:Rho}{a b:aj}{d:D}{ds:List D}{ks:List (List Int)}{k:List Int}{pos p p1 p2 p3:aK}
theorem jjh(hu:X.A.units+100<aS):IxR X (λx y H Q=>∃(d:aa)(xs:List (List Int×aa×a9)) (ep:Nat) (t:aa) (k:List Int) (q:aa×a9) (v:V),x=.ref d/\y=.ref t/\H d=a3 (.dI xs ep)/\(∀x∈xs,SqT X.K H x.2.1 (x.1.map V.int))/\SqT X.K H t (k.map V.int)/\jN xs k=a3 q/\RelV v q.2/\Q v H):=by intro value slice pins s σ H x y v u Q I rx ry h hs;obtain⟨d,xs,ep,t,k,q,w,rfl,rfl,hx,kt,sq,hq,rq,hQ⟩:=h;cases rx;cases ry;obtain⟨lo,hz,dd⟩:=j2n I hx kt;exact lW dd.typeIs slot_dict_getitem.lookup (wpAny_getItem_heap (k9 nofun) (Ci I sq) dd hq ⟨w,H,I.tok _,rq,hQ⟩) hs
theorem DE.dget(hu:X.A.units+100<aS)(ha:DE X ρ a (.dct ks ds))(hb:DT X ρ b (.tup (k.map D.int)))(h:zp ks ds k=a3 d)(hs:Zw b):DE X ρ (.Subscript a b pos) d:=λσ H Q R q =>
 (Ms (jjh hu) peS peS hs).to (ha σ H _ R λv H1 g1 ⟨c,xs,ep,vs,e,hx,ek,kt,rv,l⟩=>hb σ H1 _ (R.grow g1) λu H2 g2 ⟨t,ys,e2,sq,l2⟩=>by
  rw[zx l2]at sq
  subst ek
  obtain⟨q',v',z1,z2,z3⟩:=j2o rv (l.mono (je g2)) h
  exact⟨c,xs,ep,t,k,q',v',e,e2,g2 _ _ (of_del hx).2,λx hx=>g2.seqT (ju.seqT (kt x hx)),sq,z1,z2,q v' H2 (g1.trans g2) z3⟩)
end
section
variable{prog:au}{w:az}{A:aC}{E:k8e}{s:af}{d it vw:aa}{od:d8}{es:Array gj}{ep i:Nat}
theorem jdn {Q:k8e} (ht:s.TypeIs (.ref d) "dict") (lo:(d==eA)=a4)
  (q:Q (.ref s.heap.objs.size) { s with heap:=s.heap.push { cls:=.type "dict_values",data:=.fields #[.ref d] } }):ar (ax prog w) A (call (.builtin "dict.values") [.ref d]) Q E s:=by
 refine bA gZ ht F.entry_dict_values ?_ (F.args_dict_values_1 _);unfold dC.«dict.values»;refine a7 ?_;unfold Builtin.Dict.noArgs;refine a7 (wpAny_notOrdered_dict ht ?_);show ar _ _ (pure d) _ _ s;refine ai ?_;show ar _ _ (Builtin.Dict.showsAll d >>= _) _ _ s;unfold Builtin.Dict.showsAll;rw[if_neg (λz=>by rw[lo]at z;cases z)];exact a7 (ai (a7 (aI (ai ⟨_,rfl,q⟩))))
theorem jdm{Q:k8e}(hv:s.heap.IsValuesView vw d)(ho:s.heap.get? d=a3 od)(hd:od.data=.dict es ep)
  (q:Q (.ref s.heap.objs.size) { s with heap:=s.heap.push { cls:=.type "dict_valueiterator",data:=.fields #[.ref d,.int 0 0,.int es.size 0,.int ep 0] } }) :
  ar (ax prog w) A (hZ (.ref vw)) Q E s:=by
 obtain⟨oz,z1,z2,z3⟩:=id hv;refine wpAny_pyIter_slot hv.typeIs ic (bA ic hv.typeIs F.entry_dict_values_iter ?_ (F.args_dict_values_iter_1 _));unfold dC.«dict_values.__iter__»;refine a7 (ai ?_);refine a7 ?_;unfold jE;refine a7 (cB z1 z3 (x:=.ref d) rfl (ai (a7 ?_)));unfold jD;refine a7 (fQ ho hd (a7 (gE ho hd ?_)));have own:bW "dict_valueiterator" = a4:=by decide
 simp only[own,Xz,if_false];refine aI (ai ⟨_,rfl,"dict_valueiterator",_,⟨_,X5 _ rfl,rfl⟩,T3.lookup,?_⟩);simpa [dE]using q
theorem jdl{e:gj}{Q:Option a9->af->Prop}(hit:s.heap.IsValIter it d i es.size ep)(ho:s.heap.get? d=a3 od)(hd:od.data=.dict es ep)(he:es[i]?=a3 e)
  (hQ:∀h',h'.IsValIter it d (i+1) es.size ep->cg it s.heap h'->Q (a3 e.val) { s with heap:=h' }):ar (ax prog w) A (dF (.ref it)) Q E s:=by
 obtain⟨o,hoI,hc,hdI⟩:=id hit;unfold dF;refine a7 (lZ (bB (name:=cQ "__next__") hit.typeIs T3
  (bA T3 hit.typeIs fL ?_ (fD _))))
 refine a7 (ai ?_);refine a7 ?_;refine a7 ?_
 first|refine a7 (bF hit.typeIs (ai ?_))|refine a7 (cc hit.typeIs (ai ?_))
 refine a7 (lS hoI hdI ?_);have hown:bW "dict_valueiterator" = a4:=by decide
 simp only[hown,Xz,if_false];show ar _ _ (if (aA d==aR)=a5 then _ else _) _ _ s;rw[if_neg (λz=>by cases z)];refine a7 (ai ?_);refine a7 (fQ ho hd ?_);rw[if_neg (by simp)];refine a7 (ai ?_);refine a7 (gE ho hd ?_);rw[if_neg (by simp)];refine ai ?_;simp only[show ¬((i:Int)<0)from by omega,if_false,X6,he];refine a7 ?_
 first|refine a7 (bF hit.typeIs (ai ?_))|refine a7 (cc hit.typeIs (ai ?_))
 refine a7 (eO hit.typeIs ?_);show ar _ _ (setField (.ref it) 1 (dE ((i:Int)+1)) >>= _) _ _ s;refine a7 (eS hoI hdI (by simp) ?_);have hit':(s.heap.update it (gB (·.setIfInBounds 1 (dE ((i:Int)+1))))).IsValIter it d (i+1) es.size ep :=
  ⟨_,dO _ hoI (ia (cY hdI _)),(jC ..).trans hc,by rw[cY hdI];simp[dE]⟩
 refine a7 (bq ?_);refine a7 (eO (s:={ s with heap:=s.heap.update it (gB (·.setIfInBounds 1 (dE ((i:Int)+1)))) }) hit'.typeIs ?_);refine a7 (eO (s:={ s with heap:=s.heap.update it (gB (·.setIfInBounds 1 (dE ((i:Int)+1)))) }) hit'.typeIs ?_);show ar _ _ (pure e.val) _ _ _;exact ai (ai ⟨_,rfl,ai (hQ _ hit' (T9 ..))⟩)
theorem jha{Q:Option a9->af->Prop}(hh:A.handled=a6)(hit:s.heap.IsValIter it d i es.size ep)(ho:s.heap.get? d=a3 od)(hd:od.data=.dict es ep)(hge:es.size<=i)
  (hQ:∀h',dU it s.heap h'->Q a6 { s with heap:=h' }):ar (ax prog w) A (dF (.ref it)) Q E s:=by
 obtain⟨o,hoI,hc,hdI⟩:=id hit;unfold dF;refine a7 (lZ (bB (name:=cQ "__next__") hit.typeIs T3
  (bA T3 hit.typeIs fL ?_ (fD _))))
 refine a7 (ai ?_);refine a7 ?_;refine a7 ?_
 first|refine a7 (bF hit.typeIs (ai ?_))|refine a7 (cc hit.typeIs (ai ?_))
 refine a7 (lS hoI hdI ?_);have hown:bW "dict_valueiterator" = a4:=by decide
 simp only[hown,Xz,if_false];show ar _ _ (if (aA d==aR)=a5 then _ else _) _ _ s;rw[if_neg (λz=>by cases z)];refine a7 (ai ?_);refine a7 (fQ ho hd ?_);rw[if_neg (by simp)];refine a7 (ai ?_);refine a7 (gE ho hd ?_);rw[if_neg (by simp)];refine ai ?_;simp only[show ¬((i:Int)<0)from by omega,if_false,X6,Array.getElem?_eq_none hge];refine a7 ?_
 first|refine a7 (bF hit.typeIs (ai ?_))|refine a7 (cc hit.typeIs (ai ?_))
 show ar _ _ (setField (.ref it) 0 .none >>= _) _ _ s;refine a7 (eS hoI hdI (by simp) ?_);show ar _ _ (lU (.type "StopIteration") [] >>= _) _ _ _;refine a7 ?_;simp only[lU,newTuple];refine a7 (aI ?_ (by size_fits));refine a7 (m:=eV _ _) (gu (a:=aR) (by first|rfl|(simp only[eV];rfl)) ?_);refine aI ?_ (by size_fits);simp only[raiseNew];refine a7 (lY ?_);rw[show A.in1.handled=a6 from hh];refine a7 (ai (wpAny_throw ?_));refine a7 (wpAny_isInstance (T:="StopIteration") (b:=a5) ⟨_,X5 _ rfl,rfl⟩ isSubtype_stop ?_);exact ai (hQ _ (((T9 ..).extBut.push _).push _))
theorem j9h(hh:A.handled=a6)(I:aa)(hne:d≠I)(hd:od.data=.dict es ep):Walks prog w A I [I,d] [I] es.size (λi v=>∃e,es[i]?=a3 e/\v=e.val) (λi h=>h.IsValIter I d i es.size ep/\h.get? d=a3 od) where
 sub:=λb hb=>by simp at hb;simp[hb]
 frame:=λ_ _ _ st hk=>⟨let ⟨o,ho,x⟩:=st.1;⟨o,hk I (by simp) o ho,x⟩,hk d (by simp) _ st.2⟩
 item:=λi s Q E hi st hQ=>by refine jdl st.1 st.2 hd (bS hi) λh' hit' hs'=>?_;exact hQ _ h' s.toks ⟨_,bS hi,rfl⟩ ⟨hit',hs'.extBut _ _ hne st.2⟩ λb o hb e=>hs'.extBut b o (λh=>hb (by simp[h])) e
 done:=λs Q E st hQ=>jha hh st.1 st.2 hd (xx _) λh' he'=>hQ h' s.toks λb o hb e=>he' b o (λh=>hb (by simp[h])) e
 self:=λ_ _ _ _ st hQ=>wpAny_pyIter_valiter st.1 hQ
theorem jh9 (hd:od.data=.dict es ep):fC prog w "dict_values" vw d es.size (λi v=>∃e,es[i]?=a3 e/\v=e.val) (λh=>h.IsValuesView vw d/\h.get? d=a3 od) where
 type:=λ_ hm=>hm.1.typeIs
 there:=λ_ hm=>⟨let ⟨_,ho,_⟩:=hm.1;xu ho,xu hm.2⟩
 keep:=λ_ _ hm hk=>⟨let ⟨o,ho,x⟩:=hm.1;⟨o,hk vw (.inl rfl) o ho,x⟩,hk d (.inr rfl) _ hm.2⟩
 notList:=by decide
 notTuple:=by decide
 hint:=λ_ _ _ _ hm hq=>W.kdl_hint_values hm.1.typeIs hq
 iter:=λ_ _ hh hm=>⟨_,_,(λ_ _ hq=>jdm hm.1 hm.2 hd hq),j9h hh _ (Xa (xu hm.2)) hd,⟨⟨_,X5 _ rfl,rfl,rfl⟩,xj _ hm.2⟩⟩
end
section
variable{prog:au}{w:az}{A:aC}{E:k8e}{s:af}{T:String}{r d:aa}{n:Nat}{P:Nat->a9->Prop}{OK:aD->Prop}
theorem j1k{Q:List a9->af->Prop}(K:fC prog w T r d n P OK)(hh:A.handled=a6)(hok:OK s.heap)(hn:n<=ak)
  (hQ:∀(h':aD)(tk:Nat)(acc:Array a9),(∀b o,s.heap.get? b=a3 o->h'.get? b=a3 o)->kA P acc n->Q acc.toList { s with heap:=h',toks:=tk }):ar (ax prog w) A (collect (.ref r)) Q E s:=by
 have hlt:=K.there _ hok;have hS:(s.heap.push { cls:=.type "list",data:=.seq ([]:List a9).toArray }).get? s.heap.objs.size=a3 { cls:=.type "list",data:=.seq ([]:List a9).toArray }:=X5 _ rfl;have key:∀R:eX->af->Prop,(∀(h':aD)(tk:Nat)(acc:Array a9)(c:Nat),(∀b o,s.heap.get? b=a3 o->h'.get? b=a3 o)->h'.get? s.heap.objs.size=a3 { cls:=.type "list",dict:=a6,data:=.seq acc c,slots:=#[] }->kA P acc n->R (.ok (.ret (.ref s.heap.objs.size))) { s with heap:=h',toks:=tk }) ->
   ck (ax prog w) A (.builtin "proto.collect" ⟨[.ref r],[]⟩) R s:=λR hR=>by
  refine be F.entry_proto_collect ?_;rw[t6 F.plain_proto_collect _];show ar _ A.in1 (newList [] >>= λl=>iG (.builtin "list.__iadd__" ⟨[l,.ref r],[]⟩)) _ _ s;refine a7 (aI ?_);refine ai ⟨cf jX _,be F.entry_list_iadd ?_⟩;rw[t6 jX _];show ar _ A.in1 (lG (.ref s.heap.objs.size) (.ref r) (.ref s.heap.objs.size)) _ _ _;exact W.kdl_extend (R:=R) (s:={ s with heap:=s.heap.push { cls:=.type "list",data:=.seq ([]:List a9).toArray } }) K hh (K.keep _ _ hok λb _ o e=>xj _ e) _ (T5 hlt.1) (T5 hlt.2) _ 0 hS
   (λh' tk acc c kp hS' hacc=>hR h' tk acc c (λb o e=>kp b o (Xa (xu e)) (xj _ e)) hS' hacc) hn
 unfold collect;refine a7 (lR (key _ λh' tk acc c kp hS' hacc=>?_));show ar _ A (load s.heap.objs.size >>= _) _ _ _;refine a7 (wpAny_load hS' ?_);exact ai (hQ h' tk acc kp hacc)
theorem Cw {Q:k8e} (K:fC prog w T r d n P OK) (hh:A.handled=a6) (hok:OK s.heap) (hsz:n<=ak) (hTt:(bL T==bL "tuple")=a4)
  (hQ:∀(h':aD)(tk:Nat)(acc:Array a9),(∀b o,s.heap.get? b=a3 o->h'.get? b=a3 o)->kA P acc n->Q (.ref h'.objs.size) { s with heap:=h'.push { cls:=.type "tuple",data:=.seq acc },toks:=tk }) :
  ar (ax prog w) A (call (.type "tuple") [.ref r]) Q E s:=by
 refine callType_codes (Q₁:=λobj s₁=>s₁.TypeIs obj "tuple"/\Q obj s₁) F.called_tuple (F.typeCall_tuple_1 _) F.entry_object_init ?_ λobj s₁ h₁ =>⟨h₁.1,iR obj _,object_init_meets F.called_tuple.init.lookup F.called_tuple.made (by decide) prog w A.in1 _ s₁ ⟨h₁.1,rfl,h₁.2⟩⟩
 refine lJ ?_;show ar _ A.in1.in1 (do checkBuiltinCall "tuple.__new__" ⟨[.type "tuple",.ref r],[]⟩;iG (.builtin "tuple.__new__" ⟨[.type "tuple",.ref r],[]⟩)) _ _ s;refine a7 (gu (F.newCall_tuple_1 _) (ai ⟨cf jW _,be F.entry_tuple_new ?_⟩));rw[t6 jW _];have hsub:=sub_tuple_self;have hinit:=init_tuple_lookup;have hmh:=madeHere_tuple;have hTI:=K.type s hok;have hn:=hsz
 wp_walk using wpAny_typeOf hTI,j1k (A:=A.in1.in1) K hh hok hn
 intro h' tk acc kp hacc;show ar _ _ (aX acc.toList.toArray >>= λv=>ret v) _ _ _;unfold aX;refine a7 (aI ?_ (by show acc.toList.toArray.size<=ak;simp only[Array.toArray_toList];rw[hacc.1];exact hsz));refine ai ?_;have e:acc.toList.toArray=acc:=by simp
 rw[e];exact⟨⟨_,X5 _ rfl,rfl⟩,hQ h' tk acc kp hacc⟩
end
section
variable{X:Cx}{ρ:Rho}{a:aj}{ds:List D}{ks:List (List Int)}{pos p p1 p2:aK}
theorem j0p{P:au}{w:az}{en:Array gj}{xs:List (List Int×aa×a9)}{acc:Array a9}(h:en.toList=xs.map (ka (fc (fe P w))))(ha:kA (λi v=>∃e,en[i]?=a3 e/\v=e.val) acc en.size):acc=(xs.map λx=>x.2.2).toArray:=by
 obtain⟨h1,h2⟩:=ha;have hl:en.size=xs.length:=by have:=congrArg cG h;simpa using this
 apply Array.ext';refine Tp λi=>?_;rw[eG,X3];by_cases hi:i<acc.size
 .have hv:acc[i]?=a3 acc[i]:=bS hi;obtain⟨e,he,ev⟩:=h2 i _ hv;have he':en.toList[i]?=a3 e:=by simpa using he
  rw[h,X3]at he';rw[gQ,hv,ev];obtain⟨x,hx,ex⟩:=Xq.mp he';rw[hx,<-ex];rfl
 .rw[Xp (by simpa using hi),Xp nofun];rfl
theorem DE.tupVals (ha:DE X ρ a (.dct ks ds)) (hc:X.calm=a5) (hm:X.mg "tuple" = a6) (hg:Gl X "tuple") (hbase:aP a "values" X.env (ay a X.env)=ay a X.env) (hline:(p1.endLine==p2.line)=a5)
  (hs2:a8 [.Call (.Attribute a "values" p1) [] [] p2] X.env=[(a4,ay (.Call (.Attribute a "values" p1) [] [] p2) X.env)]):DE X ρ (.Call (.Name "tuple" p) [.Call (.Attribute a "values" p1) [] [] p2] [] pos) (.tup ds):=λσ H Q R q pins s I=>by
 refine aH (Qs I hg hm boot_tuple ?_);refine callWith_type1 ?_ hs2 rfl;rw[hs2];show ar _ _ (iS ((a4,ay _ X.env)::aM pos [])) _ _ s;refine eL ?_;refine iC hbase hline (thn (ha σ H (λv H'=>j0 H H'/\Enc X.K (del H' (owns ρ)) (.dct ks ds) v) R (λv H' g e=>⟨g,e⟩) pins s I) λv s1 ⟨x,H1,I1,r1,g1,en⟩=>?_);obtain⟨d,xs,ep,vs,ex,hx,ek,kt,rv,l⟩:=en;subst ex ek;cases r1;have hx1:H1 d=a3 (.dI xs ep):=(of_del hx).2;obtain⟨z1,z2,z3,od,en,h1,h2,h3,h4⟩:=(show jj X.prog X.w H1 s1.heap d (.dI xs ep)from I1.hok _ _ hx1)
 have hsz:en.size=xs.length:=by have:=congrArg cG h4;simpa using this
 refine⟨"dict","dict.values",PySem.F.plainAttrs_dict,gZ,PySem.F.type_dict_values,⟨od,h1,h2.1⟩,λb e=>by cases e;exact⟨od,h1,h2.2.1⟩,cb rfl (ig (jdn ⟨od,h1,h2.1⟩ z2 ?_))⟩;refine eQ ?_;have v1:(s1.heap.push { cls:=.type "dict_values",data:=.fields #[.ref d] }).get? s1.heap.objs.size=a3 { cls:=.type "dict_values",data:=.fields #[.ref d] }:=X5 _ rfl;have I2:=I1.kept (t':=s1.toks) (h':=s1.heap.push { cls:=.type "dict_values",data:=.fields #[.ref d] }) λb o e=>xj _ e;refine Cw (jh9 (vw:=s1.heap.objs.size) (d:=d) (od:=od) h3) (I1.ok.hd hc) ⟨⟨_,v1,rfl,rfl⟩,xj _ h1⟩ (by rw[hsz];exact z1) (by decide) λh' tk acc kp hacc=>?_;have ea:=j0p h4 hacc;subst ea;have I3:Inv X pins σ H1 { s1 with heap:=h',toks:=tk }:=I2.kept (t':=tk) (h':=h') kp;have hf:H1 h'.objs.size=a6:=I3.hok.fresh (xx _);have hl:=rv.length;have hxl:vs.length<=ak:=by rw[hl,kj];exact z1
 have I4:=I3.laid (a:=h'.objs.size) (o:=.tup vs) (t':=tk) (h':=h'.push { cls:=.type "tuple",data:=.seq (xs.map λx=>x.2.2).toArray }) (λb u q=>xj _ q) (xx _) ⟨hxl,_,rv,IsTup.new _ _,V8.new _ _⟩;have nt:h'.objs.size∉owns ρ:=(R.grow g1).fresh hf;exact⟨.ref h'.objs.size,_,I4,rfl,q _ _ (g1.trans (j7 hf)) ⟨h'.objs.size,vs,rfl,.inl (.inl (by rw[j5 nt];exact j9)),l.mono (je (j7 hf))⟩⟩
end
section
variable{X:Cx}{ρ:Rho}{it e1 e2:aj}{P:Po}{ds:List D}{x t y:Nat}{nx nt ny:ah}{p1 p2 p3 p4 p5 p6 p10 p11 p12 p14 p16 p17 p18:aK}
noncomputable abbrev jaq(nx nt ny:ah)(it e1 e2:aj)(p1 p2 p3 p4 p5 p6 p10 p11 p12 p14 p16 p17 p18:aK):List aQ :=
 [.Assign [.Name nx p1] (.Dict [] [] p2) p3,.For (.Name nt p4) it [.Assign [.Name ny p5] e1 p6,.Assign [.Subscript (.Name nx p10) (.Name nt p11) p12] e2 p14] [] p16,.Return (a3 (.Name nx p17)) p18]
theorem zr:∀ns:List Int,zg (ns.map D.int)=a5
 |[]=>rfl
 |n::ns=>by rw[xr,zg,zr ns];rfl
theorem Oz{α:Type}:∀{l:List α}{i:Nat}{x:α},l[i]?=a3 x->l.set i x=l
 |[],_,_,_=>rfl
 |y::l,0,x,h=>by simp at h;subst h;rfl
 |y::l,i+1,x,h=>by rw[Xr,Oz (by simpa using h)]
theorem j0q{K:k8d}{H:Hp}{A:List aa}(hA:∀a∈A,Hd (H a)){ds:List D}{vs:List V}(n:zg ds=a5)(h:j4 K H ds vs):j4 K (del H A) ds vs:=j4.hide hA n h
theorem DSs.nmake(W:Nat->Rho->List (List Int)->List Int->Prop)(rx:x<ρ.length)(rt:t<ρ.length)(ry:y<ρ.length)(hxt:x≠t)(hxy:x≠y)(hty:t≠y)(hi:DI X (ρ.set x .un) (.Name nt p4) it ds)(h0:W 0 (ρ.set x .un) [] [])
  (hs:∀i d ρ' ks ns,ds[i]?=a3 d->W i ρ' ks ns->∃k d1 n,d=.tup (k.map D.int)/\DE X (ρ'.set t (.val d)) e1 d1/\DE X (((ρ'.set t (.val d)).set y (.val d1)).set x (.val (.dct ks (ns.map D.int)))) e2 (.int n) /\
   ks.contains k=a4/\ks.length<ak/\W (i+1) ((ρ'.set t (.val d)).set y (.val d1)) (ks++[k]) (ns++[n]))
  (hd:∀ρ' ks ns,W ds.length ρ' ks ns->P.rt (.val (.dct ks (ns.map D.int))))
  (hu:X.A.units+100<aS) (hc:X.calm=a5) (hp:fg (ax X.prog X.w) X.A X.env X.xe) (hN:X.N.Nodup) (hX:X.N[x]?=a3 nx) (hT:X.N[t]?=a3 nt) (hY:X.N[y]?=a3 ny)
  (lx:Loc X.env.scope nx) (lt:Loc X.env.scope nt) (ly:Loc X.env.scope ny) (fx:X.fn nx=a5\/X.env.scope.names.lookup nx=a3 .local) (ft:X.fn nt=a5\/X.env.scope.names.lookup nt=a3 .local) (fy:X.fn ny=a5\/X.env.scope.names.lookup ny=a3 .local)
  (dx:(nx==k8h)=a4) (cx:(nx==k8i)=a4) (dt:(nt==k8h)=a4) (ct:(nt==k8i)=a4)
  (s1:aE (.Dict [] [] p2) (a3 (.Name nx p1)) p3.line X.env=pure a4) (s2:aE e1 (a3 (.Name ny p5)) p6.line X.env=pure a4)
  (s3:aE e2 (a3 (.Subscript (.Name nx p10) (.Name nt p11) p12)) p14.line X.env=pure a4) (hf:∀x,aB it X.env x=pure x) :
  DSs X ρ (jaq nx nt ny it e1 e2 p1 p2 p3 p4 p5 p6 p10 p11 p12 p14 p16 p17 p18) P:=λσ H E R q=>by
 have vis:∀{z:ah},Loc X.env.scope z->Vis X.env.scope z:=λh=>h.elim .inl λz=>.inr (.inl z);refine(zu (Zf hN hX lx j24 s1 fx) (zu (j01 hp hc piS (Zv hN hT lt ft) (zu (Zf hN hY ly peS s2 fy)
  (Mp (j21 hu (J8 hX (vis lx) dx cx) (J8 hT (vis lt) dt ct) peS s3))) hf)
  (Mp (Uy (J8 hX (vis lx) dx cx))))).to ?_
 intro a ha;have R0:Rep X.K (ρ.set x .un) (σ.set x (a3 (.ref a))) H:=R.set_un;have hxl:x<σ.length:=by rw[R.len];exact rx
 refine Nu (A:=[a]) (R':=λJ F=>j0 H F/\Yy X.K (del F (owns (ρ.set x .un))) J ds) (λb hb=>.inr ⟨[],0,by rw[xn.mp hb];exact j9⟩) (by rw[N7 ha];exact hi _ H _ R0 λJ F g ok=>⟨g,ok⟩) λJ F ⟨g,ok⟩ hn=>?_;rw[Dw j9];have fa:F a=a6:=hn a (by simp);refine⟨λi m σ' H'=>∃ρ' Fh xs ep ns,H'=upd Fh a (.dI xs ep)/\Fh a=a6/\Rep X.K ρ' σ' Fh/\j0 F Fh/\(∀b∈owns ρ',b∈owns (ρ.set x .un))/\ρ'.length=ρ.length/\σ'[x]?=a3 (a3 (.ref a)) /\
   (∀z∈xs,SqT X.K Fh z.2.1 (z.1.map V.int))/\Vals (ns.map V.int) (xs.map λz=>z.2.2)/\W i ρ' (xs.map λz=>z.1) ns/\m=ds.length-i/\i<=ds.length,
  ⟨ds.length,ρ.set x .un,F,[],0,[],rfl,fa,R0.grow g,j0.refl _,λb hb=>hb,by simp,Vv hxl,λz hz=>(nomatch hz),.nil,h0,rfl,c9 _⟩,?_⟩
 rintro i m σ' H' ⟨ρ',Fh,xs,ep,ns,rfl,fha,R',gF,sub,hL,sx,kt,rv,w,rfl,hle⟩;have gU:j0 Fh (upd Fh a (.dI xs ep)):=j7 fha;obtain⟨go,stop,yld⟩:=ok i (upd Fh a (.dI xs ep)) (a::owns ρ') (λb o eb=>by
  obtain⟨nb,eb⟩:=of_del eb
  have nba:b≠a:=λz=>by rw[z,fa]at eb;cases eb
  rw[j5,jg nba]
  .exact gF b o eb
  .intro z
   rcases xq.mp z with z|z
   .exact nba z
   .exact nb (sub b z)) (λb hb=>by
  rcases xq.mp hb with z|z
  .rw[z,j9];simp
  .obtain⟨ys,eb⟩:=R'.owned b z
   rw[gU _ _ eb];simp)
 by_cases hlt:i<ds.length
 .obtain⟨k,d1,n,ed,hE,hE2,nk,hkl,w'⟩:=hs i ds[i] ρ' _ ns (kh hlt) w;refine .inr ⟨go hlt,λσ2 H2=>∃ρ2 Fh2 xs2 ep2 ns2,H2=upd Fh2 a (.dI xs2 ep2)/\Fh2 a=a6/\Rep X.K ρ2 σ2 Fh2/\j0 F Fh2/\(∀b∈owns ρ2,b∈owns (ρ.set x .un))/\ρ2.length=ρ.length/\σ2[x]?=a3 (a3 (.ref a)) /\
   (∀z∈xs2,SqT X.K Fh2 z.2.1 (z.1.map V.int))/\Vals (ns2.map V.int) (xs2.map λz=>z.2.2)/\W (i+1) ρ2 (xs2.map λz=>z.1) ns2,
   λσ2 H2 ⟨ρ2,Fh2,xs2,ep2,ns2,z1,z2,z3,z4,z5,z5',z6,z7,z8,z10⟩=>⟨ds.length-(i+1),by omega,ρ2,Fh2,xs2,ep2,ns2,z1,z2,z3,z4,z5,z5',z6,z7,z8,z10,rfl,hlt⟩,λv H2 yv=>?_⟩
  obtain⟨g2,en⟩:=yld v H2 yv;have en:=en _ (kh hlt);have h2a:H2 a=a3 (.dI xs ep):=g2 _ _ j9;have e2:H2=upd (del H2 [a]) a (.dI xs ep):=j1t h2a;have f2a:del H2 [a] a=a6:=qp (by simp);have gF2:j0 Fh (del H2 [a]):=λb o eb=>by
   have nb:b≠a:=λz=>by rw[z,fha]at eb;cases eb
   rw[j5 (by simpa using nb)];exact g2 b o (gU b o eb)
  have en2:Enc X.K (del (del H2 [a]) (owns ρ')) ds[i] v:=by rw[Z0];exact en
  generalize del H2 [a]=F2 at e2 f2a gF2 en2;subst e2;have R2:Rep X.K (ρ'.set t (.val ds[i])) (σ'.set t (a3 v)) F2:=(R'.grow gF2).set_val en2;have sub2:∀b∈owns (ρ'.set t (.val ds[i])),b∈owns (ρ.set x .un):=λb hb=>sub b ((jf rfl).subset hb);show Qm X e1 (σ'.set t (a3 v)) (upd F2 a (.dI xs ep)) _;refine j3b (A:=[a]) (Q':=λv F3=>j0 F2 F3/\Enc X.K (del F3 (owns (ρ'.set t (.val ds[i])))) d1 v) (λb hb=>.inr ⟨xs,ep,by rw[xn.mp hb];exact j9⟩) (by rw[N7 f2a];exact hE _ F2 _ R2 λv F3 g e=>⟨g,e⟩) λv3 F3 ⟨g3,en3⟩ hn3=>?_;rw[Dw j9];have f3a:F3 a=a6:=hn3 a (by simp);have R3:Rep X.K ((ρ'.set t (.val ds[i])).set y (.val d1)) ((σ'.set t (a3 v)).set y (a3 v3)) F3:=(R2.grow g3).set_val en3;have sub3:∀b∈owns ((ρ'.set t (.val ds[i])).set y (.val d1)),b∈owns (ρ.set x .un):=λb hb=>sub2 b ((jf rfl).subset hb);have sx3:((σ'.set t (a3 v)).set y (a3 v3))[x]?=a3 (a3 (.ref a)):=by rw[qy (c7 hxy),qy (c7 hxt)];exact sx
  have lenN:σ'.length=ρ.length:=by rw[R'.len,hL]
  have htl:t<σ'.length:=by rw[lenN];exact rt
  have hL3:((ρ'.set t (.val ds[i])).set y (.val d1)).length=ρ.length:=by rw[Tg,Tg,hL]
  have st3:((σ'.set t (a3 v)).set y (a3 v3))[t]?=a3 (a3 v):=by rw[qy (c7 hty)];exact Vv htl
  have kt3:∀z∈xs,SqT X.K F3 z.2.1 (z.1.map V.int):=λz hz=>g3.seqT (gF2.seqT (kt z hz));rw[ed]at en2;obtain⟨tb,ys,ev,sq,li⟩:=en2;rw[zx li]at sq;subst ev;have sq3:SqT X.K F3 tb (k.map V.int):=g3.seqT (ju.seqT sq);clear R2;show Qm X e2 ((σ'.set t (a3 (V.ref tb))).set y (a3 v3)) (upd F3 a (.dI xs ep)) _;generalize (σ'.set t (a3 (V.ref tb))).set y (a3 v3)=σ3 at R3 sx3 st3 ⊢;generalize (ρ'.set t (.val ds[i])).set y (.val d1)=ρ3 at R3 sub3 hL3 hE2 w' ⊢;have g4:j0 F3 (upd F3 a (.dI xs ep)):=j7 f3a;have hO:∀b∈owns ρ3,Hd (upd F3 a (.dI xs ep) b):=λb hb=>.inl (let ⟨zs,e⟩:=R3.owned b hb;⟨zs,g4 _ _ e⟩);have na:a∉owns ρ3:=λz=>by obtain⟨zs,e⟩:=R3.owned a z;rw[f3a]at e;cases e
  have R4:Rep X.K (ρ3.set x (.val (.dct (xs.map λz=>z.1) (ns.map D.int)))) σ3 (upd F3 a (.dI xs ep)):=by
   have z:=(R3.grow g4).set_val (i:=x) (d:=.dct (xs.map λz=>z.1) (ns.map D.int)) (v:=.ref a) ⟨a,xs,ep,ns.map V.int,rfl,by rw[j5 na];exact j9,rfl,λz hz=>?_,rv,j0q hO (zr ns) (j4.ints ns)⟩
   .rw[Oz sx3]at z;exact z
   .have e:Enc X.K (upd F3 a (.dI xs ep)) (.tup (z.1.map D.int)) (.ref z.2.1):=⟨_,_,rfl,g4.seqT (kt3 z hz),j4.ints z.1⟩
    obtain⟨b,zs,e1,e2,e3⟩:=e.hide hO (by rw[vd];exact zr z.1);cases e1;rw[zx e3]at e2;exact e2
  refine hE2 σ3 _ _ R4 λv4 H4 g5 en4=>?_;cases(show v4=.int n from en4);have h4a:H4 a=a3 (.dI xs ep):=g5 _ _ j9;have f4a:del H4 [a] a=a6:=qp (by simp);have gF4:j0 F3 (del H4 [a]):=λb o eb=>by
   have nb:b≠a:=λz=>by rw[z,f3a]at eb;cases eb
   rw[j5 (by simpa using nb)];exact g5 b o (g4 b o eb)
  have gU4:j0 (del H4 [a]) H4:=ju;refine⟨.ref a,sx3,.ref tb,st3,a,tb,xs,ep,k,rfl,h4a,λz hz=>gU4.seqT (gF4.seqT (kt3 z hz)),rfl,gU4.seqT (gF4.seqT sq3),nk,by rw[kj]at hkl;exact hkl,λu ep' ru=>?_⟩;refine⟨ρ3,del H4 [a],xs++[(k,tb,u)],ep',ns++[n],?_,f4a,R3.grow gF4,gF.trans (gF2.trans (g3.trans gF4)),sub3,hL3,sx3,λz hz=>?_,?_,by rw[Xf];exact w'⟩
  .funext b
   by_cases z:b=a
   .subst z;rw[j9,j9]
   .rw[jg z,jg z,j5 (by simpa using z)]
  .rcases pq.mp hz with hz|hz
   .exact gF4.seqT (kt3 z hz)
   .rw[xn.mp hz];exact gF4.seqT sq3
  .rw[Xf,Xf];exact rv.append (.cons ru .nil)
 .have e:i=ds.length:=by omega
  subst e;refine .inl ⟨stop (xx _),.ref a,sx,?_⟩;refine q.rt (.val (.dct _ (ns.map D.int))) (.ref a) _ (hd ρ' _ ns w) ⟨λb o eb=>gU b o (gF b o (g b o (of_del eb).2)),a,xs,ep,ns.map V.int,rfl,j9,rfl,λz hz=>gU.seqT (kt z hz),rv,j4.ints ns⟩
end
section
variable{X:Cx}{ρ:Rho}{a e:aj}{l:List D}{d:D}{p1 pos:aK}
noncomputable def ixD(d:D):List D->Option Nat
 |[]=>a6
 |x::r=>if deq x d=a5 then a3 0 else(ixD d r).map (· + 1)
end
section
variable{X:Cx}{pins:k8f}{σ:St}{H:Hp}{l q S I:aa}{xs:List V}{R:eX->af->Prop}
end
section
variable{X:Cx}{ρ:Rho}{σ:St}{H:Hp}{q:aa}{f:ah}{l:List D}{xs:List V}{kf:Nat->Int}{a:aj}{d:D}{p p1 pk pos:aK}
end
section
variable{X:Cx}{pins:k8f}{σ:St}{H:Hp}{l S I:aa}{xs:List V}{R:eX->af->Prop}
def jij(X:Cx)(pins:k8f)(σ:St)(H:Hp)(xs:List V)(bt:Nat->Nat->Bool):Prop:=∀(i j:Nat)(x y:V)(u v:a9)(s:af)(Q:k8e)(E:k8e),xs[i]?=a3 x->xs[j]?=a3 y->RelV x u->RelV y v->Inv X pins σ H s ->
 Q (.bool (bt i j)) s->ar (ax X.prog X.w) X.A.in1 (gw .Lt u v) Q E s
theorem jci(bt:Nat->Nat->Bool)(hh:X.A.handled=a6)(hl:SqL X.K H l xs)(hSI:S≠I)(fS:Ze X pins H S)(fI:Ze X pins H I)(cmp:jij X pins σ H xs bt)
  (hR:∀x u s',xs[aU bt (xs.length-1)]?=a3 x->RelV x u->Inv X pins σ H s'->R (.ok (.ret u)) s') :
  ∀(r j:Nat)(s:af)(x:V)(u:a9)(c:Nat),xs.length-(j+1)=r->j+1<=xs.length->Inv X pins σ H s->s.heap.get? S=a3 (f7 "list" #[u,u] c) ->
   s.heap.IsListIter I l (j+1)->xs[aU bt j]?=a3 x->RelV x u->ck (ax X.prog X.w) X.A (.builtin "min.loop" ⟨[.ref I,.none,.ref S],[]⟩) R s:=by
 have hname:(toString "min" ++ toString ".loop":String) = "min.loop":=by decide
 have fp:∀b∈[S,I],Ze X pins H b:=λb hb=>by
  rcases xq.mp hb with e|hb
  .subst e;exact fS
  .rw[xn.mp hb];exact fI
 intro r;induction r with
 |zero =>
  intro j s x u c hr hj I1 oS it hx ru;have hin:j+1=xs.length:=by omega
  obtain⟨its,rv,p,_⟩:=I1.list hl;have hlen:=rv.length;refine be dn ?_;rw[t6 t8 _];show ar _ X.A.in1 (gb (.ref S) >>= _) _ _ _;refine a7 (dq oS rfl ?_);show ar _ X.A.in1 (tryCatch (dF (.ref I)) _ >>= _) _ _ _;refine a7 (eR (jF hh it p.isList (by simp;omega) λh' eb=>?_));have I2:Inv X pins σ H { s with heap:=h' }:=I1.chg (ch:=[S,I]) fp λb o hb e=>eb b o (λz=>hb (by simp[z])) e;have oS':h'.get? S=a3 (f7 "list" #[u,u] c):=eb S _ hSI oS;show ar _ X.A.in1 (updateSeq S (λ_=>#[]) >>= _) _ _ _;refine a7 ?_;refine gC oS' rfl (a7 (gv (ai ?_)));have s1:=T9 h' S (bN λ_=>(#[]:Array a9));exact hR x u _ (by rw[<-hin];exact hx) ru (I2.chg (ch:=[S,I]) fp λb o hb e=>(s1.2 b (λz=>hb (by simp[z]))).trans e)
 |succ r ih =>
  intro j s x u c hr hj I1 oS it hx ru;have hlt:j+1<xs.length:=by omega
  obtain⟨its,rv,p,_⟩:=I1.list hl;have hlen:=rv.length;have hx1:xs[j+1]?=a3 xs[j+1]:=by simp[hlt]
  obtain⟨v,hv,rv1⟩:=rv.get hx1;refine be dn ?_;rw[t6 t8 _];show ar _ X.A.in1 (gb (.ref S) >>= _) _ _ _;refine a7 (dq oS rfl ?_);show ar _ X.A.in1 (tryCatch (dF (.ref I)) _ >>= _) _ _ _;refine a7 (eR (dY it p.isList (x:=v) (by simpa using hv) λh' it' sb=>?_));have I2:Inv X pins σ H { s with heap:=h' }:=I1.chg (ch:=[S,I]) fp λb o hb e=>(sb.2 b (λz=>hb (by simp[z]))).trans e;have oS':h'.get? S=a3 (f7 "list" #[u,u] c):=(sb.2 S hSI).trans oS;obtain⟨oI,eI,cI,dI⟩:=id it';show ar _ X.A.in1 (tryCatch (cj [v,v] (gw .Lt v u >>= _)) _ >>= _) _ _ _;refine a7 (eR (bq (a7 (cmp (j+1) (aU bt j) _ _ v u _ _ _ hx1 hx rv1 ru I2 ?_))));refine a7 (bq (b9 ?_));refine a7 (gv (ai ?_));cases hb:bt (j+1) (aU bt j) with
  |true =>
   have s1:=T9 h' S (bN λ_=>#[v,v]);obtain⟨c2,hc2⟩:∃c2,(h'.update S (bN λ_=>#[v,v])).get? S=a3 (f7 "list" #[v,v] c2):=⟨_,lK oS' λ_=>#[v,v]⟩
   simp only[if_true];refine a7 ?_;refine gC oS' rfl (a7 (gv ?_));rw[hname];exact ai ⟨cf t8 _,ih (j+1) _ _ v c2 nofun hlt (I2.chg (ch:=[S,I]) fp λb o hb e=>(s1.2 b (λz=>hb (by simp[z]))).trans e) hc2
    ⟨oI,(s1.2 I hSI.symm).trans eI,cI,dI⟩ (by simp only[aU,hb,if_true];exact hx1) rv1⟩
  |false =>simp only[Xz,if_false];refine a7 (gv ?_);rw[hname];exact ai ⟨cf t8 _,ih (j+1) _ x u c nofun hlt I2 oS' ⟨oI,eI,cI,dI⟩ (by simp only[aU,hb,Xz,if_false];exact hx) ru⟩
theorem j5q(bt:Nat->Nat->Bool)(hh:X.A.handled=a6){s:af}{Q:VK}{E:k8e}(I0:Inv X pins σ H s)(hl:SqL X.K H l xs)(hne:0<xs.length)(cmp:jij X pins σ H xs bt)
  (hQ:∀x,xs[aU bt (xs.length-1)]?=a3 x->Q x H):ar (ax X.prog X.w) X.A (call (.builtin "min") [.ref l]) (EP X pins σ Q) E s:=by
 have hname:(toString "min" ++ toString ".loop":String) = "min.loop":=by decide
 obtain⟨its0,rv0,p0,_⟩:=I0.list hl;refine call_function_tree PySem.F.kind_min PySem.F.plain_min PySem.F.entry_min (PySem.F.args_min1 _) ?_;show ar _ X.A.in1 (Builtin.Builtins.bindParams "min" ["key","default"] 0 ⟨[],[]⟩ >>= _) _ _ s;refine a7 (gu (show Builtin.Builtins.bindParams "min" ["key","default"] 0 ⟨[],[]⟩=pure [a6,a6]from rfl) ?_);refine a7 (ai ?_);refine a7 (bo p0.isList ?_);refine a7 (wpAny_newList ?_ (c9 _));rw[hname];generalize hA:s.heap.push { cls:=.type "list_iterator",data:=.fields #[.ref l,.int 0 0] }=h1;have z1:h1.objs.size=s.heap.objs.size+1:=by rw[<-hA];exact size_push' ..
 have gI:(h1.push (f7 "list" #[] 0)).get? s.heap.objs.size=a3 { cls:=.type "list_iterator",data:=.fields #[.ref l,.int 0 0] }:=by rw[<-hA];exact xj _ (X5 _ rfl)
 have gS:(h1.push (f7 "list" #[] 0)).get? h1.objs.size=a3 (f7 "list" #[] 0):=X5 _ rfl;have I1:Inv X pins σ H { s with heap:=h1.push (f7 "list" #[] 0) }:=I0.kept (t':=s.toks) λb o e=>xj _ (by rw[<-hA];exact xj _ e);have fI:Ze X pins H s.heap.objs.size:=I0.fpOk (xx _) (I0.hok.fresh (xx _));have fS:Ze X pins H h1.objs.size:=I0.fpOk (by rw[z1];exact Py _) (I0.hok.fresh (by rw[z1];exact Py _));have hSI:h1.objs.size≠s.heap.objs.size:=by rw[z1];exact T5 (cF _)
 have fp:∀b∈[h1.objs.size,s.heap.objs.size],Ze X pins H b:=λb hb=>by
  rcases xq.mp hb with e|hb
  .subst e;exact fS
  .rw[xn.mp hb];exact fI
 refine ai ⟨cf t8 _,?_⟩;obtain⟨its,rv,p,_⟩:=I1.list hl;have hlen:=rv.length;have hx0:xs[0]?=a3 xs[0]:=by simp[hne]
 obtain⟨v,hv,rv1⟩:=rv.get hx0;refine be dn ?_;rw[t6 t8 _];show ar _ X.A.in1 (gb (.ref _) >>= _) _ _ _;refine a7 (dq gS rfl ?_);show ar _ X.A.in1 (tryCatch (dF (.ref s.heap.objs.size)) _ >>= _) _ _ _;refine a7 (eR (dY (i:=0) ⟨_,gI,rfl,rfl⟩ p.isList (x:=v) (by simpa using hv) λh' it' sb=>?_));have I2:Inv X pins σ H { s with heap:=h' }:=I1.chg (ch:=[h1.objs.size,s.heap.objs.size]) fp λb o hb e=>(sb.2 b (λz=>hb (by simp[z]))).trans e;have oS':h'.get? h1.objs.size=a3 (f7 "list" #[] 0):=(sb.2 _ hSI).trans gS;obtain⟨oI,eI,cI,dI⟩:=id it';have s1:=T9 h' h1.objs.size (bN λ_=>#[v,v]);obtain⟨c2,hc2⟩:∃c2,(h'.update h1.objs.size (bN λ_=>#[v,v])).get? h1.objs.size=a3 (f7 "list" #[v,v] c2):=⟨_,lK oS' λ_=>#[v,v]⟩
 show ar _ X.A.in1 (updateSeq h1.objs.size (λ_=>#[v,v]) >>= _) _ _ _;refine a7 ?_;refine gC oS' rfl ?_;rw[hname];exact ai ⟨cf t8 _,jci bt hh hl hSI fS fI cmp (λx u s' hx ru I=>⟨x,H,I,ru,hQ x hx⟩) _ 0 _ _ v c2 rfl hne
  (I2.chg (ch:=[h1.objs.size,s.heap.objs.size]) fp λb o hb e=>(s1.2 b (λz=>hb (by simp[z]))).trans e) hc2 ⟨oI,(s1.2 _ hSI.symm).trans eI,cI,dI⟩ hx0 rv1⟩
end
noncomputable def Jm(l:List (List Int))(i j:Nat):Bool:=HT.lexLt (l.getD i []) (l.getD j [])
section
variable{X:Cx}{ρ:Rho}{a:aj}{l:List (List Int)}{k:List Int}{p pos:aK}
theorem DT.minT (hu:X.A.units+100<aS) (hcalm:X.calm=a5) (hm:X.mg "min" = a6) (hg:Gl X "min") (ha:DT X ρ a (.lst (l.map λk=>D.tup (k.map D.int)))) (hk:l[aU (Jm l) (l.length-1)]?=a3 k) (hs:a8 [a] X.env=[(a4,ay a X.env)]) :
  DT X ρ (.Call (.Name "min" p) [a] [] pos) (.tup (k.map D.int)):=λσ H Q R q pins s I=>by
 refine aH (Qs I hg hm jP ?_ (by decide) (by decide));refine callWith_builtin1 (thn ((jd (es:=[]) peS jz hs).to (σ:=σ) (H:=H) (Q:=λvs H1=>∃v,vs=[v]/\j0 H H1/\Enc X.K H1 (.lst (l.map λk=>D.tup (k.map D.int))) v) (ha σ H _ R λv H1 g1 e1=>⟨v,rfl,g1,e1⟩) pos pins s I) λus s1 ⟨vs,H1,I1,r1,v,ev,g1,e1⟩=>?_) hs rfl;subst ev;obtain⟨b,xs,eb,sq,en⟩:=e1;subst eb;obtain⟨u,eu,ru⟩:=r1.one;subst eu;cases(show u=aA b from ru);have hlen:xs.length=l.length:=by rw[en.length,kj]
 have hin:=(X7.mp hk).1;have item:∀{i:Nat}{x:V},xs[i]?=a3 x->∃t,x=.ref t/\SqT X.K H1 t ((l.getD i []).map V.int)/\Enc X.K H1 (.tup ((l.getD i []).map D.int)) x:=λ{i x} hx=>by
  obtain⟨d,hd,ed⟩:=en.get' hx;rw[X3]at hd;obtain⟨k',hk',ek⟩:=Xq.mp hd;subst ek;have eg:l.getD i []=k':=by rw[km,hk'];rfl
  rw[eg];obtain⟨t,ys,e1,sq',l'⟩:=id ed;rw[zx l']at sq';exact⟨t,e1,sq',ed⟩
 refine j5q (Jm l) (I.ok.hd hcalm) I1 sq nofun (λi j x y u v s2 Q2 E2 hx hy rx ry I2 hq=>?_) λx hx=>?_
 .obtain⟨t,e1,s1',_⟩:=item hx;obtain⟨t',e2,s2',_⟩:=item hy;subst e1 e2;cases rx;cases ry;obtain⟨its,r1,p1,_⟩:=I2.tuple s1';obtain⟨its2,r2,p2,_⟩:=I2.tuple s2';exact HT.lt_tupInts (A:=X.A.in1) p1 p2 (intsAre_of r1) (intsAre_of r2) (by show X.A.units+1<aS;omega) hq
 .rw[hlen]at hx;obtain⟨t,e1,_,ed⟩:=item hx;have eg:l.getD (aU (Jm l) (l.length-1)) []=k:=by rw[km,hk];rfl
  rw[eg]at ed;exact q x H1 g1 ed
end
section
variable{X:Cx}{ρ:Rho}{it e2:aj}{P:Po}{ds:List D}{x t:Nat}{nx nt:ah}{p1 p2 p3 p4 p10 p11 p12 p14 p16 p17 p18:aK}
noncomputable abbrev jac(nx nt:ah)(it e2:aj)(p1 p2 p3 p4 p10 p11 p12 p14 p16 p17 p18:aK):List aQ :=
 [.Assign [.Name nx p1] (.Dict [] [] p2) p3,.For (.Name nt p4) it [.Assign [.Subscript (.Name nx p10) (.Name nt p11) p12] e2 p14] [] p16,.Return (a3 (.Name nx p17)) p18]
theorem DSs.wmake(W:Nat->Rho->List (List Int)->List Int->Prop)(rx:x<ρ.length)(rt:t<ρ.length)(hxt:x≠t)(hi:DI X (ρ.set x .un) (.Name nt p4) it ds)(h0:W 0 (ρ.set x .un) [] [])
  (hs:∀i d ρ' ks ns,ds[i]?=a3 d->W i ρ' ks ns->∃k n,d=.tup (k.map D.int)/\DE X ((ρ'.set t (.val d)).set x (.val (.dct ks (ns.map D.int)))) e2 (.int n) /\
   ks.contains k=a4/\ks.length<ak/\W (i+1) (ρ'.set t (.val d)) (ks++[k]) (ns++[n]))
  (hd:∀ρ' ks ns,W ds.length ρ' ks ns->P.rt (.val (.dct ks (ns.map D.int))))
  (hu:X.A.units+100<aS) (hc:X.calm=a5) (hp:fg (ax X.prog X.w) X.A X.env X.xe) (hN:X.N.Nodup) (hX:X.N[x]?=a3 nx) (hT:X.N[t]?=a3 nt)
  (lx:Loc X.env.scope nx) (lt:Loc X.env.scope nt) (fx:X.fn nx=a5\/X.env.scope.names.lookup nx=a3 .local) (ft:X.fn nt=a5\/X.env.scope.names.lookup nt=a3 .local)
  (dx:(nx==k8h)=a4) (cx:(nx==k8i)=a4) (dt:(nt==k8h)=a4) (ct:(nt==k8i)=a4)
  (s1:aE (.Dict [] [] p2) (a3 (.Name nx p1)) p3.line X.env=pure a4)
  (s3:aE e2 (a3 (.Subscript (.Name nx p10) (.Name nt p11) p12)) p14.line X.env=pure a4) (hf:∀x,aB it X.env x=pure x) :
  DSs X ρ (jac nx nt it e2 p1 p2 p3 p4 p10 p11 p12 p14 p16 p17 p18) P:=λσ H E R q=>by
 have vis:∀{z:ah},Loc X.env.scope z->Vis X.env.scope z:=λh=>h.elim .inl λz=>.inr (.inl z);refine(zu (Zf hN hX lx j24 s1 fx) (zu (j01 hp hc piS (Zv hN hT lt ft) (Mp (j21 hu (J8 hX (vis lx) dx cx) (J8 hT (vis lt) dt ct) peS s3)) hf)
  (Mp (Uy (J8 hX (vis lx) dx cx))))).to ?_
 intro a ha;have R0:Rep X.K (ρ.set x .un) (σ.set x (a3 (.ref a))) H:=R.set_un;have hxl:x<σ.length:=by rw[R.len];exact rx
 refine Nu (A:=[a]) (R':=λJ F=>j0 H F/\Yy X.K (del F (owns (ρ.set x .un))) J ds) (λb hb=>.inr ⟨[],0,by rw[xn.mp hb];exact j9⟩) (by rw[N7 ha];exact hi _ H _ R0 λJ F g ok=>⟨g,ok⟩) λJ F ⟨g,ok⟩ hn=>?_;rw[Dw j9];have fa:F a=a6:=hn a (by simp);refine⟨λi m σ' H'=>∃ρ' Fh xs ep ns,H'=upd Fh a (.dI xs ep)/\Fh a=a6/\Rep X.K ρ' σ' Fh/\j0 F Fh/\(∀b∈owns ρ',b∈owns (ρ.set x .un))/\ρ'.length=ρ.length/\σ'[x]?=a3 (a3 (.ref a)) /\
   (∀z∈xs,SqT X.K Fh z.2.1 (z.1.map V.int))/\Vals (ns.map V.int) (xs.map λz=>z.2.2)/\W i ρ' (xs.map λz=>z.1) ns/\m=ds.length-i/\i<=ds.length,
  ⟨ds.length,ρ.set x .un,F,[],0,[],rfl,fa,R0.grow g,j0.refl _,λb hb=>hb,by simp,Vv hxl,λz hz=>(nomatch hz),.nil,h0,rfl,c9 _⟩,?_⟩
 rintro i m σ' H' ⟨ρ',Fh,xs,ep,ns,rfl,fha,R',gF,sub,hL,sx,kt,rv,w,rfl,hle⟩;have gU:j0 Fh (upd Fh a (.dI xs ep)):=j7 fha;obtain⟨go,stop,yld⟩:=ok i (upd Fh a (.dI xs ep)) (a::owns ρ') (λb o eb=>by
  obtain⟨nb,eb⟩:=of_del eb
  have nba:b≠a:=λz=>by rw[z,fa]at eb;cases eb
  rw[j5,jg nba]
  .exact gF b o eb
  .intro z
   rcases xq.mp z with z|z
   .exact nba z
   .exact nb (sub b z)) (λb hb=>by
  rcases xq.mp hb with z|z
  .rw[z,j9];simp
  .obtain⟨ys,eb⟩:=R'.owned b z
   rw[gU _ _ eb];simp)
 by_cases hlt:i<ds.length
 .obtain⟨k,n,ed,hE2,nk,hkl,w'⟩:=hs i ds[i] ρ' _ ns (kh hlt) w;refine .inr ⟨go hlt,λσ2 H2=>∃ρ2 Fh2 xs2 ep2 ns2,H2=upd Fh2 a (.dI xs2 ep2)/\Fh2 a=a6/\Rep X.K ρ2 σ2 Fh2/\j0 F Fh2/\(∀b∈owns ρ2,b∈owns (ρ.set x .un))/\ρ2.length=ρ.length/\σ2[x]?=a3 (a3 (.ref a)) /\
   (∀z∈xs2,SqT X.K Fh2 z.2.1 (z.1.map V.int))/\Vals (ns2.map V.int) (xs2.map λz=>z.2.2)/\W (i+1) ρ2 (xs2.map λz=>z.1) ns2,
   λσ2 H2 ⟨ρ2,Fh2,xs2,ep2,ns2,z1,z2,z3,z4,z5,z5',z6,z7,z8,z10⟩=>⟨ds.length-(i+1),by omega,ρ2,Fh2,xs2,ep2,ns2,z1,z2,z3,z4,z5,z5',z6,z7,z8,z10,rfl,hlt⟩,λv H2 yv=>?_⟩
  obtain⟨g2,en⟩:=yld v H2 yv;have en:=en _ (kh hlt);have h2a:H2 a=a3 (.dI xs ep):=g2 _ _ j9;have e2:H2=upd (del H2 [a]) a (.dI xs ep):=j1t h2a;have f2a:del H2 [a] a=a6:=qp (by simp);have gF2:j0 Fh (del H2 [a]):=λb o eb=>by
   have nb:b≠a:=λz=>by rw[z,fha]at eb;cases eb
   rw[j5 (by simpa using nb)];exact g2 b o (gU b o eb)
  have en2:Enc X.K (del (del H2 [a]) (owns ρ')) ds[i] v:=by rw[Z0];exact en
  generalize del H2 [a]=F2 at e2 f2a gF2 en2;subst e2;have R2:Rep X.K (ρ'.set t (.val ds[i])) (σ'.set t (a3 v)) F2:=(R'.grow gF2).set_val en2;have sub2:∀b∈owns (ρ'.set t (.val ds[i])),b∈owns (ρ.set x .un):=λb hb=>sub b ((jf rfl).subset hb);have sx3:(σ'.set t (a3 v))[x]?=a3 (a3 (.ref a)):=by rw[qy (c7 hxt)];exact sx
  have lenN:σ'.length=ρ.length:=by rw[R'.len,hL]
  have htl:t<σ'.length:=by rw[lenN];exact rt
  have hL3:(ρ'.set t (.val ds[i])).length=ρ.length:=by rw[Tg,hL]
  have st3:(σ'.set t (a3 v))[t]?=a3 (a3 v):=Vv htl;have kt3:∀z∈xs,SqT X.K F2 z.2.1 (z.1.map V.int):=λz hz=>gF2.seqT (kt z hz);rw[ed]at en2;obtain⟨tb,ys,ev,sq,li⟩:=en2;rw[zx li]at sq;subst ev;have sq3:SqT X.K F2 tb (k.map V.int):=ju.seqT sq;show Qm X e2 (σ'.set t (a3 (V.ref tb))) (upd F2 a (.dI xs ep)) _;generalize σ'.set t (a3 (V.ref tb))=σ3 at R2 sx3 st3 ⊢;generalize ρ'.set t (.val ds[i])=ρ3 at R2 sub2 hL3 hE2 w' ⊢;have g4:j0 F2 (upd F2 a (.dI xs ep)):=j7 f2a;have hO:∀b∈owns ρ3,Hd (upd F2 a (.dI xs ep) b):=λb hb=>.inl (let ⟨zs,e⟩:=R2.owned b hb;⟨zs,g4 _ _ e⟩);have na:a∉owns ρ3:=λz=>by obtain⟨zs,e⟩:=R2.owned a z;rw[f2a]at e;cases e
  have R4:Rep X.K (ρ3.set x (.val (.dct (xs.map λz=>z.1) (ns.map D.int)))) σ3 (upd F2 a (.dI xs ep)):=by
   have z:=(R2.grow g4).set_val (i:=x) (d:=.dct (xs.map λz=>z.1) (ns.map D.int)) (v:=.ref a) ⟨a,xs,ep,ns.map V.int,rfl,by rw[j5 na];exact j9,rfl,λz hz=>?_,rv,j0q hO (zr ns) (j4.ints ns)⟩
   .rw[Oz sx3]at z;exact z
   .have e:Enc X.K (upd F2 a (.dI xs ep)) (.tup (z.1.map D.int)) (.ref z.2.1):=⟨_,_,rfl,g4.seqT (kt3 z hz),j4.ints z.1⟩
    obtain⟨b,zs,e1,e2,e3⟩:=e.hide hO (by rw[vd];exact zr z.1);cases e1;rw[zx e3]at e2;exact e2
  refine hE2 σ3 _ _ R4 λv4 H4 g5 en4=>?_;cases(show v4=.int n from en4);have h4a:H4 a=a3 (.dI xs ep):=g5 _ _ j9;have f4a:del H4 [a] a=a6:=qp (by simp);have gF4:j0 F2 (del H4 [a]):=λb o eb=>by
   have nb:b≠a:=λz=>by rw[z,f2a]at eb;cases eb
   rw[j5 (by simpa using nb)];exact g5 b o (g4 b o eb)
  have gU4:j0 (del H4 [a]) H4:=ju;refine⟨.ref a,sx3,.ref tb,st3,a,tb,xs,ep,k,rfl,h4a,λz hz=>gU4.seqT (gF4.seqT (kt3 z hz)),rfl,gU4.seqT (gF4.seqT sq3),nk,by rw[kj]at hkl;exact hkl,λu ep' ru=>?_⟩;refine⟨ρ3,del H4 [a],xs++[(k,tb,u)],ep',ns++[n],?_,f4a,R2.grow gF4,gF.trans (gF2.trans gF4),sub2,hL3,sx3,λz hz=>?_,?_,by rw[Xf];exact w'⟩
  .funext b
   by_cases z:b=a
   .subst z;rw[j9,j9]
   .rw[jg z,jg z,j5 (by simpa using z)]
  .rcases pq.mp hz with hz|hz
   .exact gF4.seqT (kt3 z hz)
   .rw[xn.mp hz];exact gF4.seqT sq3
  .rw[Xf,Xf];exact rv.append (.cons ru .nil)
 .have e:i=ds.length:=by omega
  subst e;refine .inl ⟨stop (xx _),.ref a,sx,?_⟩;refine q.rt (.val (.dct _ (ns.map D.int))) (.ref a) _ (hd ρ' _ ns w) ⟨λb o eb=>gU b o (gF b o (g b o (of_del eb).2)),a,xs,ep,ns.map V.int,rfl,j9,rfl,λz hz=>gU.seqT (kt z hz),rv,j4.ints ns⟩
end
noncomputable def jl8(p q:Int×List Int):Bool:=if p.1=q.1 then HT.lexLt p.2 q.2 else decide (p.1<q.1)
noncomputable def Ca(l:List (Int×List Int))(i j:Nat):Bool:=jl8 (l.getD i (0,[])) (l.getD j (0,[]))
noncomputable def pairD(p:Int×List Int):D:=.tup [.int p.1,.tup (p.2.map D.int)]
theorem Ff:∀l:List Int,HT.lexLt l l=a4
 |[]=>rfl
 |x::l=>by rw[HT.lexLt_cons,if_pos rfl,Ff l]
theorem N6:∀l:List Int,D.depL (l.map D.int)=0
 |[]=>rfl
 |x::l=>by rw[xr,D.depL,N6 l];rfl
theorem K8:∀{ns ms:List Int},zy (ns.map D.int) (ms.map D.int)=a5->ns=ms
 |[],[],_=>rfl
 |[],_::_,h=>nomatch h
 |_::_,[],h=>nomatch h
 |x::ns,y::ms,h=>by rw[xr,xr,Qu,Xg]at h;rw[K8 h.2,show x=y from by simpa [j6c]using h.1]
section
open PySem.SeqAt
open PySem.AutoSeq1 (wpAny_loadPart')
open PySem.MeetsSeq PySem.MeetsSeq2 PySem.MeetsSeq3
theorem Kp(l b x y:aa)(a c:Int)(t u:gL)(n n2:Nat)(dd dd2:Option aa)(sl sl2:Array (Option a9))(e r:Bool) :
  kz (dC.«tuple.__lt__» ⟨[.ref l,.ref b],[]⟩)
   (λA R s=>s.heap.get? l=a3 { cls:=.type "tuple",dict:=dd,data:=.seq #[.int a t,.ref x] n,slots:=sl }/\s.heap.get? b=a3 { cls:=.type "tuple",dict:=dd2,data:=.seq #[.int c u,.ref y] n2,slots:=sl2 } /\
    EqAt A.in1 s (.ref x) (.ref y) e/\(∀(prog:au)(w:az)(E:k8e)(Q:k8e),Q (.bool r) s->ar (ax prog w) A.in1 (gw .Lt (.ref x) (.ref y)) Q E s) /\
    R (.ok (.ret (.bool (if a=c then(if e=a5 then a4 else r)else decide (a<c))))) s) :=
 .of_wp λprog w A R s h=>by
  obtain⟨hp,g,d,tk,os⟩:=s;obtain⟨hl,hb,hx,hr,h⟩:=h;have f2:=fM
  wp_walk using eD hl,eD hb,kS _ (λrest b s'=>b.1=a6/\s'=⟨hp,g,d,tk,os⟩ /\
   (rest=[(bc a t,bc c u),(aA x,aA y)]\/(rest=[(aA x,aA y)]/\a=c)\/(rest=[]/\a=c/\e=a5))) _
  case turn =>
   rintro⟨y',x'⟩ rest b s' ⟨hb',rfl,hz⟩;rcases hz with hz|⟨hz,ac⟩|⟨hz,_⟩
   .injection hz with hyx hrest;injection hyx with hy hx';subst hy hx';obtain⟨e',he,hiff⟩:=HT.eqAt_int A.in1 ⟨hp,g,d,tk,os⟩ a t c u;refine a7 (he prog w _ _ ?_);cases e' with
    |true =>
     wp_walk
     exact⟨rfl,rfl,.inr (.inl ⟨hrest,hiff.mp rfl⟩)⟩
    |false =>
     rw[if_neg (λq=>absurd (hiff.mpr q) xf)]at h;have hri:=HT.rcLt_int A.in1 ⟨hp,g,d,tk,os⟩ a t c u prog w
     wp_walk using hri
     exact⟨_,rfl,by simpa using h⟩
   .injection hz with hyx hrest;injection hyx with hy hx';subst hy hx';refine a7 (hx prog w _ _ ?_);rw[if_pos ac]at h;cases e with
    |true =>
     wp_walk
     exact⟨rfl,rfl,.inr (.inr ⟨hrest,ac,rfl⟩)⟩
    |false =>
     have hri:=hr prog w
     wp_walk using hri
     exact⟨_,rfl,by simpa using h⟩
   .cases hz
  case fin =>
   rintro⟨b1,b2⟩ s' ⟨hb',rfl,hz⟩;simp only at hb';subst hb';rcases hz with hz|⟨hz,ac⟩|⟨hz,ac,e1⟩
   .cases hz
   .cases hz
   .rw[if_pos ac,if_pos e1]at h
    wp_walk
    exact⟨_,rfl,by simpa [dP]using h⟩
  case h =>exact⟨rfl,rfl,.inl rfl⟩
end
section
variable{X:Cx}{ρ:Rho}{a:aj}{l:List (Int×List Int)}{k:Int×List Int}{p pos:aK}
theorem DT.minP (hu:X.A.units+100<aS) (hcalm:X.calm=a5) (hm:X.mg "min" = a6) (hg:Gl X "min") (ha:DT X ρ a (.lst (l.map pairD))) (hk:l[aU (Ca l) (l.length-1)]?=a3 k) (hs:a8 [a] X.env=[(a4,ay a X.env)]) :
  DT X ρ (.Call (.Name "min" p) [a] [] pos) (pairD k):=λσ H Q R q pins s I=>by
 refine aH (Qs I hg hm jP ?_ (by decide) (by decide));refine callWith_builtin1 (thn ((jd (es:=[]) peS jz hs).to (σ:=σ) (H:=H) (Q:=λvs H1=>∃v,vs=[v]/\j0 H H1/\Enc X.K H1 (.lst (l.map pairD)) v) (ha σ H _ R λv H1 g1 e1=>⟨v,rfl,g1,e1⟩) pos pins s I) λus s1 ⟨vs,H1,I1,r1,v,ev,g1,e1⟩=>?_) hs rfl;subst ev;obtain⟨b,xs,eb,sq,en⟩:=e1;subst eb;obtain⟨u,eu,ru⟩:=r1.one;subst eu;cases(show u=aA b from ru);have hlen:xs.length=l.length:=by rw[en.length,kj]
 have hin:=(X7.mp hk).1;have item:∀{i:Nat}{x:V},xs[i]?=a3 x->Enc X.K H1 (pairD (l.getD i (0,[]))) x:=λ{i x} hx=>by
  obtain⟨d,hd,ed⟩:=en.get' hx;rw[X3]at hd;obtain⟨k',hk',ek⟩:=Xq.mp hd;subst ek;have eg:l.getD i (0,[])=k':=by rw[km,hk'];rfl
  rw[eg];exact ed
 have part:∀{q:Int×List Int}{x:V},Enc X.K H1 (pairD q) x->∃t y,x=.ref t/\SqT X.K H1 t [.int q.1,.ref y]/\SqT X.K H1 y (q.2.map V.int)/\Enc X.K H1 (.tup (q.2.map D.int)) (.ref y):=λ{q x} ed=>by obtain⟨t,ys,e1,sq',l'⟩:=ed;obtain⟨v1,ys1,rfl,e2,v2,ys2,rfl,e3,rfl⟩:=l';cases(show v1=.int q.1 from e2);obtain⟨y,zs,e4,sq2,l4⟩:=id e3;subst e4;rw[zx l4]at sq2;exact⟨t,y,e1,sq',sq2,e3⟩
 refine j5q (Ca l) (I.ok.hd hcalm) I1 sq nofun (λi j x y u v s2 Q2 E2 hx hy rx ry I2 hq=>?_) λx hx=>?_
 .obtain⟨t,x1,e1,s1',s1'',en1⟩:=part (item hx);obtain⟨t',y1,e2,s2',s2'',en2⟩:=part (item hy);subst e1 e2;cases rx;cases ry;obtain⟨its,r1,p1,_⟩:=I2.tuple s1';obtain⟨its2,r2,p2,_⟩:=I2.tuple s2';obtain⟨itx,rx1,px,_⟩:=I2.tuple s1'';obtain⟨ity,ry1,py,_⟩:=I2.tuple s2'';obtain⟨_,_,rfl,⟨k1,rfl⟩,eu⟩:=r1.two;obtain⟨_,_,rfl,⟨k2,rfl⟩,ev⟩:=r2.two;cases eu;cases ev;have hE:=(Vc I2 1 X.A.in1.in1 (d:=.tup ((l.getD i (0,[])).2.map D.int)) (d':=.tup ((l.getD j (0,[])).2.map D.int)) (by rw[D.dep,N6];decide) (by show X.A.units+1+1+1<aS;omega) (by rw[D.dep,N6];decide) en1 rfl en2 rfl).2;obtain⟨⟨cls,dd,data,sl⟩,ho,hc,n,hd⟩:=id p1;obtain⟨⟨cls2,dd2,data2,sl2⟩,ho2,hc2,n2,hd2⟩:=id p2;simp only at hc hd hc2 hd2;subst hc hd hc2 hd2;have hb:Ca l i j=if (l.getD i (0,[])).1=(l.getD j (0,[])).1 then(if deq (.tup ((l.getD i (0,[])).2.map D.int)) (.tup ((l.getD j (0,[])).2.map D.int))=a5 then a4 else HT.lexLt (l.getD i (0,[])).2 (l.getD j (0,[])).2)else decide ((l.getD i (0,[])).1<(l.getD j (0,[])).1):=by
   show(if _ then _ else _)=_;split
   .split
    .rename_i h;rw[Fw]at h;rw[K8 h,Ff]
    .rfl
   .rfl
  rw[hb]at hq;exact iV (op:=.Lt) ⟨_,ho,rfl⟩ ⟨_,ho2,rfl⟩ gp g6 (fW _ _) (Kp t t' x1 y1 _ _ _ _ n n2 dd dd2 sl sl2 _ _)
   ⟨ho,ho2,hE,λprog w E Q h=>HT.lt_tupInts (A:=X.A.in1.in1) px py (intsAre_of rx1) (intsAre_of ry1) (by show X.A.units+1+1<aS;omega) h,(λx=>nomatch x),hq⟩ (by show X.A.units+1<aS;omega)
 .rw[hlen]at hx;have ed:=item hx;have eg:l.getD (aU (Ca l) (l.length-1)) (0,[])=k:=by rw[km,hk];rfl
  rw[eg]at ed;exact q x H1 g1 ed
end
section
variable{X:Cx}{ρ:Rho}{a:aj}{p p1 p2 pos:aK}
end
noncomputable def jlg(kvs:List (ah×Int))(k:ah):Option Int:=(kvs.find? λp=>decide (p.1=k)).map λp=>p.2
noncomputable def jlj(kvs:List (ah×Int))(k:ah):Bool:=kvs.any λp=>decide (p.1=k)
noncomputable def dput(kvs:List (ah×Int))(k:ah)(n:Int):List (ah×Int):=if jlj kvs k=a5 then kvs.map λp=>if p.1=k then(p.1,n)else p else kvs++[(k,n)]
section
variable{X:Cx}{ρ:Rho}{a b e k:aj}{rest:List aQ}{P:Po}{kvs:List (ah×Int)}{z:ah}{n:Int}{i j:Nat}{nx ny:ah}{pos pos' p p1 p2 p3 p4 p5 p6 p7 p8:aK}{td ty tv:TE}{o value:aj}
end
section
variable{prog:au}{w:az}{A:aC}{E:k8e}{s:af}
end
section
variable{prog:au}{w:az}{A:aC}{E:k8e}{s:af}{l1 l2:Bool}{z TI TO i1 i2 t1 t2 p:aa}{f:Bool}{op:d8}{k:Nat}{us vs:Array a9}{x y a b:a9}
end
section
variable{X:Cx}{pins:k8f}{σ:St}{z TI TO i1 i2 t1 t2 d:aa}{l1 l2:Bool}{ks:List ah}{ns:List Int}{A:aC}{R:eX->af->Prop}
end
section
variable{X:Cx}{ρ:Rho}{a b:aj}{ks:List ah}{ns:List Int}{p p2 p3 p4:aK}
end
section
variable{X:Cx}{ρ:Rho}{a e:aj}{es:List aj}{x:ah}{d:D}{p p1 p2 pos:aK}{y:ah}{ds:List D}
theorem Ld.grow{σ:St}{H H':Hp}(k:Ld X σ H x)(g:j0 H H'):Ld X σ H' x:=λpins H2 s' e C I g2 hC Fe=>k pins H2 s' e C I (g.trans g2) hC Fe
theorem DXA.head(ha:DX X ρ a x)(hs:a8 (a::es) X.env=(a4,ay a X.env)::a8 es X.env):DXA X ρ (a::es) x:=λσ H Q R k =>(jd peS paS hs).to (ha σ H _ R k)
theorem DXA.tail(ha:DT X ρ a d)(h:DXA X ρ es x)(hs:a8 (a::es) X.env=(a4,ay a X.env)::a8 es X.env):DXA X ρ (a::es) x:=λσ H Q R k =>(jd peS paS hs).to (ha σ H _ R λv H1 g _=>h σ H1 _ (R.grow g) (k.grow g))
theorem DX.args {f:ah} (ha:DXA X ρ (e::es) x) (hg:Gl X f) (hdb:(f==k8h)=a4) {fa:aa} (hfa:X.mg f=a3 (.ref fa)) (hk:W.keepIn X.K (.ref fa)=a5)
  (he:a8 (e::es) X.env=(a4,ay e X.env)::a8 es X.env) (hpl:(aM pos (a8 es X.env)).any (·.1)=a4):DX X ρ (.Call (.Name f p) (e::es) [] pos) x:=λσ H Q R k pins s I=>by
 refine aH (Yd I hg hfa ?_ hdb);exact W.callWith_K (h₀:=X.base) I.ok.mod.kin hk (thn (ha σ H (λ_ _=>False) R k pos pins s I) λus s1 ⟨vs,H1,I1,r,z⟩=>z.elim) he hpl
end
noncomputable def Wa:List Int->Int
 |[]=>0
 |a::r=>r.foldl max a
theorem j8c:∀(r:List Int)(a:Int),a<=r.foldl max a
 |[],a=>fN a
 |b::r,a=>by rw[Th];have:=j8c r (max a b);omega
theorem K6:∀(r:List Int)(a:Int),r.foldl max a∈a::r/\∀b∈a::r,b<=r.foldl max a
 |[],a=>⟨xn.mpr rfl,λb hb=>by rw[xn.mp hb];exact fN _⟩
 |c::r,a=>by
  rw[Th];obtain⟨h1,h2⟩:=K6 r (max a c);refine⟨?_,λb hb=>?_⟩
  .rcases xq.mp h1 with z|z
   .rw[z];by_cases q:a<=c
    .rw[Int.max_eq_right q];exact xg _ xm
    .rw[Int.max_eq_left nofun];exact xm
   .exact xg _ (xg _ z)
  .have l:=h2 (max a c) xm;rcases xq.mp hb with z|z
   .rw[z];omega
   .rcases xq.mp z with z|z
    .rw[z];omega
    .exact h2 b (xg _ z)
theorem j0f{ns:List Int}(h:ns≠[]):Wa ns∈ns/\∀b∈ns,b<=Wa ns:=by
 cases ns with
 |nil=>exact absurd rfl h
 |cons a r=>exact K6 r a
theorem jck{ns:List Int}{M:Int}(h1:M∈ns)(h2:∀a∈ns,a<=M):Wa ns=M:=by
 have hn:ns≠[]:=λe=>by rw[e]at h1;exact nomatch h1
 obtain⟨a,b⟩:=j0f hn;have:=h2 _ a;have:=b _ h1;omega
noncomputable def Qn(ns:List Int):Int:=-Wa (ns.map λn=>-n)
theorem j89{ns:List Int}(h:ns≠[]):Qn ns∈ns/\∀b∈ns,Qn ns<=b:=by
 obtain⟨h1,h2⟩:=j0f (ns:=ns.map λn=>-n) (by simpa using h);obtain⟨a,ha,e⟩:=Xh.mp h1;unfold Qn;refine⟨?_,λb hb=>?_⟩
 .rw[<-e,Int.neg_neg];exact ha
 .have:=h2 _ (Xh.mpr ⟨b,hb,rfl⟩);omega
theorem j29{ns:List Int}{M:Int}(h1:M∈ns)(h2:∀a∈ns,M<=a):Qn ns=M:=by
 obtain⟨a,b⟩:=j89 (ns:=ns) λe=>by rw[e]at h1;exact nomatch h1
 have:=h2 _ a;have:=b _ h1;omega
section
variable{X:Cx}{ρ:Rho}{a b e:aj}{es:List aj}{x y:ah}{d:D}{i j:Int}{p p1 p2 p3 p4 pk pos:aK}{ds:List D}
theorem jab{pins:k8f}{s:af}{σ:St}{H:Hp}{l:aa}{ns:List Int}(I:Inv X pins σ H s)(sq:SqL X.K H l (ns.map V.int))(hne:ns≠[]):∃zs,s.heap.IsList l (eU zs)/\0<zs.size/\zs.size=ns.length/\∀i,i<zs.size->gx zs i=ns.getD i 0:=by
 obtain⟨its,rv,pl,_⟩:=I.list sq;have hl:its.length=ns.length:=by rw[<-rv.length,kj]
 have val:∀(i:Nat)(v:a9),its[i]?=a3 v->∃t,v=bc (ns.getD i 0) t:=by
  intro i v hv;have hi:i<its.length:=(X7.mp hv).1;have hi':i<ns.length:=by omega
  obtain⟨w1,hw,rw1⟩:=rv.get (x:=.int (ns.getD i 0)) (i:=i) (by rw[X3,kh hi',km,kh hi'];rfl);rw[hw]at hv;cases hv;exact rw1
 have hall:AllInts its.toArray:=by intro v hv;obtain⟨i,hi,e⟩:=Ti.mp (show v∈its by simpa using hv);obtain⟨t,e'⟩:=val i v (by rw[kh hi,e]);exact⟨_,t,e'⟩
 obtain⟨zs,hz⟩:=hall.items;have pl':=pl.isList;rw[hz]at pl';have hsz:0<zs.size:=by
  have:its.toArray.size=(eU zs).size:=by rw[hz]
  have h1:0<ns.length:=List.length_pos_iff.mpr hne;simp[eU]at this;omega
 have hns:∀i,i<zs.size->gx zs i=ns.getD i 0:=by
  intro i hi;obtain⟨v1,e1⟩:∃v,(eU zs)[i]?=a3 v:=⟨_,bS (by simpa [eU]using hi)⟩
  obtain⟨t,ht⟩:=jM e1;rw[<-hz]at e1;obtain⟨t',ht'⟩:=val i _ (by simpa using e1);rw[ht]at ht';exact(Value.int.inj ht').1
 have len:zs.size=ns.length:=by
  have:its.toArray.size=(eU zs).size:=by rw[hz]
  simp[eU]at this;omega
 exact⟨zs,pl',hsz,len,hns⟩
theorem j6w (hc:X.calm=a5):Jq X (.builtin "max") (λxs H Q=>∃(l:aa)(ns:List Int),xs=[.ref l]/\SqL X.K H l (ns.map V.int)/\ns≠[]/\Q (.int (Wa ns)) H):=by
 rintro pins s σ H xs us Q I r ⟨l,ns,e,sq,hne,q⟩;subst e;obtain⟨u,eu,ru⟩:=vals1 r;subst eu;cases ru;obtain⟨zs,pl',hsz,len,hns⟩:=jab I sq hne;refine max_intList (I.ok.hd hc) pl' hsz λv h' tk hv hk=>?_;obtain⟨t,rfl⟩:=jM hv;obtain⟨h1,h2⟩:=argBest_gt (gx zs) (zs.size-1);have hM:Wa ns=gx zs (aU (λi j=>decide (gx zs i>gx zs j)) (zs.size-1)):=by
  refine jck ?_ λc hc=>?_
  .rw[hns _ nofun];rw[km,kh nofun];exact Xy _
  .obtain⟨k,hk,rfl⟩:=Ti.mp hc;have:=h2 k nofun
   rw[hns k nofun,km,kh hk]at this;exact this
 rw[hM]at q;exact⟨.int _,H,I.kept hk,⟨t,rfl⟩,q⟩
theorem j6u (hc:X.calm=a5):Jq X (.builtin "min") (λxs H Q=>∃(l:aa)(ns:List Int),xs=[.ref l]/\SqL X.K H l (ns.map V.int)/\ns≠[]/\Q (.int (Qn ns)) H):=by
 rintro pins s σ H xs us Q I r ⟨l,ns,e,sq,hne,q⟩;subst e;obtain⟨u,eu,ru⟩:=vals1 r;subst eu;cases ru;obtain⟨zs,pl',hsz,len,hns⟩:=jab I sq hne;refine min_intList (I.ok.hd hc) pl' hsz λv h' tk hv hk=>?_;obtain⟨t,rfl⟩:=jM hv;obtain⟨h1,h2⟩:=argBest_lt (gx zs) (zs.size-1);have hM:Qn ns=gx zs (aU (λi j=>decide (gx zs i<gx zs j)) (zs.size-1)):=by
  refine j29 ?_ λc hc=>?_
  .rw[hns _ nofun];rw[km,kh nofun];exact Xy _
  .obtain⟨k,hk,rfl⟩:=Ti.mp hc;have:=h2 k nofun
   rw[hns k nofun,km,kh hk]at this;exact this
 rw[hM]at q;exact⟨.int _,H,I.kept hk,⟨t,rfl⟩,q⟩
theorem DE.max2 (ha:DT X ρ a (.int i)) (hb:DT X ρ b (.int j)) (hm:X.mg "max" = a6) (hc:X.calm=a5) (hg:Gl X "max") (hs:a8 [a,b] X.env=(a4,ay a X.env)::a8 [b] X.env) (hs2:a8 [b] X.env=(a4,ay b X.env)::a8 [] X.env)
  (hpl:(aM pos (a8 [b] X.env)).any (·.1)=a4):DE X ρ (.Call (.Name "max" p) [a,b] [] pos) (.int (if j>i then j else i)):=λσ H Q R q =>
 (vq (j6x hc) hg hm boot_max (jd peS (jd peS jz hs2) hs) (by decide) (by decide) hs hpl).to (ha σ H _ R λv H1 g1 e1=>hb σ H1 _ (R.grow g1) λu H2 g2 e2=>⟨i,j,by rw[show v=.int i from e1,show u=.int j from e2],q _ H2 (g1.trans g2) rfl⟩)
theorem DE.maxL {ns:List Int} (ha:DT X ρ a (.lst (ns.map D.int))) (hn:ns≠[]) (hm:X.mg "max" = a6) (hc:X.calm=a5) (hg:Gl X "max") (hs:a8 [a] X.env=[(a4,ay a X.env)]):DE X ρ (.Call (.Name "max" p) [a] [] pos) (.int (Wa ns)):=λσ H Q R q =>(vq (j6w hc) hg hm boot_max (jd peS jz hs) (by decide) (by decide) hs).to (ha σ H _ R λv H1 g1 ⟨l,xs,e,sq,en⟩=>⟨l,ns,by rw[e],by rw[zx en]at sq;exact sq,hn,q _ H1 g1 rfl⟩)
theorem DE.minL {ns:List Int} (ha:DT X ρ a (.lst (ns.map D.int))) (hn:ns≠[]) (hm:X.mg "min" = a6) (hc:X.calm=a5) (hg:Gl X "min") (hs:a8 [a] X.env=[(a4,ay a X.env)]):DE X ρ (.Call (.Name "min" p) [a] [] pos) (.int (Qn ns)):=λσ H Q R q =>(vq (j6u hc) hg hm jP (jd peS jz hs) (by decide) (by decide) hs).to (ha σ H _ R λv H1 g1 ⟨l,xs,e,sq,en⟩=>⟨l,ns,by rw[e],by rw[zx en]at sq;exact sq,hn,q _ H1 g1 rfl⟩)
theorem jjg {K:k8d} {fd:aL} {ps:List ah} (hn:0<ps.length) (h:∀(s:af)(us:List a9)(w:a9),K.In s.heap->us.length+1=ps.length->d9 s fd ⟨us,[("prices",w)]⟩ (ps.zip (us++[w]))):KBinds K fd ps ["prices"] kG kGV :=
 ⟨λs us ws hK hl=>by
  match ws,hl with
  |[w],hl=>exact h s us w hK (by simpa [kG]using hl)
  |[],hl=>exact absurd hl (Xa hn)
  |_::_::_,hl=>exact absurd hl (Xa hn),λ{vs us zs ws} r1 r2=>by
  cases r2 with
  |nil=>exact .nil
  |cons a b =>
   cases b with
   |nil=>exact r1.append (.cons a .nil)
   |cons _ _=>exact .nil⟩
theorem DE.callD {S:List D->D->Prop} (c:Cal X x (spP X.K S)) (hx:x∈Cq) (ha:DA X ρ (e::es) ds) (hS:S (ds++[.non]) d) (hg:Gl X x) (hdb:(x==k8h)=a4)
  (he:a8 (e::es) X.env=(a4,ay e X.env)::a8 es X.env) (hpl:(aM pos (a8 es X.env)).any (·.1)=a4):DE X ρ (.Call (.Name x p) (e::es) [] pos) d:=λσ H Q R q=>by
 obtain⟨k,f,fd,ps,F,hr,hm,hk,hb,hd⟩:=c.ex;refine(Mt (dvs:=[.non]) F (hr.mono (Py _)) hg hm hk (hd hx).1 (.cons rfl .nil) Fd paS hdb he hpl).to (ha σ H _ R λvs H1 g1 e1=>?_);show spP X.K S (vs++[.non]) H1 Q E0;exact⟨owns ρ,ds++[.non],d,R.tb.mono g1,(R.grow g1).owned,e1.append (show j4 X.K _ [D.non] [V.non] from⟨.non,[],rfl,rfl,rfl⟩),hS,λv H2 g2 z=>q v H2 (g1.trans g2) z⟩
theorem DE.callK {S:List D->D->Prop} {d':D} (c:Cal X x (spP X.K S)) (hx:x∈Cq) (ha:DA X ρ (e::es) ds) (hb':DE X ρ a d') (hS:S (ds++[d']) d) (hg:Gl X x) (hdb:(x==k8h)=a4)
  (hall:(b0 pos (aJ [⟨a3 "prices",a,pk⟩] X.env)).all (·.1.isSome)=a5) (hks:(b0 pos (aJ [⟨a3 "prices",a,pk⟩] X.env)).filterMap (·.1)=(["prices"]:List ah))
  (he:a8 (e::es) X.env=(a4,ay e X.env)::a8 es X.env) (hpl:((aM pos (a8 (e::es) X.env)).any (·.1) || (b0 pos (aJ [⟨a3 "prices",a,pk⟩] X.env)).any (·.1.isNone))=a4) :
  DE X ρ (.Call (.Name x p) (e::es) [⟨a3 "prices",a,pk⟩] pos) d:=λσ H Q R q=>by
 obtain⟨k,f,fd,ps,F,hr,hm,hk,hb,hd⟩:=c.ex;refine(j84 (E:=E0) F (hr.mono (Py _)) hg hm hk (hd hx).2 Fd paS (Vd peS jfc) hall hks hdb he hpl).to (ha σ H _ R λvs H1 g1 e1=>hb' σ H1 _ (R.grow g1) λu H2 g2 e2=>?_);show spP X.K S (vs++[u]) H2 Q E0;exact⟨owns ρ,ds++[d'],d,R.tb.mono (g1.trans g2),(R.grow (g1.trans g2)).owned,(e1.mono (je g2)).append (show j4 X.K _ [d'] [u] from⟨u,[],rfl,e2,rfl⟩),hS,λv H3 g3 z=>q v H3 ((g1.trans g2).trans g3) z⟩
theorem DG.three{i j k:Nat}{x y z:ah}{n:Nat}{q1:aK}{d d' d'':D}(hN:X.N.Nodup)(hi:X.N[i]?=a3 x)(hj:X.N[j]?=a3 y)(hk:X.N[k]?=a3 z)(hx:Loc X.env.scope x)(hy:Loc X.env.scope y)(hz:Loc X.env.scope z)
  (fx:X.fn x=a5\/X.env.scope.names.lookup x=a3 .local) (fy:X.fn y=a5\/X.env.scope.names.lookup y=a3 .local) (fz:X.fn z=a5\/X.env.scope.names.lookup z=a3 .local) (hc:X.calm=a5) :
  DG X ρ (.Tuple [.Name x p1,.Name y p2,.Name z p3] n q1) (.tup [d,d',d'']) (((ρ.set i (.val d)).set j (.val d')).set k (.val d'')):=by
 refine⟨λb hb=>(jf rfl).subset ((jf rfl).subset ((jf rfl).subset hb)),λσ H v Q R en q=>?_⟩;obtain⟨t,xs,ev,sq,u,r,e,eu,u',r',e',eu',u'',r'',e'',eu'',er⟩:=en;subst e e' e'' ev er;refine(j58 hc (Yn (Zv hN hi hx fx) (Yn (Zv hN hj hy fy) (Yn (Zv hN hk hz fz) j23 rfl) rfl) rfl) rfl rfl).to ⟨t,[u,u',u''],rfl,ju.seqT sq,rfl,u,[u',u''],rfl,u',[u''],rfl,u'',[],rfl,rfl,q _ ?_⟩;have R1:Rep X.K (ρ.set i (.val d)) (σ.set i (a3 u)) H:=R.set_val eu;have R2:Rep X.K ((ρ.set i (.val d)).set j (.val d')) ((σ.set i (a3 u)).set j (a3 u')) H:=R1.set_val (eu'.mono (vo λb hb=>(jf rfl).subset hb));exact R2.set_val (eu''.mono (vo λb hb=>(jf rfl).subset ((jf rfl).subset hb)))
end
section
variable{X:Cx}{ρ:Rho}{p1 p2 p3 p4 p5 p6 q1 pos:aK}
end
section
variable{X:Cx}{ρ:Rho}{p1 p2 p3 p4 p5 p6 q1 pos:aK}
end
noncomputable def ch1(c:Nat):ah:=⟨#[c]⟩
noncomputable def chs(y:ah):List D:=y.cps.toList.map λc=>D.str (ch1 c)
noncomputable def ascii(y:ah):Bool:=y.cps.all (· < 128)
noncomputable def Its(y:ah):It:=⟨λi _=>i<y.cps.size,λi H x H'=>H'=H/\∃c,y.cps[i]?=a3 c/\x=.str (ch1 c),λi _=>y.cps.size<=i⟩
theorem j7c {P:au} {w:az} {K:k8d} {tg:aj} (it:aa) (y:ah) (t:gL):Turn P w K tg (Its y) [it] it (λi h=>h.IsStrIter it "str_ascii_iterator" y t i) where
 mem:=by simp
 obj:=λi h st b hb=>by
  have e:b=it:=by simpa using hb
  subst e;obtain⟨o,e,c,d⟩:=st;exact⟨o,e,λv z=>by rw[d]at z;cases z⟩
 keep:=λi h h' st k=>let ⟨o,e,r⟩:=st;⟨o,k it (by simp) o e,r⟩
 item:=by intro X hP hw hK hc i pins s σ H E I hf st hg;subst hP hw hK;obtain⟨f0,f1,f2,f3,f4,f5⟩:=hf it (by simp);have W:=Walks.strAscii (prog:=X.prog) (w:=X.w) (I.ok.hd hc) it y t;refine W.item i s _ _ hg st λv h' tk hv st' kk=>?_;obtain⟨c,u,hcu,rfl⟩:=hv;have I1:Inv X pins σ H { s with heap:=h',toks:=tk }:=I.turned (λb o hb e=>kk b o (by simpa using hb) e) f0 f1 f3 f4 f5;obtain⟨o,e,oc,d⟩:=id st';exact⟨_,rfl,Im (s:={ s with heap:=h',toks:=tk }) e oc d (by decide) ⟨.str (ch1 c),H,I1,⟨u,rfl⟩,⟨rfl,c,hcu,rfl⟩,st',λb hb=>(hf b hb).1⟩⟩
 done:=by intro X hP hw hK hc i pins s σ H E I hf st hg;subst hP hw hK;obtain⟨f0,f1,f2,f3,f4,f5⟩:=hf it (by simp);exact wpAny_pyNext_ascii_end (I.ok.hd hc) st (by have:y.cps.size<=i:=hg;simp;omega) λh' eb=>⟨rfl,I.turned (t':=s.toks) (λb o hb e=>eb b o hb e) f0 f1 f3 f4 f5⟩
 self:=λ_ _ _ _ _ st h=>wpAny_pyIter_striter_ascii st h
section
variable{X:Cx}{ρ:Rho}{a b c e tg it:aj}{y z:ah}{i j k:Int}{p p2 pos:aK}
theorem j8h{K:k8d}{F:Hp}(y:ah):Yy K F (Its y) (chs y):=λi H A g hA=>by
 have hl:(chs y).length=y.cps.size:=by unfold chs;rw[kj,cK]
 rw[hl];refine⟨λh=>h,λh=>h,λx H' ⟨e,c,hc,ex⟩=>?_⟩;subst e ex;refine⟨j0.refl _,λd hd=>?_⟩;unfold chs at hd;rw[X3,gQ,hc]at hd;cases hd;rfl
theorem DI.str(h:DT X ρ it (.str y))(ha:ascii y=a5):DI X ρ tg it (chs y):=λσ H R r q pins s I=>by
 refine thn (h σ H (λv H1=>v=.str y/\j0 H H1) r (λv H1 g e=>⟨e,g⟩) pins s I) λv s1 ⟨x,H1,I1,r1,ex,g1⟩=>?_;subst ex;obtain⟨t,rfl⟩:=(show ∃t,v=bC y t from r1)
 refine wpAny_pyIter_ascii ha ?_;refine⟨s1.heap.objs.size,[s1.heap.objs.size],_,_,H1,rfl,I1.kept (t':=s1.toks) λb o e=>xj _ e,j7c _ y t,⟨_,X5 _ rfl,rfl,rfl⟩,λb hb=>?_,q _ H1 g1 (j8h y)⟩;have e:b=s1.heap.objs.size:=by simpa using hb
 subst e;exact I1.fpOk (xx _) (I1.hok.fresh (xx _))
noncomputable def inS(y z:ah):Bool:=!(fv z y 0 z.length 1).isEmpty
theorem Lx:OpR X (aN .Gt) (λx y H Q=>∃i j,x=.str i/\y=.str j/\Q (.bl (decide (j.cps.toList<i.cps.toList))) H):=by intro pins s σ H x y v u Q I rx ry h;obtain⟨i,j,rfl,rfl,q⟩:=h;obtain⟨t,rfl⟩:=rx;obtain⟨t',rfl⟩:=ry;exact P.gt_str (jw I q rfl)
theorem DE.ltS(ha:DT X ρ a (.str y))(hb:DT X ρ b (.str z)):DE X ρ (.Compare a [.Lt] [b] pos) (.bl (decide (y.cps.toList<z.cps.toList))):=λσ H Q R q =>(Jr Ls peS peS (zf _)).to (ha σ H _ R λv H1 g1 e1=>hb σ H1 _ (R.grow g1) λu H2 g2 e2=>⟨y,z,e1,e2,q _ H2 (g1.trans g2) rfl⟩)
theorem DB.ltS(ha:DT X ρ a (.str y))(hb:DT X ρ b (.str z)):DB X ρ (.Compare a [.Lt] [b] pos) (decide (y.cps.toList<z.cps.toList)):=λσ H Q R q =>(Qf Ls peS peS (zf _)).to (ha σ H _ R λv H1 g1 e1=>hb σ H1 _ (R.grow g1) λu H2 g2 e2=>⟨y,z,e1,e2,_,rfl,q H2 (g1.trans g2)⟩)
theorem DE.gtS(ha:DT X ρ a (.str y))(hb:DT X ρ b (.str z)):DE X ρ (.Compare a [.Gt] [b] pos) (.bl (decide (z.cps.toList<y.cps.toList))):=λσ H Q R q =>(Jr Lx peS peS (zf _)).to (ha σ H _ R λv H1 g1 e1=>hb σ H1 _ (R.grow g1) λu H2 g2 e2=>⟨y,z,e1,e2,q _ H2 (g1.trans g2) rfl⟩)
theorem DB.gtS(ha:DT X ρ a (.str y))(hb:DT X ρ b (.str z)):DB X ρ (.Compare a [.Gt] [b] pos) (decide (z.cps.toList<y.cps.toList)):=λσ H Q R q =>(Qf Lx peS peS (zf _)).to (ha σ H _ R λv H1 g1 e1=>hb σ H1 _ (R.grow g1) λu H2 g2 e2=>⟨y,z,e1,e2,_,rfl,q H2 (g1.trans g2)⟩)
theorem DE.inS(ha:DT X ρ a (.str y))(hb:DT X ρ b (.str z))(hm:aG .In b=a4):DE X ρ (.Compare a [.In] [b] pos) (.bl (inS y z)):=λσ H Q R q =>(Jr Lw peS peS hm).to (ha σ H _ R λv H1 g1 e1=>hb σ H1 _ (R.grow g1) λu H2 g2 e2=>⟨y,z,e1,e2,q _ H2 (g1.trans g2) rfl⟩)
theorem DB.inS(ha:DT X ρ a (.str y))(hb:DT X ρ b (.str z))(hm:aG .In b=a4):DB X ρ (.Compare a [.In] [b] pos) (inS y z):=λσ H Q R q =>(Qf Lw peS peS hm).to (ha σ H _ R λv H1 g1 e1=>hb σ H1 _ (R.grow g1) λu H2 g2 e2=>⟨y,z,e1,e2,_,rfl,q H2 (g1.trans g2)⟩)
theorem mulOk_of(h1:1<=k/\k<=1000)(h2:y.length<=1000):MulOk y k:=by
 refine⟨?_,λ_ _=>?_,λ_ _=>?_⟩
 .simp;omega
 .have:(1000:Int)<=(2^63-1)/k:=Int.le_ediv_of_mul_le nofun nofun
  omega
 .have hk:k.toNat<=1000:=by omega
  have:y.length*k.toNat<=1000000:=Nat.mul_le_mul h2 hk;unfold cA;rw[jJ];simp;omega
theorem j3f:OpR X (aZ .Mult) (λx y H Q=>∃i k,x=.str i/\y=.int k/\MulOk i k/\Q (.str (iQ i k)) H):=by intro pins s σ H x y v u Q I rx ry h;obtain⟨i,k,rfl,rfl,hm,q⟩:=h;obtain⟨t,rfl⟩:=rx;obtain⟨t',rfl⟩:=ry;exact SB.mul hm λt' tk=>⟨.str _,H,I.un (t':=tk) Un.refl I.hok,⟨_,rfl⟩,q⟩
theorem DE.mulS(ha:DT X ρ a (.str y))(hb:DT X ρ b (.int k))(h1:1<=k/\k<=1000)(h2:y.length<=1000):DE X ρ (.BinOp a .Mult b pos) (.str (iQ y k)):=λσ H Q R q =>(U7 j3f peS peS).to (ha σ H _ R λv H1 g1 e1=>hb σ H1 _ (R.grow g1) λu H2 g2 e2=>⟨y,k,e1,e2,mulOk_of h1 h2,q _ H2 (g1.trans g2) rfl⟩)
theorem DE.chn(ha:DT X ρ a (.int i))(hb:DT X ρ b (.int j))(hc:DT X ρ c (.int k))(hm:kU [.Lt,.Lt] [b,c]=a4):DE X ρ (.Compare a [.Lt,.Lt] [b,c] pos) (.bl (decide (i<j)&&decide (j<k))):=λσ H Q R q =>
 (j83 Ij Ij peS peS peS hm).to (ha σ H _ R λv H1 g1 e1=>hb σ H1 _ (R.grow g1) λu H2 g2 e2=>⟨i,j,e1,e2,_,rfl,by
  by_cases h:i<j
  .rw[decide_eq_true h,if_pos rfl]
   exact hc σ H2 _ (R.grow (g1.trans g2)) λw H3 g3 e3=>⟨j,k,e2,e3,q _ H3 ((g1.trans g2).trans g3) (by rw[decide_eq_true h,dk];rfl)⟩
  .rw[decide_eq_false h,if_neg xf]
   exact q _ H2 (g1.trans g2) (by rw[decide_eq_false h,fY];rfl)⟩)
end
section
variable{X:Cx}{pins:k8f}{σ:St}{H:Hp}{l S I:aa}{xs:List V}{R:eX->af->Prop}{dv:a9}
end
section
variable{X:Cx}{ρ:Rho}{a b c:aj}{ns:List Int}{i j k:Int}{n:Nat}{p p1 pk pos:aK}
end
section
variable{X:Cx}{ρ ρ1 ρ':Rho}{e c:aj}{ss sa sb:List aQ}{is is2:List Nat}{d:D}{i:Nat}{x:ah}{p pos:aK}
def DMs(X:Cx)(ρ ρ':Rho)(is:List Nat)(ss:List aQ):Prop:=∀(σ:St)(H:Hp)(E:Ends),Rep X.K ρ σ H->(∀σ' H',j0 H H'->Rep X.K ρ' σ' H'->(∀j,j∉is->σ'[j]?=σ[j]?)->E.nx σ' H')->Zh X ss E σ H
theorem DMs.nil:DMs X ρ ρ [] []:=λσ H E R k=>j20.to (k σ H (j0.refl _) R λ_ _=>rfl)
theorem DMs.set(he:DE X ρ e d)(hr:DMs X (ρ.set i (.val d)) ρ' is ss)(hN:X.N.Nodup)(hi:X.N[i]?=a3 x)(hx:Loc X.env.scope x)(hs:aE e (a3 (.Name x p)) pos.line X.env=pure a4)(hf:X.fn x=a5\/X.env.scope.names.lookup x=a3 .local) :
  DMs X ρ ρ' (i::is) (.Assign [.Name x p] e pos::ss):=λσ H E R k =>
 (zu psS J7).to ((Zf hN hi hx peS hs hf).to (he σ H _ R λv H1 g1 e1=>hr _ H1 E ((R.grow g1).set_val e1) λσ' H' g R' fr=>k σ' H' (g1.trans g) R' λj hj=>by
  rw[fr j λz=>hj (xg _ z),qy λz=>hj (by rw[z];exact xm)]))
theorem DMs.ifT(hc:DB X ρ c a5)(h1:DMs X ρ ρ1 is sa)(h2:DMs X ρ1 ρ' is2 ss):DMs X ρ ρ' (is++is2) (.If c sa sb pos::ss):=λσ H E R k =>
 (zu psS J7).to ((Ny ptS J7 J7).to (hc σ H _ R λH1 g1=>Bm (h1 σ H1 { E with nx:=Zh X ss E } (R.grow g1) λσ1 H2 g2 R2 f2=>h2 σ1 H2 E R2 λσ' H' g3 R' f3=>k σ' H' (g1.trans (g2.trans g3)) R' λj hj=>by
  rw[f3 j λz=>hj (Xe _ z),f2 j λz=>hj (Pn _ z)])))
theorem DMs.ifF(hc:DB X ρ c a4)(h1:DMs X ρ ρ1 is sb)(h2:DMs X ρ1 ρ' is2 ss):DMs X ρ ρ' (is++is2) (.If c sa sb pos::ss):=λσ H E R k =>
 (zu psS J7).to ((Ny ptS J7 J7).to (hc σ H _ R λH1 g1=>Bo (h1 σ H1 { E with nx:=Zh X ss E } (R.grow g1) λσ1 H2 g2 R2 f2=>h2 σ1 H2 E R2 λσ' H' g3 R' f3=>k σ' H' (g1.trans (g2.trans g3)) R' λj hj=>by
  rw[f3 j λz=>hj (Xe _ z),f2 j λz=>hj (Pn _ z)])))
def DMt(X:Cx)(ρ ρ':Rho)(is:List Nat)(full tl:List aQ):Prop:=∀(σ:St)(H:Hp)(E:Ends),Rep X.K ρ σ H->(∀σ' H',j0 H H'->Rep X.K ρ' σ' H'->(∀j,j∉is->σ'[j]?=σ[j]?)->Zh X tl E σ' H')->Zh X full E σ H
variable{tl:List aQ}
theorem DMt.nil:DMt X ρ ρ [] tl tl:=λσ H E R k=>k σ H (j0.refl _) R λ_ _=>rfl
theorem DMt.set(he:DE X ρ e d)(hr:DMt X (ρ.set i (.val d)) ρ' is ss tl)(hN:X.N.Nodup)(hi:X.N[i]?=a3 x)(hx:Loc X.env.scope x)(hs:aE e (a3 (.Name x p)) pos.line X.env=pure a4)(hf:X.fn x=a5\/X.env.scope.names.lookup x=a3 .local) :
  DMt X ρ ρ' (i::is) (.Assign [.Name x p] e pos::ss) tl:=λσ H E R k =>
 (zu psS J7).to ((Zf hN hi hx peS hs hf).to (he σ H _ R λv H1 g1 e1=>hr _ H1 E ((R.grow g1).set_val e1) λσ' H' g R' fr=>k σ' H' (g1.trans g) R' λj hj=>by
  rw[fr j λz=>hj (xg _ z),qy λz=>hj (by rw[z];exact xm)]))
theorem DMt.ifT(hc:DB X ρ c a5)(h1:DMs X ρ ρ1 is sa)(h2:DMt X ρ1 ρ' is2 ss tl):DMt X ρ ρ' (is++is2) (.If c sa sb pos::ss) tl:=λσ H E R k =>
 (zu psS J7).to ((Ny ptS J7 J7).to (hc σ H _ R λH1 g1=>Bm (h1 σ H1 { E with nx:=Zh X ss E } (R.grow g1) λσ1 H2 g2 R2 f2=>h2 σ1 H2 E R2 λσ' H' g3 R' f3=>k σ' H' (g1.trans (g2.trans g3)) R' λj hj=>by
  rw[f3 j λz=>hj (Xe _ z),f2 j λz=>hj (Pn _ z)])))
theorem DMt.ifF(hc:DB X ρ c a4)(h1:DMs X ρ ρ1 is sb)(h2:DMt X ρ1 ρ' is2 ss tl):DMt X ρ ρ' (is++is2) (.If c sa sb pos::ss) tl:=λσ H E R k =>
 (zu psS J7).to ((Ny ptS J7 J7).to (hc σ H _ R λH1 g1=>Bo (h1 σ H1 { E with nx:=Zh X ss E } (R.grow g1) λσ1 H2 g2 R2 f2=>h2 σ1 H2 E R2 λσ' H' g3 R' f3=>k σ' H' (g1.trans (g2.trans g3)) R' λj hj=>by
  rw[f3 j λz=>hj (Xe _ z),f2 j λz=>hj (Pn _ z)])))
theorem Bg:∀{ρ:Rho},(∀(j:Nat)(s:Sl),ρ[j]?=a3 s->s=.un\/∃d,s=.val d)->owns ρ=[]
 |[],_=>rfl
 |s::r,h=>by have h0:=h 0 s rfl;have hr:=Bg (ρ:=r) λj t ht=>h (j+1) t (by simpa using ht);rw[jo,hr];rcases h0 with z|⟨d,z⟩<;>subst z<;>rfl
theorem DSs.lent{P:Po}{h:Nat}{nh:ah}{ea eb:aj}{d0:D}{lb:List D}{ρm ρf:Rho}{ms rest:List aQ}{p1 p2 p3 r1 r2 r3 r4 r5 r6:aK}{n1:Nat}(hh:h<ρ.length)(nh':h∉is)(hN:X.N.Nodup)(iH:X.N[h]?=a3 nh)(lH:Loc X.env.scope nh)(vH:Vis X.env.scope nh)
  (fH:X.fn nh=a5\/X.env.scope.names.lookup nh=a3 .local) (dH:(nh==k8h)=a4) (cH:(nh==k8i)=a4)
  (s1:aE (.List [ea,eb] p2) (a3 (.Name nh p1)) p3.line X.env=pure a4) (hst:a8 [ea,eb] X.env=(a4,ay ea X.env)::a8 [eb] X.env) (hst2:a8 [eb] X.env=(a4,ay eb X.env)::a8 [] X.env)
  (s5:aE (.Call (.Attribute (.Subscript (.Name nh r1) (.Constant (.int 1) n1 r2) r3) "reverse" r4) [] [] r5) a6 r6.line X.env=pure a4)
  (b5:aP (.Subscript (.Name nh r1) (.Constant (.int 1) n1 r2) r3) "reverse" X.env (ay (.Subscript (.Name nh r1) (.Constant (.int 1) n1 r2) r3) X.env)=ay (.Subscript (.Name nh r1) (.Constant (.int 1) n1 r2) r3) X.env) (l5:(r4.endLine==r5.line)=a5)
  (hi1:Zw (.Constant (.int 1) n1 r2)) (oa:DE X ρ ea d0) (ob:DO X ρ eb lb)
  (hm:DMt X (ρ.set h (.val (.lst [d0,.lst lb]))) ρm is ms (.Expr (.Call (.Attribute (.Subscript (.Name nh r1) (.Constant (.int 1) n1 r2) r3) "reverse" r4) [] [] r5) r6::rest))
  (hl:ρf.length=ρ.length) (hml:ρm.length=ρ.length) (hmn:∀(j:Nat)(s:Sl),ρm[j]?=a3 s->s=.un\/∃d,s=.val d) (hF:∀(j:Nat)(s:Sl),ρf[j]?=a3 s->s=.un\/∃d,s=.val d/\((j∈is/\ρm[j]?=a3 (.val d)/\vd d=a5)\/(j∉is/\j≠h/\ρ[j]?=a3 (.val d))))
  (hr:DSs X ρf rest P):DSs X ρ (.Assign [.Name nh p1] (.List [ea,eb] p2) p3::ms) P:=λσ H E R ends=>by
 refine(zu psS J7).to ((Zf hN iH lH peS s1 fH).to ((j5d (jd peS (jd peS jz hst2) hst)).to (oa σ H _ R λv0 H1 g1 en0=>ob σ H1 _ (R.grow g1) λa1 xs1 H2 g2 f1 m1 en1=>⟨by show(2:Nat)<=ak;decide,λl hl'=>?_⟩)));have g3:j0 H2 (upd H2 l (.lst [v0,.ref a1])):=j7 hl';have G3:j0 H (upd H2 l (.lst [v0,.ref a1])):=(g1.trans g2).trans g3;have fl:H l=a6:=(g1.trans g2).free hl';have fa1:H a1=a6:=g1.free f1;have n1o:a1∉owns ρ:=R.fresh fa1;have nlo:l∉owns ρ:=R.fresh fl;have e1:upd H2 l (.lst [v0,.ref a1]) a1=a3 (.lst xs1):=g3 _ _ m1;have el:upd H2 l (.lst [v0,.ref a1]) l=a3 (.lst [v0,.ref a1]):=j9;have w0:Enc X.K (del (upd H2 l (.lst [v0,.ref a1])) (owns ρ)) d0 v0:=en0.mono (je (g2.trans g3));have w1:j4 X.K (del (upd H2 l (.lst [v0,.ref a1])) (owns ρ)) lb xs1:=en1.mono λb o z=>by obtain⟨nb,z⟩:=of_del z;rw[j5 λy=>nb (xg _ y)];exact g3 b o z
 have a1l:a1≠l:=λz=>by rw[<-z,m1]at hl';cases hl'
 generalize upd H2 l (.lst [v0,.ref a1])=H3 at *;have enc:Enc X.K (del H3 (owns ρ)) (.lst [d0,.lst lb]) (.ref l):=⟨l,[v0,.ref a1],rfl,.inl (.inl (by rw[j5 nlo];exact el)),v0,[.ref a1],rfl,w0,.ref a1,[],rfl,⟨a1,xs1,rfl,.inl (.inl (by rw[j5 n1o];exact e1)),w1⟩,rfl⟩
 have R3:=(R.grow G3).set_val (i:=h) enc;refine hm _ H3 E R3 λσ' H5 g35 Rm fr=>?_;have hσ:σ'[h]?=a3 (a3 (.ref l)):=by rw[fr h nh'];exact Vv (by rw[R.len];exact hh)
 have m5l:=g35 _ _ el;have m51:=g35 _ _ e1;refine(zu psS J7).to ((Uz (jfg bV gK PySem.F.type_list_reverse j3j (Ms j2c (J8 iH vH dH cH) j5f hi1) b5 l5) s5).to ?_);refine⟨_,hσ,l,[v0,.ref a1],1,.ref a1,rfl,rfl,.inl (.inl m5l),rfl,.inl ⟨rfl,xs1,.inl (.inl m51)⟩,a1,xs1,rfl,rfl,m51,?_⟩;have k7:∀b,b≠a1->upd H5 a1 (.lst xs1.reverse) b=H5 b:=λb z1=>by rw[jg z1]
 generalize upd H5 a1 (.lst xs1.reverse)=H7 at *;have G7:j0 H H7:=λb o z=>by rw[k7 b (λy=>by rw[y,fa1]at z;cases z)];exact(G3.trans g35) b o z
 have on:owns ρf=[]:=Bg λj s hj=>(hF j s hj).elim .inl λ⟨d,e,_⟩=>.inr ⟨d,e⟩;have Rf:Rep X.K ρf σ' H7:=by
  refine⟨by rw[Rm.len,hl,hml],λj d hj=>?_,λj a ds hj=>?_,by rw[on];exact cU,λj a o x hj=>?_,(R.grow G7).tb⟩
  .rcases hF j _ hj with z|⟨d',e,z⟩
   .cases z
   .cases e;rw[on];rcases z with ⟨j1,j2,j3⟩|⟨j1,j2,j3⟩
    .obtain⟨v,q1,q2⟩:=Rm.val j d j2;refine⟨v,q1,?_⟩;have z1:=Enc.hide (A:=[a1]) (λc hc=>by
      rw[xn.mp hc,Bg hmn,j5 (by simp)]
      exact .inl ⟨_,m51⟩) j3 q2
     exact z1.mono λb o z=>by obtain⟨nb,z⟩:=of_del z;obtain⟨_,z⟩:=of_del z;rw[j5 (by simp),k7 b (λy=>nb (by rw[y];exact xm))];exact z
    .obtain⟨v,q1,q2⟩:=R.val j d j3;refine⟨v,by rw[fr j j1,qy (c7 j2)];exact q1,q2.mono λb o z=>?_⟩;obtain⟨_,z⟩:=of_del z;rw[j5 (by simp)];exact G7 b o z
  .rcases hF j _ hj with z|⟨d',e,z⟩
   .cases z
   .cases e
  .rcases hF j _ hj with z|⟨d',e,z⟩
   .cases z
   .cases e
 exact hr _ H7 E Rf (ends.step λb o z=>by
  obtain⟨_,z⟩:=of_del z
  rw[on,j5 (by simp)]
  exact G7 b o z)
end
end L2
end
section
namespace L2
noncomputable def Z7(t:Int):List Int:=if t=2 then[0,1] else[t]
noncomputable def step(acc:List (List Int))(f:List Int):List (List Int):=acc.flatMap λa=>f.map λx=>a++[x]
noncomputable def ql(fs:List (List Int)):List (List Int):=fs.foldl step [[]]
noncomputable def J9:List (List Int)->List (List Int)
 |[]=>[[]]
 |f::fs=>f.flatMap λx=>(J9 fs).map (x :: ·)
theorem Fv:∀(fs:List (List Int)) (acc:List (List Int)),fs.foldl step acc=acc.flatMap λa=>(J9 fs).map (a ++ ·)
 |[],acc=>by simp[J9]
 |f::fs,acc=>by
  rw[Th,Fv fs,step,List.flatMap_assoc];congr 1
  funext a
  rw[J9,List.map_flatMap,List.flatMap_map];congr 1
  funext x
  rw[Xc];congr 1
  funext r
  simp
theorem Ji(fs:List (List Int)):ql fs=J9 fs:=by rw[ql,Fv];simp
noncomputable def Vl:Nat->List (List Int)
 |0=>[[]]
 |m+1=>(Vl m).map (0 :: ·)++(Vl m).map (1 :: ·)
theorem Ew:∀m,(Vl m).length=2^m
 |0=>rfl
 |m+1=>by rw[Vl,Xb,kj,kj,Ew m,Tj];omega
theorem Wm{b:Int}(hb:0<b)(n c:Int):∀{i m:Nat},i<=m->j6 b i (n+b^m*c)=j6 b i n
 |0,m,_=>rfl
 |i+1,m,h=>by
  rw[j6,j6,Wm hb n c nofun];congr 1;obtain⟨k,rfl⟩:∃k,m=i+(k+1):=⟨m-i-1,by omega⟩
  have hp:b^i≠0:=fq (bO hb);rw[Int.pow_add,kE,cD _ _ hp,i8,dM (b^k) b,kE,Int.add_mul_emod_self_left]
theorem Ey:∀m:Nat,(aw (2^m)).map (λn=>j6 2 m ((n:Nat):Int))=Vl m
 |0=>rfl
 |m+1=>by
  have e:2^(m+1)=2^m+2^m:=by rw[Tj];omega
  rw[e,fX,Xf,Vl,<-Ey m,Xc,Xc,Xc];have pc:((2^m:Nat):Int)=(2:Int)^m:=by simp
  congr 1
  .apply tu;intro n hn;have hn':n<2^m:=Xd.mp hn;show j6 2 (m+1) (n:Int)=0::j6 2 m (n:Int);rw[j6];congr 1;have h0:(n:Int)/2^m=0:=Tc nofun (by rw[<-pc];omega)
   rw[h0];rfl
  .apply tu;intro n hn;have hn':n<2^m:=Xd.mp hn;show j6 2 (m+1) ((2^m+n:Nat):Int)=1::j6 2 m (n:Int);have e1:((2^m+n:Nat):Int)=(n:Int)+2^m*1:=by rw[cO,pc,lN,i9]
   rw[e1,j6,Wm (by decide) _ _ (xx m)];congr 1;have hp:(2:Int)^m≠0:=fq (bO (by decide));have h0:(n:Int)/2^m=0:=Tc nofun (by rw[<-pc];omega)
   rw[cD _ _ hp,h0];rfl
noncomputable def fits:List Int->List Int->Bool
 |t::ts,x::xs=>(t==2 || t==x)&&fits ts xs
 |_,_=>a5
theorem Rw:∀{p:List Int},(∀t∈p,0<=t/\t<3)->(Vl p.length).filter (fits p)=J9 (p.map Z7)
 |[],_=>rfl
 |t::ts,h=>by
  have ih:=Rw (p:=ts) λu hu=>h u (xg _ hu);rw[X8,Vl,bZ,xr,J9,<-ih];have key:∀x:Int,((Vl ts.length).map (x :: ·)).filter (fits (t::ts))=if (t==2 || t==x)=a5 then((Vl ts.length).filter (fits ts)).map (x :: ·) else[]:=λx=>by
   rw[jT];by_cases c:(t==2 || t==x)=a5
   .rw[if_pos c];congr 1;apply List.filter_congr;intro r _;show((t==2 || t==x)&&fits ts r)=fits ts r;rw[c,dk]
   .rw[if_neg c];have:(fits (t::ts) ∘ λr=>x::r)=λ_=>a4:=by
     funext r
     show((t==2 || t==x)&&fits ts r)=a4;rw[Bool.eq_false_iff.mpr c,fY]
    rw[this];simp
  rw[key 0,key 1];have ht:=h t (xm ..);have:t=0\/t=1\/t=2:=by omega
  rcases this with e|e|e<;>subst e<;>simp[Z7]
theorem Yl:∀p:List Int,(J9 (p.map Z7)).length=2^(p.countP λt=>t==2)
 |[]=>rfl
 |t::ts=>by
  have ih:=Yl ts;rw[xr,J9,Pq];by_cases c:t=2
  .subst c;simp[Z7,ih,Tj];omega
  .have e1:Z7 t=[t]:=if_neg c;have e2:(t==2)=a4:=by simpa using c
   rw[e1,e2];simp[ih]
end L2
end
section
namespace L2
open PySem
inductive Sv where
 |un
 |val (d:D)
 |own (l:List D)
 |exc (x:ah)
noncomputable abbrev En:=List Sv
set_option genInjectivity true in
inductive Rk where
 |e (d:D)
 |o (l:List D)
 |w (l:List D)
 |t (d:D)
noncomputable def Rk.d:Rk->D
 |.e d=>d
 |.o l=>.lst l
 |.w l=>.lst l
 |.t d=>d
noncomputable def Rk.st:Rk->Option D
 |.e d=>a3 d
 |.o l=>a3 (.lst l)
 |.w l=>a6
 |.t d=>if vd d=a5 then a3 d else a6
noncomputable def Rk.sq:Rk->Option (Bool×List D)
 |.e (.lst l)=>a3 (a5,l)
 |.e (.tup l)=>a3 (a4,l)
 |.o l=>a3 (a5,l)
 |.w l=>a3 (a5,l)
 |_=>a6
noncomputable def Rk.lw:Rk->Option (List D)
 |.o l=>a3 l
 |.w l=>a3 l
 |_=>a6
inductive Rc where
 |val (d:D)
 |fresh (l:List D)
 |err (x:ah)
 |lval (d:D)
 |no
noncomputable def Rc.rk:Rc->Option Rk
 |.val d=>a3 (.e d)
 |.fresh l=>a3 (.o l)
 |_=>a6
inductive Bop where
 |add|sub|mul|fdiv|mod|pow|shl|shr|band|bxor
inductive Cop where
 |lt|le|gt|ge|eq|ne|isin|notin
inductive Bf where
 |len|min|max|all|tuple|list|sum|int|any|sorted
inductive Mf where
 |count
inductive Ex where
 |lit (d:D)
 |var (i:Nat)
 |glob (x:ah)
 |bin (op:Bop) (a b:Ex)
 |cmp (op:Cop) (a b:Ex)
 |isN (a:Ex)
 |and (a b:Ex)
 |or (a b:Ex)
 |not (a:Ex)
 |ite (c a b:Ex)
 |nil
 |cons (a b:Ex)
 |tup (es:Ex)
 |lst (es:Ex)
 |ix (a b:Ex)
 |sl (a lo hi:Ex)
 |call (f:ah) (es:Ex)
 |blt (f:Bf) (es:Ex)
 |meth (m:Mf) (a es:Ex)
 |isi (a:Ex) (ts:List String)
 |comp (is:List Nat) (elt it cond:Ex)
 |seq (a:Ex)
 |range (es:Ex)
 |join (sep:ah) (a:Ex)
 |enum (a:Ex)
 |lset (a:Ex)
 |lrng (a:Ex)
 |dzip (a b:Ex)
 |callD (f:ah) (es:Ex)
 |chn (a b c:Ex)
 |che (a b c:Ex)
 |maxD (a:Ex)
 |callK (f:ah) (es a:Ex)
 |dix (a b:Ex)
 |dnil
 |rpr (a:Ex)
 |upr (a:Ex)
 |din (a b:Ex)
 |items (a:Ex)
 |callV (i:Nat) (es:Ex)
 |dget (a b:Ex)
 |dvals (a:Ex)
 |minT (a:Ex)
set_option genInjectivity true in
inductive W where
 |v (r:Rk)
 |a (rs:List Rk)
 |i (ds:List D)
noncomputable def jr(n:Nat):Bool:=decide (n<=ak)
noncomputable def binI:Bop->Int->Int->Option Int
 |.add,i,j=>a3 (i+j)
 |.sub,i,j=>a3 (i-j)
 |.mul,i,j=>if (-(2^64)<i/\i<2^64)\/(-(2^64)<j/\j<2^64)then a3 (i*j)else a6
 |.fdiv,i,j=>if 0<j/\j<18446744073709551616 then a3 (i/j)else a6
 |.mod,i,j=>if 0<j then a3 (i%j)else a6
 |.pow,i,j=>if 0<=j/\j<=1000000/\i.natAbs<2^64 then a3 (i^j.toNat)else a6
 |.shl,i,j=>if 0<=j/\j<=1000000/\i.natAbs<2^64 then a3 (i*2^j.toNat)else a6
 |.shr,i,j=>if 0<=j then a3 (i/2^j.toNat)else a6
 |.band,i,j=>a3 (Builtin.bitAnd i j)
 |.bxor,i,j=>a3 (Builtin.bitXor i j)
noncomputable def Ur(op:Bop)(a b:Rk):Option Rk :=
 match a.d,b.d with
 |.int i,.int j=>(binI op i j).map λk=>.e (.int k)
 |.str y,.str z=>match op with
  |.add=>if jr (y.length+z.length)=a5 then a3 (.e (.str (y++z)))else a6
  |_=>a6
 |.str y,.int k=>match op with
  |.mul=>if (1<=k/\k<=1000)/\y.length<=1000 then a3 (.e (.str (iQ y k)))else a6
  |_=>a6
 |_,_=>match op,a.sq,b.sq,b.d with
  |.add,a3 (a5,l),a3 (a5,m),_=>if jr (l.length+m.length)=a5 then a3 (.o (l++m))else a6
  |.add,a3 (a4,l),a3 (a4,m),_=>if jr (l.length+m.length)=a5 then a3 (.e (.tup (l++m)))else a6
  |.mul,a3 (a4,l),_,.int k=>if 1<=k/\k<2^63/\l.isEmpty=a4/\jr (l.length*k.toNat)=a5 then a3 (.e (.tup (ae k.toNat l).flatten))else a6
  |.mul,_,_,.int k=>match a.lw with
   |some l=>if -(2^63)<=k/\k<2^63/\jr (l.length*k.toNat)=a5 then a3 (.o (ae k.toNat l).flatten)else a6
   |none=>a6
  |_,_,_,_=>a6
noncomputable def cmpI:Cop->Int->Int->Option Bool
 |.lt,i,j=>a3 (decide (i<j))
 |.le,i,j=>a3 (decide (i<=j))
 |.gt,i,j=>a3 (decide (j<i))
 |.ge,i,j=>a3 (decide (j<=i))
 |.eq,i,j=>a3 (decide (i=j))
 |.ne,i,j=>a3 (!decide (i=j))
 |_,_,_=>a6
noncomputable def D.sqv:D->Option (Bool×List D)
 |.lst l=>a3 (a5,l)
 |.tup l=>a3 (a4,l)
 |_=>a6
noncomputable def Za(op:Cop)(a b:D):Option Bool :=
 match op,a,b with
 |op,.int i,.int j=>cmpI op i j
 |.eq,a,b=>if a.dep<=90/\b.dep<=90 then a3 (deq a b)else a6
 |.ne,.bl a,.bl b=>a3 (a != b)
 |.ne,.str a,.str b=>a3 (!decide (a=b))
 |.ne,.non,.non=>a3 a4
 |.ne,.lst l,.lst m=>if D.depL l<=90/\D.depL m<=90 then a3 (!zy l m)else a6
 |.ne,.tup l,.tup m=>if D.depL l<=90/\D.depL m<=90 then a3 (!zy l m)else a6
 |.isin,.str a,.str b=>a3 (inS a b)
 |.lt,.str a,.str b=>a3 (decide (a.cps.toList<b.cps.toList))
 |.gt,.str a,.str b=>a3 (decide (b.cps.toList<a.cps.toList))
 |.isin,a,b=>match b.sqv with
  |some (_,l)=>if D.depL l<=90/\a.dep<=90 then a3 (l.any λe=>deq e a)else a6
  |none=>a6
 |.notin,a,b=>match b.sqv with
  |some (_,l)=>if D.depL l<=90/\a.dep<=90 then a3 (!l.any λe=>deq e a)else a6
  |none=>a6
 |_,_,_=>a6
noncomputable def boolsOf:List D->Option (List Bool)
 |[]=>a3 []
 |.bl b::r=>(boolsOf r).map (b :: ·)
 |_::_=>a6
noncomputable def intsOf:List D->Option (List Int)
 |[]=>a3 []
 |.int b::r=>(intsOf r).map (b :: ·)
 |_::_=>a6
noncomputable def strsOf:List D->Option (List ah)
 |[]=>a3 []
 |.str b::r=>(strsOf r).map (b :: ·)
 |_::_=>a6
noncomputable def Zb:Bf->List Rk->Option Rk
 |.len,[a]=>match a.d with
  |.lst l=>a3 (.e (.int l.length))
  |.tup l=>a3 (.e (.int l.length))
  |.str y=>if jr y.length=a5 then a3 (.e (.int y.length))else a6
  |_=>a6
 |.min,[a,b]=>match a.d,b.d with
  |.int i,.int j=>a3 (.e (.int (if j<i then j else i)))
  |_,_=>a6
 |.max,[a,b]=>match a.d,b.d with
  |.int i,.int j=>a3 (.e (.int (if j>i then j else i)))
  |_,_=>a6
 |.max,[a]=>match a.d with
  |.lst l=>match intsOf l with
   |some ns=>if ns.isEmpty=a4 then a3 (.e (.int (Wa ns)))else a6
   |none=>a6
  |_=>a6
 |.min,[a]=>match a.d with
  |.lst l=>match intsOf l with
   |some ns=>if ns.isEmpty=a4 then a3 (.e (.int (Qn ns)))else a6
   |none=>a6
  |_=>a6
 |.all,[a]=>match a.d with
  |.lst l=>(boolsOf l).map λbs=>.e (.bl (bs.all id))
  |_=>a6
 |.any,[a]=>match a.d with
  |.lst l=>(boolsOf l).map λbs=>.e (.bl (bs.any id))
  |_=>a6
 |.tuple,[a]=>match a.sq with
  |some (_,l)=>a3 (.e (.tup l))
  |none=>a6
 |.list,[a]=>match a.sq with
  |some (_,l)=>a3 (.o l)
  |none=>a6
 |.sum,[a]=>match a.d with
  |.lst l=>(intsOf l).map λns=>.e (.int ns.sum)
  |.tup l=>(intsOf l).map λns=>.e (.int ns.sum)
  |_=>a6
 |.int,[a]=>match a.d with
  |.bl k=>a3 (.e (.int (if k then 1 else 0)))
  |_=>a6
 |_,_=>a6
noncomputable def j3l:Mf->Rk->List Rk->Option Rk
 |.count,a,[b]=>match a.d with
  |.tup l=>if D.depL l<=90/\b.d.dep<=90 then a3 (.e (.int (l.countP λe=>deq e b.d)))else a6
  |.lst l=>if D.depL l<=90/\b.d.dep<=90 then a3 (.e (.int (l.countP λe=>deq e b.d)))else a6
  |_=>a6
 |_,_,_=>a6
noncomputable def za(t c:String):Option Bool :=
 if t = "function" then a6 else
 if c = "int" then a3 (t == "int" || t == "bool") else
 if c = "bool" then a3 (t == "bool") else
 if c = "str" then a3 (t == "str") else
 if c = "list" then a3 (t == "list") else
 if c = "tuple" then a3 (t == "tuple")else a6
noncomputable def qb(d:D):List String->Option Bool
 |[]=>a3 a4
 |c::cs=>match za d.ty c,qb d cs with
  |some a,a3 b=>a3 (a || b)
  |_,_=>a6
noncomputable def qz:List Nat->D->En->Option En
 |[i],d,ρ=>a3 (ρ.set i (.val d))
 |[i,j],d,ρ=>match d with
  |.tup [a,b]=>a3 ((ρ.set i (.val a)).set j (.val b))
  |_=>a6
 |[i,j,k],d,ρ=>match d with
  |.tup [a,.tup [b,c]]=>a3 (((ρ.set i (.val a)).set j (.val b)).set k (.val c))
  |_=>a6
 |[i,j,k,_],d,ρ=>match d with
  |.tup [a,b,c]=>a3 (((ρ.set i (.val a)).set j (.val b)).set k (.val c))
  |_=>a6
 |_,_,_=>a6
noncomputable def Io(is:List Nat)(ρ:En):Bool:=is.all λi=>match ρ[i]? with
 |some .un=>a5
 |_=>a4
noncomputable def J1(f:D->Option (Option D)):List D->Option (List D)
 |[]=>a3 []
 |d::ds=>match f d,J1 f ds with
  |some (a3 x),a3 xs=>a3 (x::xs)
  |some a6,a3 xs=>a3 xs
  |_,_=>a6
noncomputable def zm:List Rk->Option (List D)
 |[]=>a3 []
 |r::rs=>match r.st,zm rs with
  |some d,a3 ds=>a3 (d::ds)
  |_,_=>a6
noncomputable def W.one:W->Option Rk
 |.v r=>a3 r
 |_=>a6
noncomputable def W.args:W->Option (List Rk)
 |.a rs=>a3 rs
 |_=>a6
noncomputable def W.it:W->Option (List D)
 |.i ds=>a3 ds
 |_=>a6
noncomputable def Qv:Option W->Option (Option Int)
 |some (.a [])=>a3 a6
 |some (.a [r])=>match r.d with
  |.int i=>a3 (a3 i)
  |_=>a6
 |_=>a6
noncomputable def truth:Option W->Option Bool
 |some (.v r)=>match r.d with
  |.bl k=>a3 k
  |_=>a6
 |_=>a6
noncomputable def j91:Ex->Option Nat
 |.seq (.var i)=>a3 i
 |.enum (.var i)=>a3 i
 |_=>a6
noncomputable def frz(t:Ex)(ρ:En):En:=match j91 t with
 |some i=>match ρ[i]? with
  |some (.own l)=>ρ.set i (.val (.lst l))
  |_=>ρ
 |none=>ρ
noncomputable def Jf(t:Ex)(ρ:En):Bool:=match j91 t with
 |some i=>match ρ[i]? with
  |some (.own _)=>a5
  |_=>a4
 |none=>a4
noncomputable def jah:D->Option ah
 |.int i=>if -18446744073709551616<i/\i<18446744073709551616 then a3 (cQ (toString i))else a6
 |.str y=>if y.length<=2000 then a3 y else a6
 |_=>a6
noncomputable def j1y:List Rk->Option (List ah)
 |[]=>a3 []
 |r::rs=>match jah r.d,j1y rs with
  |some y,a3 ys=>a3 (y::ys)
  |_,_=>a6
noncomputable def bang(x:ah):ah:=("!":ah)++x
noncomputable def qm(f:ah):ah:=("??":ah)++f
noncomputable def tupI:D->Option (List Int)
 |.tup l=>intsOf l
 |_=>a6
noncomputable def j3k(kf:D->Option Int):D->Int->List D->Option D
 |b,_,[]=>a3 b
 |b,kb,d::ds=>match kf d with
  |some k=>if k<kb then j3k kf d k ds else j3k kf b kb ds
  |none=>a6
noncomputable def Mj:List D->Option (List (List Int))
 |[]=>a3 []
 |d::ds=>match tupI d,Mj ds with
  |some k,a3 ks=>a3 (k::ks)
  |_,_=>a6
noncomputable def prI:D->Option (Int×List Int)
 |.tup [.int a,d]=>(tupI d).map λk=>(a,k)
 |_=>a6
noncomputable def j3c:List D->Option (List (Int×List Int))
 |[]=>a3 []
 |d::ds=>match prI d,j3c ds with
  |some k,a3 ks=>a3 (k::ks)
  |_,_=>a6
noncomputable def Rc.lv:Rc->Option W
 |.lval d=>a3 (.v (.e d))
 |_=>a6
noncomputable def jkk(w:Option W):Option W:=match w with
 |some (.v x)=>match x.d with
  |.str y=>if y.length<=1000 then a3 (.v (.e (.str (PySem.Txt.upper y))))else a6
  |_=>a6
 |_=>a6
noncomputable def Dj(s:Option Sv):Option W:=match s with
 |some (.val d)=>a3 (.v (.e d))
 |some (.own l)=>a3 (.v (.w l))
 |_=>a6
noncomputable def blW(i:Option Bool):Option W:=i.map λk=>.v (.e (.bl k))
noncomputable def rkW(r:Option Rk):Option W:=r.map .v
noncomputable def Zc(op:Bop)(a b:Option W):Option W:=match a,b with
 |some (.v x),a3 (.v y)=>rkW (Ur op x y)
 |_,_=>a6
noncomputable def Cr(op:Cop)(a b:Option W):Option W:=match a,b with
 |some (.v x),a3 (.v y)=>blW (Za op x.d y.d)
 |_,_=>a6
noncomputable def consW(a b:Option W):Option W:=match a,b with
 |some (.v x),a3 (.a xs)=>a3 (.a (x::xs))
 |_,_=>a6
noncomputable def Yh(a:Option W):Option W:=match a with
 |some (.a rs)=>match zm rs with
  |some ds=>if jr ds.length=a5 then a3 (.v (.e (.tup ds)))else a6
  |none=>a6
 |_=>a6
noncomputable def Z6(a:Option W):Option W:=match a with
 |some (.a rs)=>match zm rs with
  |some ds=>if jr ds.length=a5 then a3 (.v (.o ds))else a6
  |none=>a6
 |_=>a6
noncomputable def ixW(a b:Option W):Option W:=match a,b with
 |some (.v x),a3 (.v y)=>match x.sq,y.d with
  |some (_,l),.int i=>(atI l i).map λd=>.v (.e d)
  |none,.int i=>match x.d with
   |.str z=>if jr z.length=a5 then(atI z.cps.toList i).map λc=>.v (.e (.str ⟨#[c]⟩))else a6
   |_=>a6
  |_,_=>a6
 |_,_=>a6
noncomputable def O2(sep:ah)(a:Option W):Option W:=match a with
 |some (.v x)=>match x.d with
  |.lst l=>match strsOf l with
   |some ts=>if eY sep ts=a5 then a3 (.v (.e (.str (dX sep ts))))else a6
   |none=>a6
  |_=>a6
 |_=>a6
noncomputable def jja(a:Option W):Option W:=match a with
 |some (.v y)=>match y.d with
  |.int n=>if 0<=n/\n<=1000000 then a3 (.v (.o ((aw n.toNat).map λ(i:Nat)=>D.int (i:Int))))else a6
  |_=>a6
 |_=>a6
noncomputable def Mw(a:Option W):Option W:=match a with
 |some (.v x)=>match x.d with
  |.lst l=>match strsOf l with
   |some ts=>if ts.length<4000 then a3 (.v (.e (.int (dd ts).length)))else a6
   |none=>a6
  |_=>a6
 |_=>a6
noncomputable def Wj(a:Option W):Option W:=match a with
 |some (.v x)=>match x.st with
  |some (.lst l)=>a3 (.i (Jh l))
  |some (.tup l)=>a3 (.i (Jh l))
  |_=>a6
 |_=>a6
noncomputable def Z1(Γ:ah->List D->Rc)(f:ah)(a:Option W):Option W:=match a with
 |some (.a rs)=>match zm rs with
  |some ds=>rkW (Γ f ds).rk
  |none=>match Γ f (rs.map Rk.d) with
   |.val d=>a3 (.v (.t d))
   |_=>a6
 |_=>a6
noncomputable def zq(f:Bf)(a:Option W):Option W:=match a with
 |some (.a rs)=>rkW (Zb f rs)
 |_=>a6
noncomputable def Mv(m:Mf)(a b:Option W):Option W:=match a,b with
 |some (.v x),a3 (.a rs)=>rkW (j3l m x rs)
 |_,_=>a6
noncomputable def Cg(a:Option W)(ts:List String):Option W:=match a with
 |some (.v x)=>blW (qb x.d ts)
 |_=>a6
noncomputable def Ba(a:Option W):Option W:=match a with
 |some (.v (.e (.lst l)))=>a3 (.i l)
 |some (.v (.e (.tup l)))=>a3 (.i l)
 |some (.v (.o l))=>a3 (.i l)
 |some (.v (.e (.str y)))=>if ascii y=a5 then a3 (.i (chs y))else a6
 |_=>a6
noncomputable def Rn(a:Option W):Option W:=match a with
 |some (.a [x])=>match x.d with
  |.int n=>if -(2^62)<=n/\n<2^62 then a3 (.i (upto 0 n.toNat))else a6
  |_=>a6
 |some (.a [x,y])=>match x.d,y.d with
  |.int m,.int n=>if -(2^62)<=m/\m<2^62/\-(2^62)<=n/\n<2^62 then a3 (.i (upto m (n-m).toNat))else a6
  |_,_=>a6
 |_=>a6
noncomputable def jli(a b:Option W):Option W:=match a,b with
 |some (.v x),a3 (.v y)=>match x.d,y.d with
  |.tup l,.dct ks _=>(intsOf l).map λk=>.v (.e (.bl (ks.contains k)))
  |_,_=>a6
 |_,_=>a6
noncomputable def jgg(a:Option W):Option W:=match a with
 |some (.v (.e (.dct ks ds)))=>a3 (.i (jgh ks ds))
 |_=>a6
noncomputable def jjy(a b:Option W):Option W:=match a,b with
 |some (.v x),a3 (.v y)=>match x.st.bind D.sqv,y.st.bind D.sqv with
  |some (_,l),a3 (_,m)=>match strsOf l,intsOf m with
   |some ks,a3 ns=>if ks.Nodup/\ks.length=ns.length/\jr ks.length=a5 then a3 (.v (.e (.sct (ks.zip ns))))else a6
   |_,_=>a6
  |_,_=>a6
 |_,_=>a6
noncomputable def jll(a b c:Option W):Option W:=match a,b,c with
 |some (.v x),a3 (.v y),a3 (.v z)=>match x.d,y.d,z.d with
  |.int i,.int j,.int k=>a3 (.v (.e (.bl (decide (i<=j)&&decide (j<=k)))))
  |_,_,_=>a6
 |_,_,_=>a6
noncomputable def jj9(a:Option W):Option W:=match a with
 |some (.v x)=>match x.d with
  |.lst l=>match intsOf l with
   |some ns=>a3 (.v (.e (.int (Wa ns))))
   |none=>a6
  |_=>a6
 |_=>a6
noncomputable def j0y(a b c:Option W):Option W:=match a,b,c with
 |some (.v x),a3 (.v y),a3 (.v z)=>match x.d,y.d,z.d with
  |.int i,.int j,.int k=>a3 (.v (.e (.bl (decide (i<j)&&decide (j<k)))))
  |_,_,_=>a6
 |_,_,_=>a6
noncomputable def W5(Γ:ah->List D->Rc)(s:Option Sv)(a:Option W):Option W:=match s,a with
 |some (.val (.fn x cs)),a3 (.a rs)=>match zm rs with
  |some ds=>if Jc ds=a5 then(Γ (jx x) (cs++ds)).lv else a6
  |none=>a6
 |_,_=>a6
noncomputable def O4(a b:Option W):Option W:=match a,b with
 |some (.v (.e (.dct ks ds))),a3 (.v y)=>match tupI y.d with
  |some k=>(zp ks ds k).map λd=>.v (.e d)
  |none=>a6
 |_,_=>a6
noncomputable def M4(a:Option W):Option W:=match a with
 |some (.v (.e (.dct _ ds)))=>a3 (.v (.e (.tup ds)))
 |_=>a6
noncomputable def Mu(a:Option W):Option W:=match a with
 |some (.v x)=>match x.d with
  |.lst l=>match Mj l with
   |some ks=>(ks[aU (Jm ks) (ks.length-1)]?).map λk=>.v (.t (.tup (k.map D.int)))
   |none=>match j3c l with
    |some ps=>(ps[aU (Ca ps) (ps.length-1)]?).map λk=>.v (.t (pairD k))
    |none=>a6
  |_=>a6
 |_=>a6
noncomputable def jlh(a b:Option W):Option W:=match a,b with
 |some (.v x),a3 (.v y)=>match x.d,y.d with
  |.sct kvs,.str k=>(jlg kvs k).map λn=>.v (.e (.int n))
  |_,_=>a6
 |_,_=>a6
noncomputable def ev(Γ:ah->List D->Rc)(G:ah->Option D):Ex->En->Option W
 |.lit d,_=>a3 (.v (.e d))
 |.var i,ρ=>Dj ρ[i]?
 |.glob x,_=>(G x).map λd=>.v (.e d)
 |.bin op a b,ρ=>Zc op (ev Γ G a ρ) (ev Γ G b ρ)
 |.cmp op a b,ρ=>Cr op (ev Γ G a ρ) (ev Γ G b ρ)
 |.isN a,ρ=>match ev Γ G a ρ with
  |some (.v x)=>a3 (.v (.e (.bl x.d.isNon)))
  |_=>a6
 |.and a b,ρ=>match truth (ev Γ G a ρ) with
  |some a4=>a3 (.v (.e (.bl a4)))
  |some a5=>(truth (ev Γ G b ρ)).map λk=>.v (.e (.bl k))
  |none=>a6
 |.or a b,ρ=>match truth (ev Γ G a ρ) with
  |some a5=>a3 (.v (.e (.bl a5)))
  |some a4=>(truth (ev Γ G b ρ)).map λk=>.v (.e (.bl k))
  |none=>a6
 |.not a,ρ=>(truth (ev Γ G a ρ)).map λk=>.v (.e (.bl (!k)))
 |.ite c a b,ρ=>match truth (ev Γ G c ρ) with
  |some a5=>match ev Γ G a ρ with
   |some (.v x)=>x.st.map λd=>.v (.e d)
   |_=>a6
  |some a4=>match ev Γ G b ρ with
   |some (.v x)=>x.st.map λd=>.v (.e d)
   |_=>a6
  |none=>a6
 |.nil,_=>a3 (.a [])
 |.cons a b,ρ=>consW (ev Γ G a ρ) (ev Γ G b ρ)
 |.tup es,ρ=>Yh (ev Γ G es ρ)
 |.lst es,ρ=>Z6 (ev Γ G es ρ)
 |.ix a b,ρ=>ixW (ev Γ G a ρ) (ev Γ G b ρ)
 |.sl a lo hi,ρ=>match ev Γ G a ρ,Qv (ev Γ G lo ρ),Qv (ev Γ G hi ρ) with
  |some (.v x),a3 l,a3 h=>match x.sq with
   |some (a5,ds)=>a3 (.v (.o (cutD ds l h)))
   |some (a4,ds)=>if HT.sIx ds.length 0 l=0/\HT.sIx ds.length ds.length h=ds.length then a6 else a3 (.v (.e (.tup (cutD ds l h))))
   |none=>match x.d with
    |.str z=>if jr z.length=a5 then a3 (.v (.e (.str (bJ z l h))))else a6
    |_=>a6
  |_,_,_=>a6
 |.call f es,ρ=>Z1 Γ f (ev Γ G es ρ)
 |.blt f es,ρ=>zq f (ev Γ G es ρ)
 |.meth m a es,ρ=>Mv m (ev Γ G a ρ) (ev Γ G es ρ)
 |.isi a ts,ρ=>Cg (ev Γ G a ρ) ts
 |.comp is elt it cond,ρ=>match ev Γ G it (frz it ρ) with
  |some (.i ds)=>if Io is (frz it ρ)=a5/\jr ds.length=a5 then
    (J1 (λd=>match qz is d (frz it ρ) with
     |none=>a6
     |some ρ2=>match ev Γ G cond ρ2 with
      |some (.a [])=>match ev Γ G elt ρ2 with
       |some (.v x)=>x.st.map a3
       |_=>a6
      |some (.a [y])=>match y.d with
       |.bl a5=>match ev Γ G elt ρ2 with
        |some (.v x)=>x.st.map a3
        |_=>a6
       |.bl a4=>a3 a6
       |_=>a6
      |_=>a6) ds).bind λl=>if (Jf it ρ && !zg l)=a5 then a6 else a3 (.v (.o l))
   else a6
  |_=>a6
 |.seq a,ρ=>Ba (ev Γ G a ρ)
 |.chn a b c,ρ=>j0y (ev Γ G a ρ) (ev Γ G b ρ) (ev Γ G c ρ)
 |.che a b c,ρ=>jll (ev Γ G a ρ) (ev Γ G b ρ) (ev Γ G c ρ)
 |.maxD a,ρ=>jj9 (ev Γ G a ρ)
 |.range es,ρ=>Rn (ev Γ G es ρ)
 |.join sep a,ρ=>O2 sep (ev Γ G a ρ)
 |.enum a,ρ=>Wj (ev Γ G a ρ)
 |.dzip a b,ρ=>jjy (ev Γ G a ρ) (ev Γ G b ρ)
 |.callD f es,ρ=>match ev Γ G es ρ with
  |some (.a rs)=>match zm rs with
   |some ds=>match Γ f (ds++[.non]) with
    |.val d=>a3 (.v (.e d))
    |_=>a6
   |none=>a6
  |_=>a6
 |.callK f es a,ρ=>match ev Γ G es ρ,ev Γ G a ρ with
  |some (.a rs),a3 (.v x)=>match zm rs,x.st with
   |some ds,a3 d'=>match Γ f (ds++[d']) with
    |.val d=>a3 (.v (.e d))
    |_=>a6
   |_,_=>a6
  |_,_=>a6
 |.dix a b,ρ=>jlh (ev Γ G a ρ) (ev Γ G b ρ)
 |.dnil,_=>a3 (.v (.e (.sct [])))
 |.rpr a,ρ=>match ev Γ G a ρ with
  |some (.v x)=>match x.d with
   |.str y=>if (reprText y).length<=2000 then a3 (.v (.e (.str (reprText y))))else a6
   |_=>a6
  |_=>a6
 |.upr a,ρ=>jkk (ev Γ G a ρ)
 |.lrng a,ρ=>jja (ev Γ G a ρ)
 |.lset a,ρ=>Mw (ev Γ G a ρ)
 |.din a b,ρ=>jli (ev Γ G a ρ) (ev Γ G b ρ)
 |.items a,ρ=>jgg (ev Γ G a ρ)
 |.callV i es,ρ=>W5 Γ ρ[i]? (ev Γ G es ρ)
 |.dget a b,ρ=>O4 (ev Γ G a ρ) (ev Γ G b ρ)
 |.dvals a,ρ=>M4 (ev Γ G a ρ)
 |.minT a,ρ=>Mu (ev Γ G a ρ)
section
variable{Γ:ah->List D->Rc}{G:ah->Option D}{ρ:En}
theorem Iu{d}:ev Γ G (.lit d) ρ=(a3 (.v (.e d))):=(rfl)
theorem jk5{i}:ev Γ G (.var i) ρ=(Dj ρ[i]?):=(rfl)
theorem ji3{x}:ev Γ G (.glob x) ρ=((G x).map λd=>.v (.e d)):=(rfl)
theorem jkb{op a b}:ev Γ G (.bin op a b) ρ=(Zc op (ev Γ G a ρ) (ev Γ G b ρ)):=(rfl)
theorem jb2{op a b}:ev Γ G (.cmp op a b) ρ=(Cr op (ev Γ G a ρ) (ev Γ G b ρ)):=(rfl)
theorem j48{a}:ev Γ G (.isN a) ρ=(match ev Γ G a ρ with
  |some (.v x)=>a3 (.v (.e (.bl x.d.isNon)))
  |_=>a6):=(rfl)
theorem jb3{a b}:ev Γ G (.and a b) ρ=(match truth (ev Γ G a ρ) with
  |some a4=>a3 (.v (.e (.bl a4)))
  |some a5=>(truth (ev Γ G b ρ)).map λk=>.v (.e (.bl k))
  |none=>a6):=(rfl)
theorem jlq{a b}:ev Γ G (.or a b) ρ=(match truth (ev Γ G a ρ) with
  |some a5=>a3 (.v (.e (.bl a5)))
  |some a4=>(truth (ev Γ G b ρ)).map λk=>.v (.e (.bl k))
  |none=>a6):=(rfl)
theorem jb0{a}:ev Γ G (.not a) ρ=((truth (ev Γ G a ρ)).map λk=>.v (.e (.bl (!k)))):=(rfl)
theorem jk9{c a b}:ev Γ G (.ite c a b) ρ=(match truth (ev Γ G c ρ) with
  |some a5=>match ev Γ G a ρ with
   |some (.v x)=>x.st.map λd=>.v (.e d)
   |_=>a6
  |some a4=>match ev Γ G b ρ with
   |some (.v x)=>x.st.map λd=>.v (.e d)
   |_=>a6
  |none=>a6):=(rfl)
theorem Oa:ev Γ G (.nil) ρ=(a3 (.a [])):=(rfl)
theorem Di{a b}:ev Γ G (.cons a b) ρ=(consW (ev Γ G a ρ) (ev Γ G b ρ)):=(rfl)
theorem jk6{es}:ev Γ G (.tup es) ρ=(Yh (ev Γ G es ρ)):=(rfl)
theorem jk8{es}:ev Γ G (.lst es) ρ=(Z6 (ev Γ G es ρ)):=(rfl)
theorem jlr{a b}:ev Γ G (.ix a b) ρ=(ixW (ev Γ G a ρ) (ev Γ G b ρ)):=(rfl)
theorem jlp{a lo hi}:ev Γ G (.sl a lo hi) ρ=(match ev Γ G a ρ,Qv (ev Γ G lo ρ),Qv (ev Γ G hi ρ) with
  |some (.v x),a3 l,a3 h=>match x.sq with
   |some (a5,ds)=>a3 (.v (.o (cutD ds l h)))
   |some (a4,ds)=>if HT.sIx ds.length 0 l=0/\HT.sIx ds.length ds.length h=ds.length then a6 else a3 (.v (.e (.tup (cutD ds l h))))
   |none=>match x.d with
    |.str z=>if jr z.length=a5 then a3 (.v (.e (.str (bJ z l h))))else a6
    |_=>a6
  |_,_,_=>a6):=(rfl)
theorem ji7{f es}:ev Γ G (.call f es) ρ=(Z1 Γ f (ev Γ G es ρ)):=(rfl)
theorem Uj{f es}:ev Γ G (.blt f es) ρ=(zq f (ev Γ G es ρ)):=(rfl)
theorem ji0{m a es}:ev Γ G (.meth m a es) ρ=(Mv m (ev Γ G a ρ) (ev Γ G es ρ)):=(rfl)
theorem jb1{a ts}:ev Γ G (.isi a ts) ρ=(Cg (ev Γ G a ρ) ts):=(rfl)
theorem ji6{is elt it cond}:ev Γ G (.comp is elt it cond) ρ=(match ev Γ G it (frz it ρ) with
  |some (.i ds)=>if Io is (frz it ρ)=a5/\jr ds.length=a5 then
    (J1 (λd=>match qz is d (frz it ρ) with
     |none=>a6
     |some ρ2=>match ev Γ G cond ρ2 with
      |some (.a [])=>match ev Γ G elt ρ2 with
       |some (.v x)=>x.st.map a3
       |_=>a6
      |some (.a [y])=>match y.d with
       |.bl a5=>match ev Γ G elt ρ2 with
        |some (.v x)=>x.st.map a3
        |_=>a6
       |.bl a4=>a3 a6
       |_=>a6
      |_=>a6) ds).bind λl=>if (Jf it ρ && !zg l)=a5 then a6 else a3 (.v (.o l))
   else a6
  |_=>a6):=(rfl)
theorem jk7{a}:ev Γ G (.seq a) ρ=(Ba (ev Γ G a ρ)):=(rfl)
theorem jka{a b c}:ev Γ G (.chn a b c) ρ=(j0y (ev Γ G a ρ) (ev Γ G b ρ) (ev Γ G c ρ)):=(rfl)
theorem je3{es}:ev Γ G (.range es) ρ=(Rn (ev Γ G es ρ)):=(rfl)
theorem ji2{sep a}:ev Γ G (.join sep a) ρ=(O2 sep (ev Γ G a ρ)):=(rfl)
theorem ji4{a}:ev Γ G (.enum a) ρ=(Wj (ev Γ G a ρ)):=(rfl)
theorem je7{f es}:ev Γ G (.callD f es) ρ=(match ev Γ G es ρ with
  |some (.a rs)=>match zm rs with
   |some ds=>match Γ f (ds++[.non]) with
    |.val d=>a3 (.v (.e d))
    |_=>a6
   |none=>a6
  |_=>a6):=(rfl)
theorem je6{f es a}:ev Γ G (.callK f es a) ρ=(match ev Γ G es ρ,ev Γ G a ρ with
  |some (.a rs),a3 (.v x)=>match zm rs,x.st with
   |some ds,a3 d'=>match Γ f (ds++[d']) with
    |.val d=>a3 (.v (.e d))
    |_=>a6
   |_,_=>a6
  |_,_=>a6):=(rfl)
theorem ji1{a}:ev Γ G (.lset a) ρ=(Mw (ev Γ G a ρ)):=(rfl)
theorem je5{i es}:ev Γ G (.callV i es) ρ=(W5 Γ ρ[i]? (ev Γ G es ρ)):=(rfl)
theorem ji5{a b}:ev Γ G (.dget a b) ρ=(O4 (ev Γ G a ρ) (ev Γ G b ρ)):=(rfl)
theorem je4{a}:ev Γ G (.dvals a) ρ=(M4 (ev Γ G a ρ)):=(rfl)
theorem jhz{a}:ev Γ G (.minT a) ρ=(Mu (ev Γ G a ρ)):=(rfl)
end
noncomputable def er(Γ:ah->List D->Rc)(G:ah->Option D):Ex->En->Option ah
 |.call f es,ρ=>match er Γ G es ρ with
  |some x=>if (G (qm f)).isSome=a5 then a3 x else a6
  |none=>match ev Γ G es ρ with
   |some (.a rs)=>match Γ f (rs.map Rk.d) with
    |.err x=>if (G (bang x)).isSome=a5 then a3 x else a6
    |_=>a6
   |_=>a6
 |.cons a b,ρ=>match er Γ G a ρ with
  |some x=>a3 x
  |none=>match ev Γ G a ρ with
   |some (.v _)=>er Γ G b ρ
   |_=>a6
 |.ix a _,ρ=>er Γ G a ρ
 |.dzip a b,ρ=>match er Γ G a ρ with
  |some x=>a3 x
  |none=>match ev Γ G a ρ with
   |some (.v _)=>er Γ G b ρ
   |_=>a6
 |_,_=>a6
end L2
end
section
namespace L2
open PySem PySem.Spec PyProof.Rows
def DM(X:Cx)(ρ:Rho)(e:aj)(s:Bool)(ds:List D):Prop:=∀σ H Q,Rep X.K ρ σ H->(∀a xs H',j0 H H'->SqB X.K s H' a xs->j4 X.K (del H' (owns ρ)) ds xs->Q (.ref a) H')->Qm X e σ H Q
section
variable{X:Cx}{ρ:Rho}{e a b c:aj}{es:List aj}{d:D}{ds ds':List D}{i j:Int}{pos p p2:aK}{k:Nat}{x:ah}{s:Bool}
theorem jiu{K:k8d}{H:Hp}{a:aa}{xs:List V}(h:SqL K H a xs):SqB K a5 H a xs:=by unfold SqB;rw[if_pos rfl];exact h
theorem Uw{K:k8d}{H:Hp}{a:aa}{xs:List V}(h:SqB K a5 H a xs):SqL K H a xs:=by unfold SqB at h;rw[if_pos rfl]at h;exact h
theorem Ql{K:k8d}{H:Hp}{a:aa}{xs:List V}(h:SqB K a4 H a xs):SqT K H a xs:=by unfold SqB at h;rw[if_neg xf]at h;exact h
theorem DE.toM(h:DE X ρ e (D.seq s ds)):DM X ρ e s ds:=λσ H Q R q=>h σ H Q R λv H1 g1 e1=>by obtain⟨t,xs,ev,sq,en⟩:=Vh e1;subst ev;exact q t xs H1 g1 (ju.seqB sq) en
theorem DL.toM(h:DL X ρ e ds):DM X ρ e a5 ds:=λσ H Q R q=>h σ H Q R λt xs H1 g1 m en=>q t xs H1 g1 (jiu (.inl (.inl m))) en
theorem DO.toM(h:DO X ρ e ds):DM X ρ e a5 ds:=h.toL.toM
def Has(X:Cx)(ρ:Rho)(e:aj):Rk->Prop
 |.e d=>DE X ρ e d
 |.o l=>DO X ρ e l
 |.w l=>DL X ρ e l
 |.t d=>DT X ρ e d
theorem Has.toT:∀{r:Rk},Has X ρ e r->DT X ρ e r.d
 |.e _,h=>DE.toT h
 |.o _,h=>DL.toT (DO.toL h)
 |.w _,h=>DL.toT h
 |.t _,h=>h
theorem Has.toE:∀{r:Rk}{d:D},Has X ρ e r->r.st=a3 d->DE X ρ e d
 |.e _,_,h,q=>by cases q;exact h
 |.o _,_,h,q=>by cases q;exact DO.toE h
 |.w _,_,h,q=>by cases q
 |.t d',d,h,q=>by
  have q:(if vd d'=a5 then a3 d' else a6)=a3 d:=q;by_cases z:vd d'=a5
  .rw[if_pos z]at q;cases q;exact DT.toE h z
  .rw[if_neg z]at q;cases q
theorem Has.toM:∀{r:Rk}{s:Bool}{l:List D},Has X ρ e r->r.sq=a3 (s,l)->DM X ρ e s l
 |.e (.lst l),_,_,h,q=>by cases q;exact DE.toM (s:=a5) h
 |.e (.tup l),_,_,h,q=>by cases q;exact DE.toM (s:=a4) h
 |.e .non,_,_,_,q=>by cases q
 |.e (.bl _),_,_,_,q=>by cases q
 |.e (.int _),_,_,_,q=>by cases q
 |.e (.str _),_,_,_,q=>by cases q
 |.o l,_,_,h,q=>by cases q;exact DO.toM h
 |.w l,_,_,h,q=>by cases q;exact DL.toM h
 |.t _,_,_,_,q=>by cases q
theorem jcc:OpR X (aZ .Add) (λx y H Q=>∃l b xs zs,x=.ref l/\y=.ref b/\SqL X.K H l xs/\SqL X.K H b zs/\xs.length+zs.length<=ak/\∀p,H p=a6->Q (.ref p) (upd H p (.lst (xs++zs)))):=by
 intro pins s σ H x y v u Q I rx ry h;obtain⟨l,b,xs,zs,e1,e2,hH,hB,hz,q⟩:=h;subst e1 e2;cases rx;cases ry;obtain⟨us,ru,⟨⟨c1,d1,f1,g1⟩,n1,h1,k1,w1,m1⟩,_⟩:=I.list hH;obtain⟨vs,rv,⟨⟨c2,d2,f2,g2⟩,n2,h2,k2,w2,m2⟩,_⟩:=I.list hB;have k1:c1=.type "list":=k1;have m1:f1=.seq us.toArray n1:=m1;have k2:c2=.type "list":=k2;have m2:f2=.seq vs.toArray n2:=m2;subst k1 m1 k2 m2;have l1:=ru.length;have l2:=rv.length;have ea:us.toArray++vs.toArray=(us++vs).toArray:=by simp
 refine fT ⟨_,h1,rfl⟩ ⟨_,h2,rfl⟩ noFill_list_add seq_list_add PySem.F.slot_list_add PySem.F.entry_list_add (PySem.F.args_list_add_2 _ _)
  (list_addW l b us.toArray vs.toArray n1 n2 d1 d2 g1 g2 (by rw[X4,X4,<-l1,<-l2];exact hz)) ⟨h1,h2,?_⟩
 rw[ea];exact⟨.ref _,_,I.lnew (t':=s.toks) (ru.append rv) (by rw[Xb];exact hz),rfl,q _ I.fresh⟩
theorem DO.catM(ha:DM X ρ a a5 ds)(hb:DM X ρ b a5 ds')(hl:ds.length+ds'.length<=ak):DO X ρ (.BinOp a .Add b pos) (ds++ds'):=λσ H Q R q =>
 (U7 jcc peS peS).to (ha σ H _ R λl xs H1 g1 s1 e1=>hb σ H1 _ (R.grow g1) λl' ys H2 g2 s2 e2 =>
  ⟨l,l',xs,ys,rfl,rfl,g2.seq (Uw s1),Uw s2,by rw[e1.length,e2.length];exact hl,λp hp=>q p _ _ ((g1.trans g2).trans (j7 hp)) ((g1.trans g2).free hp) j9 (Wl hp ((e1.mono (je g2)).append e2))⟩)
theorem DE.catTM(ha:DM X ρ a a4 ds)(hb:DM X ρ b a4 ds')(hl:ds.length+ds'.length<=ak):DE X ρ (.BinOp a .Add b pos) (.tup (ds++ds')):=λσ H Q R q =>
 (U7 j87 peS peS).to (ha σ H _ R λt xs H1 g1 sq l=>hb σ H1 _ (R.grow g1) λt' ys H2 g2 sq' l'=>by
  have l2:=l.mono (je g2)
  have enT:∀{t:aa}{xs:List V}{ds:List D},SqT X.K H2 t xs->j4 X.K (del H2 (owns ρ)) ds xs->Enc X.K (del H2 (owns ρ)) (.tup ds) (.ref t):=λ{t xs ds} sq l=>by
   refine⟨t,xs,rfl,?_,l⟩
   have ow:=(R.grow (g1.trans g2)).owned
   have out:∀{o:HO},H2 t=a3 o->(∀zs,o≠.lst zs)->del H2 (owns ρ) t=a3 o:=λ{o} h z=>by
    rw[j5];exact h
    intro y;obtain⟨zs,e'⟩:=ow t y;rw[h]at e';cases e';exact z zs rfl
   rcases sq with (h|⟨o,h⟩)|h
   .exact .inl (.inl (out h λ_ z=>by cases z))
   .exact .inl (.inr ⟨o,out h λ_ z=>by cases z⟩)
   .exact .inr h
  refine⟨t,t',xs,ys,rfl,rfl,g2.seqT (Ql sq),Ql sq',by rw[l.length,l'.length];exact hl,λh=>?_,λh h'=>?_,λh h' p hp=>?_⟩
  .subst h
   cases ds with
   |nil=>exact q _ H2 (g1.trans g2) (enT (Ql sq') l')
   |cons _ _=>have:=l.length;cases this
  .subst h'
   cases ds' with
   |nil=>exact q _ H2 (g1.trans g2) (by rw[Xv];exact enT (g2.seqT (Ql sq)) l2)
   |cons _ _=>have:=l'.length;cases this
  .have np:p∉owns ρ:=(R.grow (g1.trans g2)).fresh hp
   exact q _ _ ((g1.trans g2).trans (j7 hp)) ⟨p,xs++ys,rfl,.inl (.inl (by rw[j5 np];exact j9)),(l2.append l').mono (je (j7 hp))⟩)
theorem DE.ixM(ha:DM X ρ a s ds)(hb:DT X ρ b (.int i))(h:L2.atI ds i=a3 d)(hs:Zw b):DE X ρ (.Subscript a b pos) d:=by
 cases s with
 |true=>exact λσ H Q R q=>(Ms j2c peS peS hs).to (ha σ H _ R λl xs H1 g1 sq en=>hb σ H1 _ (R.grow g1) λu H2 g2 e2=>by
   obtain⟨y,hy,ey⟩:=en.atI h
   exact⟨l,xs,i,y,rfl,e2,g2.seq (Uw sq),hy,q y H2 (g1.trans g2) (ey.mono (je g2))⟩)
 |false=>exact λσ H Q R q=>(Ms j5y peS peS hs).to (ha σ H _ R λl xs H1 g1 sq en=>hb σ H1 _ (R.grow g1) λu H2 g2 e2=>by
   obtain⟨y,hy,ey⟩:=en.atI h
   exact⟨l,xs,i,y,rfl,e2,g2.seqT (Ql sq),hy,q y H2 (g1.trans g2) (ey.mono (je g2))⟩)
variable{lo hi:Option aj}{l u:Option Int}
theorem DO.sliceM(ha:DM X ρ a a5 ds)(hl:DP X ρ lo l)(hu:DP X ρ hi u):DO X ρ (.Subscript a (.Slice lo hi a6 p2) pos) (cutD ds l u):=λσ H Q R q =>
 (Be jbg peS poS poS).to (ha σ H _ R λt xs H1 g1 sq en=>hl σ H1 _ (R.grow g1) λH2 g2=>hu σ H2 _ (R.grow (g1.trans g2)) λH3 g3=>⟨t,xs,rfl,(g2.trans g3).seq (Uw sq),λp hp =>
  q p _ _ ((g1.trans (g2.trans g3)).trans (j7 hp)) ((g1.trans (g2.trans g3)).free hp) j9 (Wl hp ((en.mono (je (g2.trans g3))).cut l u))⟩)
theorem DE.sliceM(ha:DM X ρ a a4 ds)(hl:DP X ρ lo l)(hu:DP X ρ hi u)(hw:¬(HT.sIx ds.length 0 l=0/\HT.sIx ds.length ds.length u=ds.length)):DE X ρ (.Subscript a (.Slice lo hi a6 p2) pos) (.tup (cutD ds l u)):=λσ H Q R q =>
 (Be jeo peS poS poS).to (ha σ H _ R λt xs H1 g1 sq en=>hl σ H1 _ (R.grow g1) λH2 g2=>hu σ H2 _ (R.grow (g1.trans g2)) λH3 g3=>⟨t,xs,rfl,(g2.trans g3).seqT (Ql sq),by rw[en.length];exact hw,λp hp =>
  q _ _ ((g1.trans (g2.trans g3)).trans (j7 hp)) ⟨p,_,rfl,.inl (.inl (by rw[j5 ((R.grow (g1.trans (g2.trans g3))).fresh hp)];exact j9)),((en.mono (je (g2.trans g3))).cut l u).mono (je (j7 hp))⟩⟩)
theorem DE.tupM (ha:DM X ρ a s ds) (hm:X.mg "tuple" = a6) (hg:Gl X "tuple") (hs:a8 [a] X.env=[(a4,ay a X.env)]):DE X ρ (.Call (.Name "tuple" p) [a] [] pos) (.tup ds):=λσ H Q R q =>
 (Rp Ia hg hm boot_tuple (jd peS jz hs) (by decide) (by decide) hs).to (ha σ H _ R λl xs H1 g1 sq en=>by
  cases s with
  |true =>
   refine⟨l,xs,rfl,.inl ⟨Uw sq,λt ht=>?_⟩⟩
   have nt:t∉owns ρ:=(R.grow g1).fresh ht
   exact q _ _ (g1.trans (j7 ht)) ⟨t,xs,rfl,.inl (.inl (by rw[j5 nt];exact j9)),en.mono (je (j7 ht))⟩
  |false =>
   refine⟨l,xs,rfl,.inr ⟨Ql sq,?_⟩⟩
   refine q _ _ g1 ⟨l,xs,rfl,?_,en⟩
   have ow:=(R.grow g1).owned
   have out:∀{o:HO},H1 l=a3 o->(∀zs,o≠.lst zs)->del H1 (owns ρ) l=a3 o:=λ{o} h z=>by
    rw[j5];exact h
    intro y;obtain⟨zs,e'⟩:=ow l y;rw[h]at e';cases e';exact z zs rfl
   rcases Ql sq with (h|⟨o,h⟩)|h
   .exact .inl (.inl (out h λ_ z=>by cases z))
   .exact .inl (.inr ⟨o,out h λ_ z=>by cases z⟩)
   .exact .inr h)
theorem DO.listM (ha:DM X ρ a s ds) (hm:X.mg "list" = a6) (hg:Gl X "list") (hs:a8 [a] X.env=[(a4,ay a X.env)]):DO X ρ (.Call (.Name "list" p) [a] [] pos) ds:=λσ H Q R q =>
 (Rp j10 hg hm boot_list (jd peS jz hs) (by decide) (by decide) hs).to (ha σ H _ R λl xs H1 g1 sq en =>
  ⟨l,xs,rfl,(by cases s with|true=>exact .inl (Uw sq)|false=>exact .inr (Ql sq)),λp hp=>q p _ _ (g1.trans (j7 hp)) (g1.free hp) j9 (Wl hp en)⟩)
end
theorem Dv:fillsNumberSlot (.type "tuple") "mul" = pure a4 :=
 PySem.fillsNumberSlot_seq (id:="tuple.__mul__") (r:=a3 (.builtin "tuple.__rmul__")) PySem.F.slot_tuple_mul.lookup (by decide +kernel) PySem.F.slot_tuple_rmul.lookup (by decide +kernel)
theorem jby:seqRepeat? (.type "tuple")=pure (a3 (.builtin "tuple.__mul__")):=by
 unfold seqRepeat?;rw[iT (T:="tuple") (name:="__mul__") (id:="tuple.__mul__") PySem.F.slot_tuple_mul.lookup (by decide +kernel),
  iT (T:="tuple") (name:="__rmul__") (id:="tuple.__rmul__") PySem.F.slot_tuple_rmul.lookup (by decide +kernel)]
 rfl
section
variable(a:Int)(t:gL)(l:aa)(its:Array a9)(n:Nat)(d1:Option aa)(sl:Array (Option a9))
theorem j0k:kz (dC.«int.__rmul__» ⟨[.int a t,.ref l],[]⟩) (λ_ R s=>s.heap.get? l=a3 ⟨.type "tuple",d1,.seq its n,sl⟩/\R (.ok (.ret gR)) s) :=
 .of_wp λ_ _ _ _ s h=>by
  obtain⟨_,_,_,_,_⟩:=s;obtain⟨hl,h⟩:=h
  wp_walk
  exact⟨_,rfl,h⟩
theorem j7f:kz (dC.«tuple.__mul__» ⟨[.ref l,.int 1 t],[]⟩) (λ_ R s=>s.heap.get? l=a3 ⟨.type "tuple",d1,.seq its n,sl⟩/\R (.ok (.ret (.ref l))) s) :=
 .of_wp λ_ _ _ _ s h=>by
  obtain⟨_,_,_,_,_⟩:=s;obtain⟨hl,h⟩:=h
  wp_walk
  exact⟨_,rfl,h⟩
theorem j7e(h0:its.isEmpty=a4)(h1:1<a)(h2:a<2^63)(hz:its.size*a.toNat<=ak) :
  kz (dC.«tuple.__mul__» ⟨[.ref l,.int a t],[]⟩) (λ_ R s=>s.heap.get? l=a3 ⟨.type "tuple",d1,.seq its n,sl⟩ /\
   R (.ok (.ret (.ref s.heap.objs.size))) { s with heap:=s.heap.push { cls:=.type "tuple",data:=.seq (cW (λx y=>x++y) #[] (ae a.toNat its)) } }) :=
 .of_wp λ_ _ _ _ s h=>by
  obtain⟨_,_,_,_,_⟩:=s;obtain⟨hl,h⟩:=h;have c1:(decide (a < -2^63) || decide (a>=2^63))=a4:=by rw[decide_eq_false nofun,decide_eq_false nofun];rfl
  have c2:(its.isEmpty || a==1)=a4:=by rw[h0,beq_eq_false_iff_ne.mpr nofun];rfl
  have c3:(decide (a<=0) || its.isEmpty)=a4:=by rw[h0,decide_eq_false nofun];rfl
  have ea:((its.size*a.toNat:Nat):Int)=(its.size:Int)*a:=by rw[cN,iO nofun]
  have hz':(its.size:Int)*a<=(ak:Int):=by rw[<-ea];exact Int.ofNat_le.mpr hz
  have c4:¬(its.size:Int)*a>(2^63-1)/8:=by
   have:(ak:Int)<=(2^63-1)/8:=by decide
   omega
  have c5:eM ((its.size:Int)*a)=a4:=by unfold eM;exact decide_eq_false nofun
  have c6:(cW (λx y=>x++y) #[] (ae a.toNat its)).size<=ak:=by rw[AutoListH.size_joined,Array.size_empty,Pg,fm];exact hz
  wp_walk
  rw[c1]
  wp_walk
  rw[c2]
  wp_walk
  rw[c3]
  wp_walk
  rw[if_neg c4]
  wp_walk
  exact⟨_,rfl,h⟩
end
theorem jc9{X:Cx}:OpR X (aZ .Mult) (λx y H Q=>∃a k xs,x=.ref a/\y=.int k/\SqT X.K H a xs/\xs≠[]/\1<=k/\k<2^63/\xs.length*k.toNat<=ak /\
  (k=1->Q (.ref a) H)/\(1<k->∀p,H p=a6->Q (.ref p) (upd H p (.tup (ae k.toNat xs).flatten)))):=by
 intro pins s σ H x y v u Q I rx ry h;obtain⟨a,k,xs,e1,e2,sq,hne,h1,h2,hz,q1,q2⟩:=h;subst e1 e2;cases rx;obtain⟨t,e⟩:=ry;subst e;obtain⟨us,ru,⟨⟨c1,d1,f1,g1⟩,p1,k1,n1,m1⟩,_⟩:=I.tuple sq;have k1:c1=.type "tuple":=k1;have m1:f1=.seq us.toArray n1:=m1;subst k1 m1;have lu:=ru.length;have hne':us.toArray.isEmpty=a4:=by
  cases us with
  |nil=>cases ru;exact absurd rfl hne
  |cons _ _=>simp
 refine ie (T:="tuple") (U:="int") (by decide) ⟨_,p1,rfl⟩ (λs'=>fF s' k t) Dv kq dW jby F.slot_int_index.lookup
  (bI dW (fF s k t) k6 (jZ _ _) (j0k k t a us.toArray n1 d1 g1) ⟨p1,rfl,⟨_,p1,rfl⟩,?_⟩)
 by_cases hk:k=1
 .subst hk;exact bI k5 ⟨_,p1,rfl⟩ jY (jI _ _) (j7f t a us.toArray n1 d1 g1) ⟨p1,⟨.ref a,H,I,rfl,q1 rfl⟩⟩
 .have hz':us.toArray.size*k.toNat<=ak:=by rw[X4,<-lu];exact hz
  refine bI k5 ⟨_,p1,rfl⟩ jY (jI _ _) (j7e k t a us.toArray n1 d1 g1 hne' nofun h2 hz') ⟨p1,?_⟩;have hnew:cW (λx1 x2=>x1++x2) #[] (ae k.toNat us.toArray)=(ae k.toNat us).flatten.toArray:=by have:=foldl_rep us k.toNat [];rw[cJ]at this;exact this
  rw[hnew];refine⟨.ref _,_,I.laid (t':=s.toks) (λb o e=>xj _ e) (xx _) ?_,rfl,q2 nofun _ I.fresh⟩;exact⟨by rw[len_rep,fm];exact hz,_,ru.rep k.toNat,IsTup.new _ _,V8.new _ _⟩
theorem DE.repT{X:Cx}{ρ:Rho}{a b:aj}{ds:List D}{k:Int}{pos:aK}(ha:DM X ρ a a4 ds)(hb:DT X ρ b (.int k))(hne:ds≠[])(h1:1<=k)(h2:k<2^63)(hl:ds.length*k.toNat<=ak) :
  DE X ρ (.BinOp a .Mult b pos) (.tup (ae k.toNat ds).flatten):=λσ H Q R q =>
 (U7 jc9 peS peS).to (ha σ H _ R λt xs H1 g1 sq l=>hb σ H1 _ (R.grow g1) λu H2 g2 e2=>by
  have l2:=l.mono (je g2)
  refine⟨t,k,xs,rfl,e2,g2.seqT (Ql sq),?_,h1,h2,by rw[l.length];exact hl,λh=>?_,λh p hp=>?_⟩
  .intro z;subst z
   cases ds with
   |nil=>exact hne rfl
   |cons _ _=>have:=l.length;cases this
  .subst h
   have e:(ae (1:Int).toNat ds).flatten=ds:=by simp
   rw[e]at q
   refine q _ H2 (g1.trans g2) ⟨t,xs,rfl,?_,l2⟩
   have ow:=(R.grow (g1.trans g2)).owned
   have out:∀{o:HO},H2 t=a3 o->(∀zs,o≠.lst zs)->del H2 (owns ρ) t=a3 o:=λ{o} h z=>by
    rw[j5];exact h
    intro y;obtain⟨zs,e'⟩:=ow t y;rw[h]at e';cases e';exact z zs rfl
   rcases g2.seqT (Ql sq)with (h|⟨o,h⟩)|h
   .exact .inl (.inl (out h λ_ z=>by cases z))
   .exact .inl (.inr ⟨o,out h λ_ z=>by cases z⟩)
   .exact .inr h
  .have np:p∉owns ρ:=(R.grow (g1.trans g2)).fresh hp
   exact q _ _ ((g1.trans g2).trans (j7 hp)) ⟨p,_,rfl,.inl (.inl (by rw[j5 np];exact j9)),(l2.rep k.toNat).mono (je (j7 hp))⟩)
section
variable{X:Cx}{ρ:Rho}{a:aj}{m k:Bool}{d:D}{n:Nat}{pos p2:aK}
theorem DE.isNotN(ha:DT X ρ a d):DE X ρ (.Compare a [.IsNot] [.Constant .none n p2] pos) (.bl (!d.isNon)):=λσ H Q R q =>(Jr jca peS j5c (zf _)).to (ha σ H _ R λx H1 g1 e1=>⟨rfl,q _ H1 g1 (by rw[Ru e1];rfl)⟩)
end
end L2
end
section
namespace PySem
open Sem (wp)
namespace F
end F
section
variable{prog:au}{w:az}{A:aC}{E:k8e}{s:af}{I:aa}{fp wr:List aa}{G:Array f6->Array f6->Prop}{n:Nat}{P:Nat->a9->Prop}{St:Nat->af->Prop}
end
end PySem
namespace L2
open PySem PySem.Spec PyProof.Rows
section
variable{X:Cx}{ρ:Rho}{a:aj}{ds:List D}{p p1 p2 p3 pos:aK}
end
noncomputable def Sl.abs:Sl->Sv
 |.un=>.un
 |.val d=>.val d
 |.own _ l=>.own l
 |.raw _ _ x=>.exc x
noncomputable def j8(ρ:Rho):En:=ρ.map Sl.abs
theorem Wz{ρ:Rho}{i:Nat}:(j8 ρ)[i]?=(ρ[i]?).map Sl.abs:=X3 ..
theorem Zt{ρ:Rho}{i:Nat}{d:D}(h:(j8 ρ)[i]?=a3 (.val d)):ρ[i]?=a3 (.val d):=by
 rw[Wz]at h;cases e:ρ[i]? with
 |none=>rw[e]at h;cases h
 |some s=>rw[e]at h;cases s<;>cases h;rfl
theorem je2{ρ:Rho}{i:Nat}(h:(j8 ρ)[i]?=a3 .un):ρ[i]?=a3 .un:=by
 rw[Wz]at h;cases e:ρ[i]? with
 |none=>rw[e]at h;cases h
 |some s=>rw[e]at h;cases s<;>cases h;rfl
theorem Qd{ρ:Rho}{i:Nat}{l:List D}(h:(j8 ρ)[i]?=a3 (.own l)):∃a,ρ[i]?=a3 (.own a l):=by
 rw[Wz]at h;cases e:ρ[i]? with
 |none=>rw[e]at h;cases h
 |some s=>rw[e]at h;cases s<;>cases h;exact⟨_,rfl⟩
theorem jc{ρ:Rho}{i:Nat}{s:Sl}:j8 (ρ.set i s)=(j8 ρ).set i s.abs:=kC ..
noncomputable def Bop.op:Bop->jO
 |.add=>.Add
 |.sub=>.Sub
 |.mul=>.Mult
 |.fdiv=>.FloorDiv
 |.mod=>.Mod
 |.pow=>.Pow
 |.shl=>.LShift
 |.shr=>.RShift
 |.band=>.BitAnd
 |.bxor=>.BitXor
noncomputable def Cop.op:Cop->fV
 |.lt=>.Lt
 |.le=>.LtE
 |.gt=>.Gt
 |.ge=>.GtE
 |.eq=>.Eq
 |.ne=>.NotEq
 |.isin=>.In
 |.notin=>.NotIn
noncomputable def Bf.name:Bf->ah
 |.len=>"len"
 |.min=>"min"
 |.max=>"max"
 |.all=>"all"
 |.tuple=>"tuple"
 |.list=>"list"
 |.sum=>"sum"
 |.int=>"int"
 |.any=>"any"
 |.sorted=>"sorted"
noncomputable def Vy:List ah:=["len","min","max","all","tuple","list","sum","int","any","sorted","isinstance","bool","str","range","zip","enumerate","reversed","ValueError","set","dict"]
noncomputable def Vx(x:ah):Bool:=x.cps.toList.head?==a3 33 || x.cps.toList.head?==a3 63
inductive Nd where
 |e (x:aj)
 |b (x:aj)
 |w (x:aj)
 |a (xs:List aj)
 |i (tg it:aj)
 |o (x:Option aj)
 |c (xs:List aj)
 |p (xs:List aj)
structure Cok(X:Cx)(G:ah->Option D):Prop where
 un':X.A.units+100<aS
 un:X.calm=a5->X.A.units+150<aS
 dp:X.calm=a5->X.A.depth+4<eT
 bt:∀x∈Vy,X.mg x=a6
 gl:∀x d,Vx x=a4->G x=a3 d->∃u v,X.mg x=a3 u/\RelV v u/\∀H,Enc X.K H d v
 nd:X.N.Nodup
 po:fg (ax X.prog X.w) X.A X.env X.xe
 ea:Ip X.K=a5
 ec:∀x d,G (bang x)=a3 d->x∈Jv/\∃o,W.nsIn X.K aq x=a3 (a3 o)
 el:G "?" = a3 (.bl a5)->∀c∈Jv,∃v,W.nsIn X.K aq c=a3 (a3 v)
 kin:X.K.In X.base
 ns:X.base.Ns aq X.mg
 kd:∀x l,G (bang x)=a3 (.lst l)->Kinds X "_law_kinds" x l
 fn:∀f d,G (qm f)=a3 d->∃fa,X.mg f=a3 (.ref fa)/\W.keepIn X.K (.ref fa)=a5
 pl:∀d,G (qm "_law_plan")=a3 d->Cal X "_law_plan" (jen X.K jak)
 lm:∀x∈Zz,X.env.qual=x ++ ".<locals>."->∃c P,X.env.code=.ref c/\W.codeHdIn X.K c P=a5/\W.tabIn X.K x=a3 (c,P)
def Gok(X:Cx)(Γ:ah->List D->Rc):Prop:=∀f ds,match Γ f ds with
 |.val d=>Cal X f (spP X.K λds' d'=>ds'=ds/\d'=d)
 |.fresh l=>Cal X f (spF X.K λds' l'=>ds'=ds/\l'=l)
 |.err x=>CalX X f (spX X.K X.mg λds' y=>ds'=ds/\y=x)
 |.lval d=>∀x,f=jx x->∃k,Room k X.A/\Iv X.prog X.w X.K X.mg X.base k x λds' d'=>ds'=ds/\d'=d
 |.no=>True
theorem Cok.comp{X:Cx}{G:ah->Option D}{scope:b7}{C:aa}{s:af}{H:Hp}{fp:List aa}{pn:k8f}(h:Cok X G):Cok (cCx X scope C s H fp pn) G:=⟨h.un',h.un,h.dp,h.bt,h.gl,h.nd,bP,h.ea,h.ec,h.el,h.kin,h.ns,h.kd,h.fn,λd e=>Cal.comp (h.pl d e),h.lm⟩
theorem Gok.comp{X:Cx}{Γ:ah->List D->Rc}{scope:b7}{C:aa}{s:af}{H:Hp}{fp:List aa}{pn:k8f}(h:Gok X Γ):Gok (cCx X scope C s H fp pn) Γ:=λf ds=>by
 have q:=h f ds;cases e:Γ f ds with
 |val d=>rw[e]at q;exact Cal.comp q
 |fresh l=>rw[e]at q;exact Cal.comp q
 |err x=>rw[e]at q;exact⟨q.ex⟩
 |lval d=>rw[e]at q;exact q
 |no=>trivial
inductive HasA(X:Cx)(ρ:Rho):List aj->List Rk->Prop where
 |nil:HasA X ρ [] []
 |cons {a:aj} {es:List aj} {r:Rk} {rs:List Rk} (hs:a8 (a::es) X.env=(a4,ay a X.env)::a8 es X.env):Has X ρ a r->HasA X ρ es rs->HasA X ρ (a::es) (r::rs)
section
variable{X:Cx}{ρ:Rho}{es:List aj}{rs:List Rk}
theorem HasA.toA:∀{es:List aj}{rs:List Rk}{ds:List D},HasA X ρ es rs->zm rs=a3 ds->DA X ρ es ds
 |_,_,_,.nil,q=>by cases q;exact DA.nil
 |_,_,ds,.cons (r:=r) (rs:=rs) hs h t,q=>by
  unfold zm at q;cases e1:r.st with
  |none=>rw[e1]at q;cases q
  |some d =>
   cases e2:zm rs with
   |none=>rw[e1,e2]at q;cases q
   |some ds'=>rw[e1,e2]at q;cases q;exact DA.cons (h.toE e1) (t.toA e2) hs
theorem HasA.toT:∀{es:List aj}{rs:List Rk},HasA X ρ es rs->DTA X ρ es (rs.map Rk.d)
 |_,_,.nil=>DTA.nil
 |_,_,.cons hs h t=>DTA.cons h.toT t.toT hs
theorem HasA.one{e:aj}(h:HasA X ρ [e] rs):∃r,rs=[r]/\Has X ρ e r/\a8 [e] X.env=[(a4,ay e X.env)]:=by cases h with|cons hs h t=>cases t;exact⟨_,rfl,h,hs⟩
theorem DO.unfrz{e:aj}{i:Nat}{a:aa}{l ds:List D}(hk:ρ[i]?=a3 (.own a l))(h:DO X (ρ.set i (.val (.lst l))) e ds)(hn:zg ds=a5):DO X ρ e ds:=λσ H Q R q =>
 h σ H Q (R.freeze hk) λb xs H' g n m en=>q b xs H' g n m ((en.mono ju).hide (λc hc=>by
  rcases xq.mp hc with z|z
  .rw[z];exact .inl ⟨xs,m⟩
  .exact .inl ((R.grow g).owned c z)) hn)
end
theorem Dc{f:D->Option (Option D)}:∀{ds l:List D},J1 f ds=a3 l ->
  l=(ds.filter (λd=>(f d).join.isSome)).map (λd=>(f d).join.getD .non)/\∀d∈ds,∃o,f d=a3 o
 |[],l,h=>by cases h;exact⟨rfl,λd hd=>nomatch hd⟩
 |d::ds,l,h=>by
  unfold J1 at h;cases e1:f d with
  |none=>rw[e1]at h;cases h
  |some o =>
   cases e2:J1 f ds with
   |none=>rw[e1,e2]at h;cases o<;>cases h
   |some xs =>
    rw[e1,e2]at h;obtain⟨q1,q2⟩:=Dc e2;have mem:∀d'∈d::ds,∃o,f d'=a3 o:=λd' hd=>by
     rcases xq.mp hd with z|z
     .subst z;exact⟨o,e1⟩
     .exact q2 d' z
    cases o with
    |none=>cases h;exact⟨by rw[Pk (by rw[e1];simp)];exact q1,mem⟩
    |some x=>cases h;exact⟨by rw[Pz (by rw[e1];rfl),xr,<-q1,e1];rfl,mem⟩
section
variable{X:Cx}{ρ:Rho}{a b:aj}{d da db:D}{ds ds':List D}{pos:aK}{k:Bool}
theorem j61 {t c:String} (h:za t c=a3 k):t ≠ "function":=λz=>by unfold za at h;rw[if_pos z]at h;cases h
theorem j2a{K:k8d}{c:String}(h:za d.ty c=a3 k):W.kitOne K (.type d.ty) (.type c)=a3 k:=by
 have nf:d.ty ≠ "function":=j61 h;unfold za at h;rw[if_neg nf]at h;by_cases h1:c = "int"
 .subst h1;cases d<;>first|exact absurd rfl nf|(simp[D.ty]at h;subst h;kernel_rfl)
 rw[if_neg h1]at h;by_cases h2:c = "bool"
 .subst h2;cases d<;>first|exact absurd rfl nf|(simp[D.ty]at h;subst h;kernel_rfl)
 rw[if_neg h2]at h;by_cases h3:c = "str"
 .subst h3;cases d<;>first|exact absurd rfl nf|(simp[D.ty]at h;subst h;kernel_rfl)
 rw[if_neg h3]at h;by_cases h4:c = "list"
 .subst h4;cases d<;>first|exact absurd rfl nf|(simp[D.ty]at h;subst h;kernel_rfl)
 rw[if_neg h4]at h;by_cases h5:c = "tuple"
 .subst h5;cases d<;>first|exact absurd rfl nf|(simp[D.ty]at h;subst h;kernel_rfl)
 rw[if_neg h5]at h;cases h
theorem j2f {c:String} {cs:List String} (h:qb d (c::cs)=a3 k):d.ty ≠ "function":=by
 unfold qb at h;split at h
 .rename_i e _;exact j61 e
 .cases h
theorem j0i{K:k8d}:∀{cs:List String}{k:Bool},qb d cs=a3 k->W.kitAny K (.type d.ty) (cs.map bL)=a3 k
 |[],k,h=>by cases h;rfl
 |c::cs,k,h=>by
  unfold qb at h;cases e1:za d.ty c with
  |none=>rw[e1]at h;cases h
  |some x =>
   cases e2:qb d cs with
   |none=>rw[e1,e2]at h;cases h
   |some y =>
    rw[e1,e2]at h;cases h;rw[xr,W.kitAny,j2a e1];cases x with
    |true=>simp
    |false=>simp;exact j0i e2
theorem DE.neD(s:Bool)(hu:X.A.units+100<aS)(ha:DT X ρ a (D.seq s ds))(hb:DT X ρ b (D.seq s ds'))(hd:D.depL ds<=98)(nd:D.depL ds'<10000):DE X ρ (.Compare a [.NotEq] [b] pos) (.bl (!zy ds ds')):=λσ H Q R q =>(Jr (j5i hu) peS peS (zf _)).to (ha σ H _ R λv H1 g1 e1=>hb σ H1 _ (R.grow g1) λu H2 g2 e2=>⟨ds,ds',s,e1.mono g2,e2,hd,nd,q _ H2 (g1.trans g2) rfl⟩)
theorem DE.notIn(s:Bool)(hu:X.A.units+100<aS)(ha:DT X ρ a d)(hb:DT X ρ b (D.seq s ds))(hd:D.depL ds<=98)(nd:d.dep<10000)(hm:aG .NotIn b=a4):DE X ρ (.Compare a [.NotIn] [b] pos) (.bl (!ds.any λe=>deq e d)):=λσ H Q R q =>(Jr (Lr hu) peS peS hm).to (ha σ H _ R λv H1 g1 e1=>hb σ H1 _ (R.grow g1) λu H2 g2 e2=>⟨d,ds,s,e1.mono g2,e2,hd,nd,q _ H2 (g1.trans g2) rfl⟩)
theorem DE.in(s:Bool)(hu:X.A.units+100<aS)(ha:DT X ρ a d)(hb:DT X ρ b (D.seq s ds))(hd:D.depL ds<=98)(nd:d.dep<10000)(hm:aG .In b=a4):DE X ρ (.Compare a [.In] [b] pos) (.bl (ds.any λe=>deq e d)):=λσ H Q R q =>(Jr (j5j hu) peS peS hm).to (ha σ H _ R λv H1 g1 e1=>hb σ H1 _ (R.grow g1) λu H2 g2 e2=>⟨d,ds,s,e1.mono g2,e2,hd,nd,q _ H2 (g1.trans g2) rfl⟩)
theorem jbf:∀{b:D}{s:Bool}{l:List D},b.sqv=a3 (s,l)->b=D.seq s l
 |.lst _,_,_,h=>by cases h;rfl
 |.dct _ _,_,_,h=>by cases h
 |.sct _,_,_,h=>by cases h
 |.fn _ _,_,_,h=>by cases h
 |.tup _,_,_,h=>by cases h;rfl
 |.non,_,_,h=>by cases h
 |.bl _,_,_,h=>by cases h
 |.int _,_,_,h=>by cases h
 |.str _,_,_,h=>by cases h
theorem j42{op:Cop}{i j:Int}(h:cmpI op i j=a3 k)(ha:DT X ρ a (.int i))(hb:DT X ρ b (.int j)):DE X ρ (.Compare a [op.op] [b] pos) (.bl k)/\DB X ρ (.Compare a [op.op] [b] pos) k:=by
 cases op<;>(first|(cases h;done)|skip)
 .cases h;exact⟨DE.lt ha hb,DB.lt ha hb⟩
 .cases h;exact⟨DE.le ha hb,DB.le ha hb⟩
 .cases h;exact⟨DE.gt ha hb,DB.gt ha hb⟩
 .cases h;exact⟨DE.ge ha hb,DB.ge ha hb⟩
 .cases h;exact⟨DE.eqI ha hb,DB.eqI ha hb⟩
 .cases h;exact⟨DE.neI ha hb,DB.neI ha hb⟩
theorem Kd{op:Cop}(hu:X.A.units+100<aS)(h:Za op da db=a3 k)(ha:DT X ρ a da)(hb:DT X ρ b db)(hm:aG op.op b=a4) :
  DE X ρ (.Compare a [op.op] [b] pos) (.bl k)/\DB X ρ (.Compare a [op.op] [b] pos) k:=by
 have inn:∀{r:Bool->Bool},(match db.sqv with|some (_,l)=>if D.depL l<=90/\da.dep<=90 then a3 (r (l.any λe=>deq e da))else a6|none=>a6)=a3 k->∃s l,DT X ρ b (D.seq s l)/\D.depL l<=98/\da.dep<10000/\k=r (l.any λe=>deq e da):=λ{r} h=>by
  cases e:db.sqv with
  |none=>rw[e]at h;cases h
  |some p =>
   obtain⟨s,l⟩:=p;rw[e]at h;have h:(if D.depL l<=90/\da.dep<=90 then a3 (r (l.any λe=>deq e da))else a6)=a3 k:=h;by_cases z:D.depL l<=90/\da.dep<=90
   .rw[if_pos z]at h;cases h;exact⟨s,l,jbf e▸hb,by omega,by omega,rfl⟩
   .rw[if_neg z]at h;cases h
 unfold Za at h;split at h
 .exact j42 h ha hb
 .by_cases z:da.dep<=90/\db.dep<=90
  .rw[if_pos z]at h;cases h;exact⟨DE.eqD hu ha hb nofun nofun,DB.eqD hu ha hb nofun nofun⟩
  .rw[if_neg z]at h;cases h
 .cases h;exact⟨DE.neB ha hb,DB.neB ha hb⟩
 .cases h;exact⟨(DE.neS ha hb).eq (by rw[j0s]),(DB.neS ha hb).eq (by rw[j0s])⟩
 .cases h;exact⟨(DE.neS ha hb).eq (by simp),(DB.neS ha hb).eq (by simp)⟩
 .rename_i l m;by_cases z:D.depL l<=90/\D.depL m<=90
  .rw[if_pos z]at h;cases h;exact⟨DE.neD a5 hu ha hb nofun nofun,DB.neD a5 hu ha hb nofun nofun⟩
  .rw[if_neg z]at h;cases h
 .rename_i l m;by_cases z:D.depL l<=90/\D.depL m<=90
  .rw[if_pos z]at h;cases h;exact⟨DE.neD a4 hu ha hb nofun nofun,DB.neD a4 hu ha hb nofun nofun⟩
  .rw[if_neg z]at h;cases h
 .cases h;exact⟨DE.inS ha hb hm,DB.inS ha hb hm⟩
 .cases h;exact⟨DE.ltS ha hb,DB.ltS ha hb⟩
 .cases h;exact⟨DE.gtS ha hb,DB.gtS ha hb⟩
 .obtain⟨s,l,hb,hd,nd,e⟩:=inn (r:=id) h;subst e;exact⟨DE.in s hu ha hb hd nd hm,DB.in s hu ha hb hd nd hm⟩
 .obtain⟨s,l,hb,hd,nd,e⟩:=inn (r:=(!·)) h;subst e;exact⟨DE.notIn s hu ha hb hd nd hm,DB.notIn s hu ha hb hd nd hm⟩
 .cases h
theorem DE.shr{i j:Int}(ha:DT X ρ a (.int i))(hb:DT X ρ b (.int j))(h:0<=j):DE X ρ (.BinOp a .RShift b pos) (.int (i/2^j.toNat)):=DE.arI (g:=λi j=>i/2^j.toNat) jfk ha hb h
theorem q8{α:Type}{c:Prop}[Decidable c]{x y:α}(h:(if c then a3 x else a6)=a3 y):c/\x=y:=by
 by_cases z:c
 .rw[if_pos z]at h;exact⟨z,av h⟩
 .rw[if_neg z]at h;cases h
theorem j44{op:Bop}{i j n:Int}(h:binI op i j=a3 n)(ha:DT X ρ a (.int i))(hb:DT X ρ b (.int j)):DE X ρ (.BinOp a op.op b pos) (.int n):=by
 cases op
 .cases h;exact DE.add ha hb
 .cases h;exact DE.sub ha hb
 .obtain⟨z,e⟩:=q8 h;subst e;exact DE.mul ha hb z
 .obtain⟨z,e⟩:=q8 h;subst e;exact DE.fdivB ha hb z
 .obtain⟨z,e⟩:=q8 h;subst e;exact DE.mod ha hb z
 .obtain⟨z,e⟩:=q8 h;subst e;exact DE.pow ha hb z
 .obtain⟨z,e⟩:=q8 h;subst e;exact DE.shl ha hb z
 .obtain⟨z,e⟩:=q8 h;subst e;exact DE.shr ha hb z
 .cases h;exact DE.arI0 jfq ha hb
 .cases h;exact DE.arI0 jfi ha hb
theorem zj{n:Nat}(h:jr n=a5):n<=ak:=of_decide_eq_true h
end
section
variable{X:Cx}{ρ:Rho}{a b e:aj}{es:List aj}{d:D}{pos p:aK}
theorem Has.lw:∀{r:Rk}{l:List D},Has X ρ a r->r.lw=a3 l->DL X ρ a l
 |.o l,_,h,q=>by cases q;exact DO.toL h
 |.w l,_,h,q=>by cases q;exact h
 |.e _,_,_,q=>by cases q
 |.t _,_,_,q=>by cases q
theorem j74{op:Bop}{x y r:Rk}(h:Ur op x y=a3 r)(ha:Has X ρ a x)(hb:Has X ρ b y):Has X ρ (.BinOp a op.op b pos) r:=by
 unfold Ur at h;split at h
 .rename_i i j e1 e2;cases z:binI op i j with
  |none=>rw[z]at h;cases h
  |some n=>rw[z]at h;cases h;exact j44 z (e1▸ha.toT) (e2▸hb.toT)
 .rename_i y z e1 e2;split at h
  .obtain⟨q,e⟩:=q8 h;subst e;exact DE.catS (e1▸ha.toT) (e2▸hb.toT) (zj q)
  .cases h
 .rename_i y k e1 e2;split at h
  .obtain⟨q,e⟩:=q8 h;subst e;exact DE.mulS (e1▸ha.toT) (e2▸hb.toT) q.1 q.2
  .cases h
 .split at h
  .rename_i l m _ e1 e2;obtain⟨z,q⟩:=q8 h;subst q;exact DO.catM (ha.toM e1) (hb.toM e2) (zj z)
  .rename_i l m _ e1 e2;obtain⟨z,q⟩:=q8 h;subst q;exact DE.catTM (ha.toM e1) (hb.toM e2) (zj z)
  .rename_i l k _ _ e1 e3;obtain⟨z,q⟩:=q8 h;subst q;exact DE.repT (ha.toM e1) (e3▸hb.toT) (λe=>by subst e;exact absurd z.2.2.1 (by simp)) z.1 z.2.1 (zj z.2.2.2)
  .rename_i k _ _ _ e3 _;cases e:x.lw with
   |none=>rw[e]at h;cases h
   |some l =>rw[e]at h;obtain⟨z,q⟩:=q8 h;subst q;exact DO.rep (ha.lw e) (e3▸hb.toT) z.1 z.2.1 (zj z.2.2)
  .cases h
theorem Ws:∀{l:List D}{bs:List Bool},boolsOf l=a3 bs->l=bs.map D.bl
 |[],_,h=>by cases h;rfl
 |.bl b::r,bs,h=>by
  unfold boolsOf at h;cases e:boolsOf r with
  |none=>rw[e]at h;cases h
  |some q=>rw[e]at h;cases h;rw[Ws e];rfl
 |.non::_,_,h=>by cases h
 |.int _::_,_,h=>by cases h
 |.str _::_,_,h=>by cases h
 |.tup _::_,_,h=>by cases h
 |.lst _::_,_,h=>by cases h
 |.dct _ _::_,_,h=>by cases h
 |.sct _::_,_,h=>by cases h
 |.fn _ _::_,_,h=>by cases h
theorem Q0:∀{l:List D}{bs:List Int},intsOf l=a3 bs->l=bs.map D.int
 |[],_,h=>by cases h;rfl
 |.int b::r,bs,h=>by
  unfold intsOf at h;cases e:intsOf r with
  |none=>rw[e]at h;cases h
  |some q=>rw[e]at h;cases h;rw[Q0 e];rfl
 |.non::_,_,h=>by cases h
 |.bl _::_,_,h=>by cases h
 |.str _::_,_,h=>by cases h
 |.tup _::_,_,h=>by cases h
 |.lst _::_,_,h=>by cases h
 |.dct _ _::_,_,h=>by cases h
 |.sct _::_,_,h=>by cases h
 |.fn _ _::_,_,h=>by cases h
theorem Rg:∀{l:List D}{bs:List ah},strsOf l=a3 bs->l=bs.map D.str
 |[],_,h=>by cases h;rfl
 |.str b::r,bs,h=>by
  unfold strsOf at h;cases e:strsOf r with
  |none=>rw[e]at h;cases h
  |some q=>rw[e]at h;cases h;rw[Rg e];rfl
 |.non::_,_,h=>by cases h
 |.bl _::_,_,h=>by cases h
 |.int _::_,_,h=>by cases h
 |.tup _::_,_,h=>by cases h
 |.lst _::_,_,h=>by cases h
 |.dct _ _::_,_,h=>by cases h
 |.sct _::_,_,h=>by cases h
 |.fn _ _::_,_,h=>by cases h
theorem Jk{w:Option W}{k:Bool}(h:truth w=a3 k):∃r,w=a3 (.v r)/\r.d=.bl k:=by
 unfold truth at h;split at h
 .rename_i r;split at h
  .rename_i q e;cases h;exact⟨r,rfl,e⟩
  .cases h
 .cases h
def jii(X:Cx)(ρ:Rho):List aj->List Rk->Prop
 |[],[]=>True
 |e::es,r::rs=>(∀y,jah r.d=a3 y->DE X ρ e (.str y))/\jii X ρ es rs
 |_,_=>False
def jig(Γ:ah->List D->Rc)(G:ah->Option D)(X:Cx)(t:Ex):Nd->Prop
 |.e e=>∀ρ r,ev Γ G t (j8 ρ)=a3 (.v r)->Has X ρ e r
 |.b e=>∀ρ k,truth (ev Γ G t (j8 ρ))=a3 k->DB X ρ e k
 |.w e=>∀ρ k,truth (ev Γ G t (j8 ρ))=a3 k->DW X ρ e k
 |.a es=>∀ρ rs,ev Γ G t (j8 ρ)=a3 (.a rs)->HasA X ρ es rs
 |.i tg it=>∀ρ ds,ev Γ G t (j8 ρ)=a3 (.i ds)->DI X ρ tg it ds
 |.o e=>∀ρ o,Qv (ev Γ G t (j8 ρ))=a3 o->DP X ρ e o
 |.p es=>∀ρ rs,ev Γ G t (j8 ρ)=a3 (.a rs)->jii X ρ es rs
 |.c ifs=>∀ρ,(ev Γ G t (j8 ρ)=a3 (.a [])->DTs X ρ ifs a5)/\∀y k,ev Γ G t (j8 ρ)=a3 (.a [y])->y.d=.bl k->DTs X ρ ifs k
end
section
variable{Γ:ah->List D->Rc}{G:ah->Option D}{X:Cx}
theorem Oo{is:List Nat}{elt' it' c':Ex}{elt it tg:aj}{ifs:List aj}{scope:b7}{ρ:Rho}{r:Rk}
  (hit:∀ρ ds,ev Γ G it' (j8 ρ)=a3 (.i ds)->DI X ρ tg it ds)
  (hb:∀ρ d ρ2,qz is d (j8 ρ)=a3 ρ2->(∀j∈is,ρ[j]?=a3 .un)->∃ρ',j8 ρ'=ρ2/\Wk ρ' ρ/\owns ρ'=owns ρ/\∀C s H fp pn,DG (cCx X scope C s H fp pn) ρ tg d ρ')
  (he:∀C s H fp pn ρ r,ev Γ G elt' (j8 ρ)=a3 (.v r)->Has (cCx X scope C s H fp pn) ρ elt r)
  (hc:∀C s H fp pn ρ,(ev Γ G c' (j8 ρ)=a3 (.a [])->DTs (cCx X scope C s H fp pn) ρ ifs a5)/\∀y k,ev Γ G c' (j8 ρ)=a3 (.a [y])->y.d=.bl k->DTs (cCx X scope C s H fp pn) ρ ifs k)
  (h:ev Γ G (.comp is elt' it' c') (j8 ρ)=a3 (.v r)):∃(l:List D)(ρf:Rho)(ds:List D)(pr:D->Bool)(g:D->D),r=.o l/\l=(ds.filter pr).map g /\
   (ρf=ρ\/(zg l=a5/\∃(i:Nat)(a:aa)(l':List D),ρ[i]?=a3 (.own a l')/\ρf=ρ.set i (.val (.lst l'))))/\DI X ρf tg it ds/\(∀j∈is,ρf[j]?=a3 .un)/\ds.length<=ak /\
   (∀C s H fp pn,∀d∈ds,∃ρ2,DG (cCx X scope C s H fp pn) ρf tg d ρ2/\Wk ρ2 ρf/\owns ρ2=owns ρf/\DTs (cCx X scope C s H fp pn) ρ2 ifs (pr d)/\(pr d=a5->DE (cCx X scope C s H fp pn) ρ2 elt (g d))):=by
 have fr:∃ρf,j8 ρf=frz it' (j8 ρ)/\((Jf it' (j8 ρ)=a4/\ρf=ρ)\/(Jf it' (j8 ρ)=a5/\∃i a l,ρ[i]?=a3 (.own a l)/\ρf=ρ.set i (.val (.lst l)))):=by
  by_cases z:Jf it' (j8 ρ)=a5
  .unfold Jf at z;split at z
   .rename_i i ei;split at z
    .rename_i l e;obtain⟨a,q⟩:=Qd e;refine⟨ρ.set i (.val (.lst l)),?_,.inr ⟨?_,i,a,l,q,rfl⟩⟩
     .rw[jc];simp only[frz,ei,e,Sl.abs]
     .simp only[Jf,ei,e]
    .cases z
   .cases z
  .have z':Jf it' (j8 ρ)=a4:=by simpa using z
   refine⟨ρ,?_,.inl ⟨z',rfl⟩⟩;unfold frz;split
   .rename_i i ei;split
    .rename_i l e;simp only[Jf,ei,e]at z';cases z'
    .rfl
   .rfl
 obtain⟨ρf,ef,fr⟩:=fr;rw[ji6]at h;rw[<-ef]at h;split at h
 .rename_i ds hds;split at h
  .rename_i hz;obtain⟨hfree,hlen⟩:=hz;generalize hf:(λd=>_:D->Option (Option D))=f at h;cases hl:J1 f ds with
   |none=>rw[hl]at h;cases h
   |some l =>
    rw[hl]at h;have h:(if (Jf it' (j8 ρ) && !zg l)=a5 then a6 else a3 (W.v (.o l)))=a3 (.v r):=h;by_cases zz:(Jf it' (j8 ρ) && !zg l)=a5
    .rw[if_pos zz]at h;cases h
    .rw[if_neg zz]at h;cases h;obtain⟨el,hmem⟩:=Dc hl;have hun:∀j∈is,ρf[j]?=a3 .un:=λj hj=>by
      have:=Pa.mp hfree j hj;split at this
      .rename_i e;exact je2 e
      .cases this
     refine⟨l,ρf,ds,_,_,rfl,el,?_,hit ρf ds hds,hun,zj hlen,λC s H fp pn d hd=>?_⟩
     .rcases fr with ⟨_,e⟩|⟨e1,i,a,l',hk,e⟩
      .exact .inl e
      .exact .inr ⟨by rw[e1]at zz;simpa using zz,i,a,l',hk,e⟩
     ·
      obtain⟨o,ho⟩:=hmem d hd;rw[<-hf]at ho ⊢;dsimp only at ho ⊢;cases hb2:qz is d (j8 ρf) with
      |none=>rw[hb2]at ho;cases ho
      |some ρ2 =>
       obtain⟨ρ',e',wk,ow,dg⟩:=hb ρf d ρ2 hb2 hun;subst e';refine⟨ρ',dg C s H fp pn,wk,ow,?_⟩;rw[hb2]at ho;dsimp only at ho ⊢;cases hcv:ev Γ G c' (j8 ρ') with
       |none=>rw[hcv]at ho;cases ho
       |some w =>
        rw[hcv]at ho;split at ho
        .rename_i hw;cases hw;cases hev:ev Γ G elt' (j8 ρ') with
         |none=>rw[hev]at ho;cases ho
         |some w =>
          rw[hev]at ho;cases w with
          |i _=>cases ho
          |a _=>cases ho
          |v x =>
           dsimp only at ho ⊢;cases hst:x.st with
           |none=>rw[hst]at ho;cases ho
           |some y =>simp only[hst,iY,iI,eF,dj];exact⟨((hc C s H fp pn ρ').1 hcv),λ_=>(he C s H fp pn ρ' x hev).toE hst⟩
        .rename_i y hw;cases hw;split at ho
         .rename_i e1;cases hev:ev Γ G elt' (j8 ρ') with
          |none=>rw[hev]at ho;cases ho
          |some w =>
           rw[hev]at ho;cases w with
           |i _=>cases ho
           |a _=>cases ho
           |v x =>
            dsimp only at ho ⊢;cases hst:x.st with
            |none=>rw[hst]at ho;cases ho
            |some z =>simp only[e1,hst,iY,iI,eF,dj];exact⟨(hc C s H fp pn ρ').2 y a5 hcv e1,λ_=>(he C s H fp pn ρ' x hev).toE hst⟩
         .rename_i e1;simp only[e1,Option.join,kg];exact⟨(hc C s H fp pn ρ').2 y a4 hcv e1,λz=>by cases z⟩
         .cases ho
        .cases ho
  .cases h
 .cases h
theorem Fy{is:List Nat}{elt' it' c':Ex}{elt it tg:aj}{ifs:List aj}{scope:b7}{p:aK}{ρ:Rho}{r:Rk}(hq:X.calm=a5)(hX:Cok X G)
  (hit:∀ρ ds,ev Γ G it' (j8 ρ)=a3 (.i ds)->DI X ρ tg it ds) (hkind:scope.kind=.function) (hok:Jx scope X.env X.N is=a5) (hs:∀x,aB it X.env x=pure x)
  (hb:∀ρ d ρ2,qz is d (j8 ρ)=a3 ρ2->(∀j∈is,ρ[j]?=a3 .un)->∃ρ',j8 ρ'=ρ2/\Wk ρ' ρ/\owns ρ'=owns ρ/\∀C s H fp pn,DG (cCx X scope C s H fp pn) ρ tg d ρ')
  (he:∀C s H fp pn ρ r,ev Γ G elt' (j8 ρ)=a3 (.v r)->Has (cCx X scope C s H fp pn) ρ elt r)
  (hc:∀C s H fp pn ρ,(ev Γ G c' (j8 ρ)=a3 (.a [])->DTs (cCx X scope C s H fp pn) ρ ifs a5)/\∀y k,ev Γ G c' (j8 ρ)=a3 (.a [y])->y.d=.bl k->DTs (cCx X scope C s H fp pn) ρ ifs k)
  (h:ev Γ G (.comp is elt' it' c') (j8 ρ)=a3 (.v r)):∃l,r=.o l/\DO X ρ (.ListComp elt [⟨tg,it,ifs,0⟩] scope p) l:=by
 obtain⟨l,ρf,ds,pr,g,er,el,hf,hi,hun,hz,hb'⟩:=Oo hit hb he hc h;refine⟨l,er,?_⟩;have main:DO X ρf (.ListComp elt [⟨tg,it,ifs,0⟩] scope p) ((ds.filter pr).map g):=DO.comp is _ _ hi hb' hun hz hq hkind hok hs;rw[<-el]at main;rcases hf with e|⟨hn,i,a,l',hk,e⟩
 .subst e;exact main
 .subst e;exact DO.unfrz hk main hn
end
section
variable{X:Cx}{ρ:Rho}{a b e:aj}{es:List aj}{d:D}{pos p:aK}
theorem Has.map(h:∀σ H Q,Qm X a σ H Q->Qm X e σ H Q):∀{r:Rk},Has X ρ a r->Has X ρ e r
 |.e _,q=>λσ H Q R z=>h σ H Q (q σ H Q R z)
 |.o _,q=>λσ H Q R z=>h σ H Q (q σ H Q R z)
 |.w _,q=>λσ H Q R z=>h σ H Q (q σ H Q R z)
 |.t _,q=>λσ H Q R z=>h σ H Q (q σ H Q R z)
theorem Has.bl{r:Rk}{k:Bool}(h:Has X ρ a r)(e:r.d=.bl k):DE X ρ a (.bl k):=DT.toE (e▸h.toT)
theorem Q3{f:Bf}{rs:List Rk}{r:Rk}{p2:aK}{G:ah->Option D}(c:Cok X G)(hq:f=.min\/f=.all\/f=.sum\/f=.any\/f=.max->X.calm=a5)(hg:Gl X f.name)(h:Zb f rs=a3 r)(ha:HasA X ρ es rs):Has X ρ (.Call (.Name f.name p) es [] p2) r:=by
 have one:∀{x:Rk},HasA X ρ es [x]->∃e,es=[e]/\Has X ρ e x/\a8 [e] X.env=[(a4,ay e X.env)]:=λ{x} h=>by cases h with|cons hs h t=>cases t;exact⟨_,rfl,h,hs⟩
 have two:∀{x y:Rk},HasA X ρ es [x,y]->∃e f,es=[e,f]/\Has X ρ e x/\Has X ρ f y/\a8 [e,f] X.env=(a4,ay e X.env)::a8 [f] X.env/\a8 [f] X.env=[(a4,ay f X.env)]:=λ{x y} h=>by cases h with|cons hs h t=>cases t with|cons hs2 h2 t2=>cases t2;exact⟨_,_,rfl,h,h2,hs,hs2⟩
 unfold Zb at h;split at h
 .rename_i x;obtain⟨e,ee,hx,hs⟩:=one ha;subst ee;split at h
  .rename_i l el;cases h;exact DE.lenL (el▸hx.toT) (c.bt _ (by decide)) hg hs
  .rename_i l el;cases h;exact DE.lenT (el▸hx.toT) (c.bt _ (by decide)) hg hs
  .rename_i y el;obtain⟨z,q⟩:=q8 h;subst q;exact DE.lenS (el▸hx.toT) (zj z) (c.bt _ (by decide)) hg hs
  .cases h
 .rename_i x y;obtain⟨e,f,ee,hx,hy,hs,hs2⟩:=two ha;subst ee;split at h
  .rename_i i j ei ej;cases h;exact DE.min (ei▸hx.toT) (ej▸hy.toT) (c.bt _ (by decide)) (hq (.inl rfl)) hg hs hs2 (by rw[hs2];rfl)
  .cases h
 .rename_i x y;obtain⟨e,f,ee,hx,hy,hs,hs2⟩:=two ha;subst ee;split at h
  .rename_i i j ei ej;cases h;exact DE.max2 (ei▸hx.toT) (ej▸hy.toT) (c.bt _ (by decide)) (hq (.inr (.inr (.inr (.inr rfl))))) hg hs hs2 (by rw[hs2];rfl)
  .cases h
 .rename_i x;obtain⟨e,ee,hx,hs⟩:=one ha;subst ee;split at h
  .rename_i l el;split at h
   .rename_i ns en;obtain⟨z,q⟩:=q8 h;cases q;have:=Q0 en;subst this;exact DE.maxL (el▸hx.toT) (λz'=>by subst z';simp at z) (c.bt _ (by decide)) (hq (.inr (.inr (.inr (.inr rfl))))) hg hs
   .cases h
  .cases h
 .rename_i x;obtain⟨e,ee,hx,hs⟩:=one ha;subst ee;split at h
  .rename_i l el;split at h
   .rename_i ns en;obtain⟨z,q⟩:=q8 h;cases q;have:=Q0 en;subst this;exact DE.minL (el▸hx.toT) (λz'=>by subst z';simp at z) (c.bt _ (by decide)) (hq (.inl rfl)) hg hs
   .cases h
  .cases h
 .rename_i x;obtain⟨e,ee,hx,hs⟩:=one ha;subst ee;split at h
  .rename_i l el;cases q:boolsOf l with
   |none=>rw[q]at h;cases h
   |some bs =>rw[q]at h;cases h;have:=Ws q;subst this;exact DE.all (el▸hx.toT) (c.bt _ (by decide)) (hq (.inr (.inl rfl))) hg hs
  .cases h
 .rename_i x;obtain⟨e,ee,hx,hs⟩:=one ha;subst ee;split at h
  .rename_i l el;cases q:boolsOf l with
   |none=>rw[q]at h;cases h
   |some bs =>rw[q]at h;cases h;have:=Ws q;subst this;exact DE.any (el▸hx.toT) (c.bt _ (by decide)) (hq (.inr (.inr (.inr (.inl rfl))))) hg hs
  .cases h
 .rename_i x;obtain⟨e,ee,hx,hs⟩:=one ha;subst ee;split at h
  .rename_i s l el;cases h;exact DE.tupM (hx.toM el) (c.bt _ (by decide)) hg hs
  .cases h
 .rename_i x;obtain⟨e,ee,hx,hs⟩:=one ha;subst ee;split at h
  .rename_i s l el;cases h;exact DO.listM (hx.toM el) (c.bt _ (by decide)) hg hs
  .cases h
 .rename_i x;obtain⟨e,ee,hx,hs⟩:=one ha;subst ee;split at h
  .rename_i l el;cases q:intsOf l with
   |none=>rw[q]at h;cases h
   |some ns =>rw[q]at h;cases h;have:=Q0 q;subst this;exact DE.sum a5 (show DT X ρ e (.lst (ns.map D.int))from el▸hx.toT) (c.bt _ (by decide)) (hq (.inr (.inr (.inl rfl)))) hg hs
  .rename_i l el;cases q:intsOf l with
   |none=>rw[q]at h;cases h
   |some ns =>rw[q]at h;cases h;have:=Q0 q;subst this;exact DE.sum a4 (show DT X ρ e (.tup (ns.map D.int))from el▸hx.toT) (c.bt _ (by decide)) (hq (.inr (.inr (.inl rfl)))) hg hs
  .cases h
 .rename_i x;obtain⟨e,ee,hx,hs⟩:=one ha;subst ee;split at h
  .rename_i k el;cases h;exact DE.int1 (el▸hx.toT) (c.bt _ (by decide)) hg hs
  .cases h
 .cases h
end
section
variable{Γ:ah->List D->Rc}{G:ah->Option D}{X:Cx}
theorem Dl{d:D}{ns:List Int}(h:tupI d=a3 ns):d=.tup (ns.map D.int):=by
 unfold tupI at h;split at h
 .rw[Q0 h]
 .cases h
theorem Iz:∀{l:List D}{ks:List (List Int)},Mj l=a3 ks->l=ks.map λk=>D.tup (k.map D.int)
 |[],ks,h=>by cases h;rfl
 |d::l,ks,h=>by
  unfold Mj at h;split at h
  .rename_i k ks' e1 e2;cases h;rw[Dl e1,Iz e2];rfl
  .cases h
theorem jfb:∀{d:D}{k:Int×List Int},prI d=a3 k->d=pairD k:=λ{d k} h=>by
 unfold prI at h;split at h
 .obtain⟨x,e,z⟩:=Xq.mp h;subst z;rw[Dl e];rfl
 .cases h
theorem j22:∀{l:List D}{ks:List (Int×List Int)},j3c l=a3 ks->l=ks.map pairD
 |[],ks,h=>by cases h;rfl
 |d::l,ks,h=>by
  unfold j3c at h;split at h
  .rename_i k ks' e1 e2;cases h;rw[jfb e1,j22 e2];rfl
  .cases h
theorem j43 {ρ:Rho} {f:ah} {e:aj} {es:List aj} {rs:List Rk} {r:Rk} {p p2:aK} (g:Gok X Γ) (hg:Gl X f) (hdb:(f==k8h)=a4) (he:a8 (e::es) X.env=(a4,ay e X.env)::a8 es X.env)
  (hpl:(aM p2 (a8 es X.env)).any (·.1)=a4) (ha:HasA X ρ (e::es) rs)
  (h:(match zm rs with|some ds=>(Γ f ds).rk.map W.v|none=>match Γ f (rs.map Rk.d)with|.val d=>a3 (.v (.t d))|_=>a6)=a3 (.v r)):Has X ρ (.Call (.Name f p) (e::es) [] p2) r:=by
 split at h
 .rename_i ds hds;have q:=g f ds;cases z:Γ f ds with
  |val d=>rw[z]at h q;cases h;exact DE.call q (ha.toA hds) ⟨rfl,rfl⟩ hg hdb he hpl
  |fresh l=>rw[z]at h q;cases h;exact DO.call q (ha.toA hds) ⟨rfl,rfl⟩ hg hdb he hpl
  |err x=>rw[z]at h;cases h
  |lval d=>rw[z]at h;cases h
  |no=>rw[z]at h;cases h
 .have q:=g f (rs.map Rk.d);split at h
  .rename_i d z;rw[z]at q;cases h;exact DT.call q ha.toT ⟨rfl,rfl⟩ hg hdb he hpl
  .cases h
end
def XM(X:Cx)(ρ:Rho)(y:ah):Nd->Prop
 |.e e=>DX X ρ e y
 |.a es=>DXA X ρ es y
 |_=>True
structure Tr(X:Cx)(t:Ex)(nd:Nd):Prop where
 m:∀(Γ:ah->List D->Rc)(G:ah->Option D),Cok X G->Gok X Γ->jig Γ G X t nd
 x:∀(Γ:ah->List D->Rc)(G:ah->Option D),Cok X G->Gok X Γ->∀ρ y,er Γ G t (j8 ρ)=a3 y->XM X ρ y nd
theorem Tr.int:∀{X:Cx}{i:Int}{n:Nat}{p:aK},Tr X (.lit (.int i)) (.e (.Constant (.int i) n p)):=by intro _ _ _ _;refine⟨λΓ G=>?_,λ_ _ _ _ _ _ h=>nomatch h⟩;intro _ _ ρ r h;simp only[Iu]at h;cases h;exact DE.int
theorem Tr.bl:∀{X:Cx}{b:Bool}{n:Nat}{p:aK},Tr X (.lit (.bl b)) (.e (.Constant (.bool b) n p)):=by intro _ _ _ _;refine⟨λΓ G=>?_,λ_ _ _ _ _ _ h=>nomatch h⟩;intro _ _ ρ r h;simp only[Iu]at h;cases h;exact DE.bl
theorem Tr.non:∀{X:Cx}{n:Nat}{p:aK},Tr X (.lit .non) (.e (.Constant .none n p)):=by intro _ _ _;refine⟨λΓ G=>?_,λ_ _ _ _ _ _ h=>nomatch h⟩;intro _ _ ρ r h;simp only[Iu]at h;cases h;exact DE.non
theorem Tr.str:∀{X:Cx}{y:ah}{n:Nat}{p:aK},Tr X (.lit (.str y)) (.e (.Constant (.str y) n p)):=by intro _ _ _ _;refine⟨λΓ G=>?_,λ_ _ _ _ _ _ h=>nomatch h⟩;intro _ _ ρ r h;simp only[Iu]at h;cases h;exact DE.str
theorem Tr.var:∀{X:Cx}{k:Nat}{x:ah}{p:aK}(hN:X.N[k]?=a3 x) (hv:Vis X.env.scope x) (hd:(x==k8h)=a4) (hcd:(x==k8i)=a4),Tr X (.var k) (.e (.Name x p)):=by
 intro _ _ _ _ hN hv hd hcd;refine⟨λΓ G=>?_,λ_ _ _ _ _ _ h=>nomatch h⟩;intro _ _ ρ r h;simp only[jk5,Dj]at h;split at h
 .rename_i e;cases h;exact DE.var _ (Zt e) hN hv hd hcd
 .rename_i e;cases h;obtain⟨a,q⟩:=Qd e;exact DL.var _ q hN hv hd hcd
 .cases h
theorem Tr.glob:∀{X:Cx}{x:ah}{p:aK}(hg:Gl X x)(hd:(x==k8h)=a4) (hb:Vx x=a4),Tr X (.glob x) (.e (.Name x p)):=by
 intro _ _ _ hg hd hb;refine⟨λΓ G=>?_,λ_ _ _ _ _ _ h=>nomatch h⟩;rename_i X x p;intro c _ ρ r h;simp only[ji3]at h;cases e:G x with
 |none=>rw[e]at h;cases h
 |some d=>rw[e]at h;cases h;obtain⟨u,v,hm,r,q⟩:=c.gl x d hb e;exact DE.glob hg hm r q hd
theorem Tr.bin:∀{X:Cx}{op:Bop}{a' b':Ex}{a b:aj}{p:aK},Tr X a' (.e a)->Tr X b' (.e b)->Tr X (.bin op a' b') (.e (.BinOp a op.op b p)):=by
 intro _ _ _ _ _ _ _ q0 q1;refine⟨λΓ G=>?_,λ_ _ _ _ _ _ h=>nomatch h⟩;have iha:=q0.m Γ G;have ihb:=q1.m Γ G;intro c g ρ r h;simp only[jkb,Zc]at h;split at h
 .rename_i x y ex ey;cases e:Ur _ x y with
  |none=>rw[e]at h;cases h
  |some z=>rw[e]at h;cases h;exact j74 e (iha c g ρ x ex) (ihb c g ρ y ey)
 .cases h
theorem Tr.cmp:∀{X:Cx}{op:Cop}{a' b':Ex}{a b:aj}{p:aK}(hm:aG op.op b=a4),Tr X a' (.e a)->Tr X b' (.e b)->Tr X (.cmp op a' b') (.e (.Compare a [op.op] [b] p)):=by
 intro _ _ _ _ _ _ _ hm q0 q1;refine⟨λΓ G=>?_,λ_ _ _ _ _ _ h=>nomatch h⟩;have iha:=q0.m Γ G;have ihb:=q1.m Γ G;intro c g ρ r h;simp only[jb2,Cr]at h;split at h
 .rename_i x y ex ey;cases e:Za _ x.d y.d with
  |none=>rw[e]at h;cases h
  |some z=>rw[e]at h;cases h;exact(Kd c.un' e (iha c g ρ x ex).toT (ihb c g ρ y ey).toT hm).1
 .cases h
theorem Tr.bcmp:∀{X:Cx}{op:Cop}{a' b':Ex}{a b:aj}{p:aK}(hm:aG op.op b=a4),Tr X a' (.e a)->Tr X b' (.e b)->Tr X (.cmp op a' b') (.b (.Compare a [op.op] [b] p)):=by
 intro _ _ _ _ _ _ _ hm q0 q1;refine⟨λΓ G=>?_,λ_ _ _ _ _ _ _=>trivial⟩;have iha:=q0.m Γ G;have ihb:=q1.m Γ G;intro c g ρ k h;obtain⟨r,h,hk⟩:=Jk h;simp only[jb2,Cr]at h;split at h
 .rename_i x y ex ey;cases e:Za _ x.d y.d with
  |none=>rw[e]at h;cases h
  |some z=>rw[e]at h;cases h;cases hk;exact(Kd c.un' e (iha c g ρ x ex).toT (ihb c g ρ y ey).toT hm).2
 .cases h
theorem Tr.isN:∀{X:Cx}{a':Ex}{a:aj}{n:Nat}{p p2:aK},Tr X a' (.e a)->Tr X (.isN a') (.e (.Compare a [.Is] [.Constant .none n p2] p)):=by
 intro _ _ _ _ _ _ q0;refine⟨λΓ G=>?_,λ_ _ _ _ _ _ h=>nomatch h⟩;have iha:=q0.m Γ G;intro c g ρ r h;simp only[j48]at h;split at h
 .rename_i x ex;cases h;exact DE.isN (iha c g ρ x ex).toT
 .cases h
theorem Tr.bisN:∀{X:Cx}{a':Ex}{a:aj}{n:Nat}{p p2:aK},Tr X a' (.e a)->Tr X (.isN a') (.b (.Compare a [.Is] [.Constant .none n p2] p)):=by
 intro _ _ _ _ _ _ q0;refine⟨λΓ G=>?_,λ_ _ _ _ _ _ _=>trivial⟩;have iha:=q0.m Γ G;intro c g ρ k h;obtain⟨r,h,hk⟩:=Jk h;simp only[j48]at h;split at h
 .rename_i x ex;cases h;cases hk;exact DB.isN (iha c g ρ x ex).toT
 .cases h
theorem Tr.isNN:∀{X:Cx}{a':Ex}{a:aj}{n:Nat}{p p2:aK},Tr X a' (.e a)->Tr X (.not (.isN a')) (.e (.Compare a [.IsNot] [.Constant .none n p2] p)):=by
 intro _ _ _ _ _ _ q0;refine⟨λΓ G=>?_,λ_ _ _ _ _ _ h=>nomatch h⟩;have iha:=q0.m Γ G;intro c g ρ r h;simp only[jb0,j48]at h;cases e:truth _ with
 |none=>rw[e]at h;cases h
 |some k =>
  rw[e]at h;cases h;obtain⟨x,ex,ed⟩:=Jk e;split at ex
  .rename_i y ey;cases ex;cases ed;exact DE.isNotN (iha c g ρ y ey).toT
  .cases ex
theorem Tr.one:∀{X:Cx}{a':Ex}{a:aj}{op:BoolOp}{p:aK},Tr X a' (.e a)->Tr X a' (.e (.BoolOp op [a] p)):=by intro _ _ _ _ _ q0;refine⟨λΓ G=>?_,λΓ G c g ρ y h σ H Q R k=>(j5b peS).to (q0.x Γ G c g ρ y h σ H Q R k)⟩;have iha:=q0.m Γ G;intro c g ρ r h;exact Has.map (λσ H Q q=>(j5b peS).to q) (iha c g ρ r h)
theorem Tr.and:∀{X:Cx}{a' t':Ex}{a b:aj}{rest:List aj}{p:aK},Tr X a' (.e a)->Tr X t' (.e (.BoolOp .And (b::rest) p))->Tr X (.and a' t') (.e (.BoolOp .And (a::b::rest) p)):=by
 intro _ _ _ _ _ _ _ q0 q1;refine⟨λΓ G=>?_,λ_ _ _ _ _ _ h=>nomatch h⟩;have iha:=q0.m Γ G;have ihb:=q1.m Γ G;intro c g ρ r h;simp only[jb3]at h;split at h
 .rename_i e;cases h;obtain⟨x,ex,ed⟩:=Jk e;exact(DE.and (m:=a4) ((iha c g ρ x ex).bl ed).toT λz=>by cases z)
 .rename_i e;obtain⟨x,ex,ed⟩:=Jk e;cases e2:truth (ev Γ G _ (j8 ρ)) with
  |none=>rw[e2]at h;cases h
  |some k =>rw[e2]at h;cases h;obtain⟨y,ey,fd⟩:=Jk e2;exact(DE.and ((iha c g ρ x ex).bl ed).toT λ_=>(ihb c g ρ y ey).bl fd).eq (by simp)
 .cases h
theorem Tr.wand1:∀{X:Cx}{a':Ex}{a:aj}{p:aK},Tr X a' (.b a)->Tr X a' (.w (.BoolOp .And [a] p)):=by intro _ _ _ _ q0;refine⟨λΓ G=>?_,λ_ _ _ _ _ _ _=>trivial⟩;have iha:=q0.m Γ G;intro c g ρ k h;exact DW.and1 (iha c g ρ k h)
theorem Tr.wor1:∀{X:Cx}{a':Ex}{a:aj}{p:aK},Tr X a' (.b a)->Tr X a' (.w (.BoolOp .Or [a] p)):=by intro _ _ _ _ q0;refine⟨λΓ G=>?_,λ_ _ _ _ _ _ _=>trivial⟩;have iha:=q0.m Γ G;intro c g ρ k h;exact DW.or1 (iha c g ρ k h)
theorem Tr.wand:∀{X:Cx}{a' t':Ex}{a b:aj}{rest:List aj}{p:aK},Tr X a' (.b a)->Tr X t' (.w (.BoolOp .And (b::rest) p))->Tr X (.and a' t') (.w (.BoolOp .And (a::b::rest) p)):=by
 intro _ _ _ _ _ _ _ q0 q1;refine⟨λΓ G=>?_,λ_ _ _ _ _ _ _=>trivial⟩;have iha:=q0.m Γ G;have ihb:=q1.m Γ G;intro c g ρ k h;obtain⟨r,h,hk⟩:=Jk h;simp only[jb3]at h;split at h
 .rename_i e;cases h;cases hk;exact DW.and (m:=a4) (iha c g ρ a4 e) λz=>by cases z
 .rename_i e;cases e2:truth (ev Γ G _ (j8 ρ)) with
  |none=>rw[e2]at h;cases h
  |some m =>rw[e2]at h;cases h;cases hk;have q:=DW.and (iha c g ρ a5 e) λ_=>ihb c g ρ _ e2;rw[dk]at q;exact q
 .cases h
theorem Tr.wor:∀{X:Cx}{a' t':Ex}{a b:aj}{rest:List aj}{p:aK},Tr X a' (.b a)->Tr X t' (.w (.BoolOp .Or (b::rest) p))->Tr X (.or a' t') (.w (.BoolOp .Or (a::b::rest) p)):=by
 intro _ _ _ _ _ _ _ q0 q1;refine⟨λΓ G=>?_,λ_ _ _ _ _ _ _=>trivial⟩;have iha:=q0.m Γ G;have ihb:=q1.m Γ G;intro c g ρ k h;obtain⟨r,h,hk⟩:=Jk h;simp only[jlq]at h;split at h
 .rename_i e;cases h;cases hk;exact DW.or (m:=a4) (iha c g ρ a5 e) λz=>by cases z
 .rename_i e;cases e2:truth (ev Γ G _ (j8 ρ)) with
  |none=>rw[e2]at h;cases h
  |some m =>rw[e2]at h;cases h;cases hk;have q:=DW.or (iha c g ρ a4 e) λ_=>ihb c g ρ _ e2;rw[ki]at q;exact q
 .cases h
theorem Tr.bw:∀{X:Cx}{a':Ex}{op:BoolOp}{es:List aj}{p:aK},Tr X a' (.w (.BoolOp op es p))->Tr X a' (.b (.BoolOp op es p)):=by intro _ _ _ _ _ q0;refine⟨λΓ G=>?_,λ_ _ _ _ _ _ _=>trivial⟩;have iha:=q0.m Γ G;intro c g ρ k h;exact DW.toB (iha c g ρ k h)
theorem Tr.bnot:∀{X:Cx}{a':Ex}{a:aj}{p:aK},Tr X a' (.b a)->Tr X (.not a') (.b (.UnaryOp .Not a p)):=by
 intro _ _ _ _ q0;refine⟨λΓ G=>?_,λ_ _ _ _ _ _ _=>trivial⟩;have iha:=q0.m Γ G;intro c g ρ k h;obtain⟨r,h,hk⟩:=Jk h;simp only[jb0]at h;cases e:truth (ev Γ G _ (j8 ρ)) with
 |none=>rw[e]at h;cases h
 |some m=>rw[e]at h;cases h;cases hk;exact DB.not (iha c g ρ m e)
theorem Tr.bval:∀{X:Cx}{a':Ex}{a:aj}(he:∀whole,fG a X.env whole=(do let v <-whole;fR a.pos;cj [v] (truthy v))),Tr X a' (.e a)->Tr X a' (.b a):=by intro _ _ _ he q0;refine⟨λΓ G=>?_,λ_ _ _ _ _ _ _=>trivial⟩;have iha:=q0.m Γ G;intro c g ρ k h;obtain⟨r,h,hk⟩:=Jk h;exact DB.val ((iha c g ρ r h).bl hk).toT he
theorem Tr.ite:∀{X:Cx}{c' a' b':Ex}{c a b:aj}{p:aK},Tr X c' (.b c)->Tr X a' (.e a)->Tr X b' (.e b)->Tr X (.ite c' a' b') (.e (.IfExp c a b p)):=by
 intro _ _ _ _ _ _ _ _ q0 q1 q2;refine⟨λΓ G=>?_,λ_ _ _ _ _ _ h=>nomatch h⟩;have ihc:=q0.m Γ G;have iha:=q1.m Γ G;have ihb:=q2.m Γ G;intro c g ρ r h;simp only[jk9]at h;split at h
 .rename_i e;split at h
  .rename_i x ex;cases es:x.st with
   |none=>rw[es]at h;cases h
   |some d=>rw[es]at h;cases h;exact(DE.ite (d':=d) (ihc c g ρ a5 e) (λ_=>(iha c g ρ x ex).toE es) λz=>by cases z).eq (by simp)
  .cases h
 .rename_i e;split at h
  .rename_i x ex;cases es:x.st with
   |none=>rw[es]at h;cases h
   |some d=>rw[es]at h;cases h;exact(DE.ite (d:=d) (ihc c g ρ a4 e) (λz=>by cases z) λ_=>(ihb c g ρ x ex).toE es).eq (by simp)
  .cases h
 .cases h
theorem Tr.nil:∀{X:Cx},Tr X .nil (.a []):=by intro _;refine⟨λΓ G=>?_,λ_ _ _ _ _ _ h=>nomatch h⟩;intro c g ρ rs h;simp only[Oa]at h;cases h;exact .nil
theorem Tr.cons:∀{X:Cx}{a' b':Ex}{a:aj}{es:List aj}(hs:a8 (a::es) X.env=(a4,ay a X.env)::a8 es X.env),Tr X a' (.e a)->Tr X b' (.a es)->Tr X (.cons a' b') (.a (a::es)):=by
 intro _ _ _ _ _ hs q0 q1;refine⟨λΓ G=>?_,λΓ G=>?_⟩
 .have iha:=q0.m Γ G;have ihb:=q1.m Γ G;intro c g ρ rs h;simp only[Di,consW]at h;split at h
  .rename_i x xs ex exs;cases h;exact .cons hs (iha c g ρ x ex) (ihb c g ρ xs exs)
  .cases h
 .skip
  intro c g ρ y h;rw[er]at h;split at h
  .rename_i x ex;cases h;exact DXA.head (q0.x Γ G c g ρ _ ex) hs
  split at h
  .rename_i r ez;exact DXA.tail (q0.m Γ G c g ρ r ez).toT (q1.x Γ G c g ρ y h) hs
  .cases h
theorem Tr.tup:∀{X:Cx}{es':Ex}{es:List aj}{n:Nat}{p:aK},Tr X es' (.a es)->Tr X (.tup es') (.e (.Tuple es n p)):=by
 intro _ _ _ _ _ q0;refine⟨λΓ G=>?_,λ_ _ _ _ _ _ h=>nomatch h⟩;have iha:=q0.m Γ G;intro c g ρ r h;simp only[jk6,Yh]at h;split at h
 .rename_i rs ers;split at h
  .rename_i ds hds;obtain⟨z,q⟩:=q8 h;cases q;exact DE.tup (n:=0) ((iha c g ρ rs ers).toA hds) (zj z)
  .cases h
 .cases h
theorem Tr.lst:∀{X:Cx}{es':Ex}{es:List aj}{p:aK},Tr X es' (.a es)->Tr X (.lst es') (.e (.List es p)):=by
 intro _ _ _ _ q0;refine⟨λΓ G=>?_,λ_ _ _ _ _ _ h=>nomatch h⟩;have iha:=q0.m Γ G;intro c g ρ r h;simp only[jk8,Z6]at h;split at h
 .rename_i rs ers;split at h
  .rename_i ds hds;obtain⟨z,q⟩:=q8 h;cases q;exact DO.lst ((iha c g ρ rs ers).toA hds) (zj z)
  .cases h
 .cases h
theorem Tr.ix:∀{X:Cx}{a' b':Ex}{a b:aj}{p:aK}(hs:Zw b),Tr X a' (.e a)->Tr X b' (.e b)->Tr X (.ix a' b') (.e (.Subscript a b p)):=by
 intro _ _ _ _ _ _ hs q0 q1;refine⟨λΓ G=>?_,λΓ G c g ρ y h σ H Q R k=>(Ms j5y peS peS hs).to (q0.x Γ G c g ρ y (by rw[er]at h;exact h) σ H _ R k)⟩;have iha:=q0.m Γ G;have ihb:=q1.m Γ G;intro c g ρ r h;simp only[jlr,ixW]at h;split at h
 .rename_i x y ex ey;split at h
  .rename_i s l i hx hy;cases z:atI l i with
   |none=>rw[z]at h;cases h
   |some d=>rw[z]at h;cases h;exact DE.ixM ((iha c g ρ x ex).toM hx) (hy▸(ihb c g ρ y ey).toT) z hs
  .rename_i i hx hy;split at h
   .rename_i y' ed;split at h
    .rename_i hl;cases z:atI y'.cps.toList i with
     |none=>rw[z]at h;cases h
     |some d=>rw[z]at h;cases h;exact DE.ixC (ed▸(iha c g ρ x ex).toT) (hy▸(ihb c g ρ y ey).toT) (zj hl) z hs
    .cases h
   .cases h
  .cases h
 .cases h
theorem Tr.oN:∀{X:Cx},Tr X .nil (.o a6):=by intro _;refine⟨λΓ G=>?_,λ_ _ _ _ _ _ _=>trivial⟩;intro c g ρ o h;simp only[Oa,Qv]at h;cases h;exact DP.none
theorem Tr.oS:∀{X:Cx}{a':Ex}{a:aj},Tr X a' (.e a)->Tr X (.cons a' .nil) (.o (a3 a)):=by
 intro _ _ _ q0;refine⟨λΓ G=>?_,λ_ _ _ _ _ _ _=>trivial⟩;have iha:=q0.m Γ G;intro c g ρ o h;simp only[Di,Oa,consW]at h;split at h
 .rename_i x xs ex exs;cases exs;simp only[Qv]at h;split at h
  .rename_i i ei;cases h;exact DP.some (ei▸(iha c g ρ x ex).toT)
  .cases h
 .cases h
theorem Tr.sl:∀{X:Cx}{a' l' h':Ex}{a:aj}{lo hi:Option aj}{p p2:aK},Tr X a' (.e a)->Tr X l' (.o lo)->Tr X h' (.o hi)->Tr X (.sl a' l' h') (.e (.Subscript a (.Slice lo hi a6 p2) p)):=by
 intro _ _ _ _ _ _ _ _ _ q0 q1 q2;refine⟨λΓ G=>?_,λ_ _ _ _ _ _ h=>nomatch h⟩;have iha:=q0.m Γ G;have ihl:=q1.m Γ G;have ihh:=q2.m Γ G;intro c g ρ r h;simp only[jlp]at h;split at h
 .rename_i x l hh ex el eh;split at h
  .rename_i ds e;cases h;exact DO.sliceM ((iha c g ρ x ex).toM e) (ihl c g ρ l el) (ihh c g ρ hh eh)
  .rename_i ds e;split at h
   .cases h
   .rename_i z;cases h;exact DE.sliceM ((iha c g ρ x ex).toM e) (ihl c g ρ l el) (ihh c g ρ hh eh) z
  .split at h
   .rename_i y' ed;obtain⟨z,q⟩:=q8 h;cases q;exact DE.sliceS (ed▸(iha c g ρ x ex).toT) (ihl c g ρ l el) (ihh c g ρ hh eh) (zj z)
   .cases h
 .cases h
theorem Tr.call:∀{X:Cx}{f:ah}{es':Ex}{e:aj}{es:List aj}{p p2:aK}(hg:Gl X f) (hdb:(f==k8h)=a4) (he:a8 (e::es) X.env=(a4,ay e X.env)::a8 es X.env) (hpl:(aM p2 (a8 es X.env)).any (·.1)=a4),Tr X es' (.a (e::es))->Tr X (.call f es') (.e (.Call (.Name f p) (e::es) [] p2)):=by
 intro _ f _ _ _ _ _ hg hdb he hpl q0;refine⟨λΓ G=>?_,λΓ G=>?_⟩
 .have iha:=q0.m Γ G;intro c g ρ r h;simp only[ji7,Z1]at h;split at h
  .rename_i rs ers;exact j43 g hg hdb he hpl (iha c g ρ rs ers) h
  .cases h
 .skip
  intro c g ρ y h;rw[er]at h;split at h
  .rename_i x ex;split at h
   .rename_i hz;cases h;obtain⟨d,hd⟩:=Xw.mp hz;obtain⟨fa,hfa,hk⟩:=c.fn _ d hd;exact DX.args (q0.x Γ G c g ρ _ ex) hg hdb hfa hk he hpl
   .cases h
  split at h
  .rename_i rs ers;split at h
   .rename_i z ez;split at h
    .rename_i hz;cases h;have q:=g f (rs.map Rk.d);rw[ez]at q;obtain⟨d,hd⟩:=Xw.mp hz;obtain⟨_,o,ho⟩:=c.ec _ d hd;exact DX.call q (q0.m Γ G c g ρ rs ers).toT ⟨rfl,rfl⟩ (W.mg_of c.kin c.ns ho) hg hdb he hpl
    .cases h
   .cases h
  .cases h
theorem Tr.chn:∀{X:Cx}{a' b' c':Ex}{a b c:aj}{p:aK}(hm:kU [.Lt,.Lt] [b,c]=a4),Tr X a' (.e a)->Tr X b' (.e b)->Tr X c' (.e c)->Tr X (.chn a' b' c') (.e (.Compare a [.Lt,.Lt] [b,c] p)):=by
 intro _ _ _ _ _ _ _ _ hm q0 q1 q2;refine⟨λΓ G=>?_,λ_ _ _ _ _ _ h=>nomatch h⟩;have iha:=q0.m Γ G;have ihb:=q1.m Γ G;have ihc:=q2.m Γ G;intro c g ρ r h;simp only[jka,j0y]at h;split at h
 .rename_i x y z ex ey ez;split at h
  .rename_i i j k ei ej ek;cases h;exact DE.chn (ei▸(iha c g ρ x ex).toT) (ej▸(ihb c g ρ y ey).toT) (ek▸(ihc c g ρ z ez).toT) hm
  .cases h
 .cases h
theorem Tr.callD:∀{X:Cx}{f:ah}{es':Ex}{e:aj}{es:List aj}{p p2:aK}(hf:f∈Cq) (hg:Gl X f) (hdb:(f==k8h)=a4) (he:a8 (e::es) X.env=(a4,ay e X.env)::a8 es X.env) (hpl:(aM p2 (a8 es X.env)).any (·.1)=a4),Tr X es' (.a (e::es))->Tr X (.callD f es') (.e (.Call (.Name f p) (e::es) [] p2)):=by
 intro _ f _ _ _ _ _ hf hg hdb he hpl q0;refine⟨λΓ G=>?_,λ_ _ _ _ _ _ h=>nomatch h⟩;have iha:=q0.m Γ G;intro c g ρ r h;simp only[je7]at h;split at h
 .rename_i rs ers;split at h
  .rename_i ds eds;split at h
   .rename_i d ed;cases h;have q:=g f (ds++[.non]);rw[ed]at q;exact DE.callD q hf ((iha c g ρ rs ers).toA eds) ⟨rfl,rfl⟩ hg hdb he hpl
   .cases h
  .cases h
 .cases h
theorem Tr.callK:∀{X:Cx}{f:ah}{es' a':Ex}{a e:aj}{es:List aj}{p p2 pk:aK}(hf:f∈Cq) (hg:Gl X f) (hdb:(f==k8h)=a4) (hall:(b0 p2 (aJ [⟨a3 "prices",a,pk⟩] X.env)).all (·.1.isSome)=a5) (hks:(b0 p2 (aJ [⟨a3 "prices",a,pk⟩] X.env)).filterMap (·.1)=(["prices"]:List ah)) (he:a8 (e::es) X.env=(a4,ay e X.env)::a8 es X.env) (hpl:((aM p2 (a8 (e::es) X.env)).any (·.1) || (b0 p2 (aJ [⟨a3 "prices",a,pk⟩] X.env)).any (·.1.isNone))=a4),Tr X es' (.a (e::es))->Tr X a' (.e a)->Tr X (.callK f es' a') (.e (.Call (.Name f p) (e::es) [⟨a3 "prices",a,pk⟩] p2)):=by
 intro _ f _ _ _ _ _ _ _ _ hf hg hdb hall hks he hpl q0 q1;refine⟨λΓ G=>?_,λ_ _ _ _ _ _ h=>nomatch h⟩;have iha:=q0.m Γ G;have ihb:=q1.m Γ G;intro c g ρ r h;simp only[je6]at h;split at h
 .rename_i rs x ers ex;split at h
  .rename_i ds d' eds ed';split at h
   .rename_i d ed;cases h;have q:=g f (ds++[d']);rw[ed]at q;exact DE.callK q hf ((iha c g ρ rs ers).toA eds) ((ihb c g ρ x ex).toE ed') ⟨rfl,rfl⟩ hg hdb hall hks he hpl
   .cases h
  .cases h
 .cases h
theorem Tr.min1:∀{X:Cx}{es':Ex}{e:aj}{p p2:aK}(hq:X.calm=a5)(hg:Gl X "min"),Tr X es' (.a [e])->Tr X (.blt .min es') (.e (.Call (.Name "min" p) [e] [] p2)):=by
 intro _ _ _ _ _ hq hg q0;refine⟨λΓ G=>?_,λ_ _ _ _ _ _ h=>nomatch h⟩;have iha:=q0.m Γ G;intro c g ρ r h;simp only[Uj,zq]at h;split at h
 .rename_i rs ers;cases e:Zb _ rs with
  |none=>rw[e]at h;cases h
  |some x=>rw[e]at h;cases h;exact Q3 (f:=.min) c (λ_=>hq) hg e (iha c g ρ rs ers)
 .cases h
theorem Tr.len:∀{X:Cx}{es':Ex}{e:aj}{p p2:aK}(hg:Gl X "len"),Tr X es' (.a [e])->Tr X (.blt .len es') (.e (.Call (.Name "len" p) [e] [] p2)):=by
 intro _ _ _ _ _ hg q0;refine⟨λΓ G=>?_,λ_ _ _ _ _ _ h=>nomatch h⟩;have iha:=q0.m Γ G;intro c g ρ r h;simp only[Uj,zq]at h;split at h
 .rename_i rs ers;cases e:Zb _ rs with
  |none=>rw[e]at h;cases h
  |some x=>rw[e]at h;cases h;exact Q3 (f:=.len) c (λz=>by rcases z with z|z|z|z|z<;>cases z) hg e (iha c g ρ rs ers)
 .cases h
theorem Tr.all:∀{X:Cx}{es':Ex}{e:aj}{p p2:aK}(hq:X.calm=a5)(hg:Gl X "all"),Tr X es' (.a [e])->Tr X (.blt .all es') (.e (.Call (.Name "all" p) [e] [] p2)):=by
 intro _ _ _ _ _ hq hg q0;refine⟨λΓ G=>?_,λ_ _ _ _ _ _ h=>nomatch h⟩;have iha:=q0.m Γ G;intro c g ρ r h;simp only[Uj,zq]at h;split at h
 .rename_i rs ers;cases e:Zb _ rs with
  |none=>rw[e]at h;cases h
  |some x=>rw[e]at h;cases h;exact Q3 (f:=.all) c (λ_=>hq) hg e (iha c g ρ rs ers)
 .cases h
theorem Tr.tuple:∀{X:Cx}{es':Ex}{e:aj}{p p2:aK}(hg:Gl X "tuple"),Tr X es' (.a [e])->Tr X (.blt .tuple es') (.e (.Call (.Name "tuple" p) [e] [] p2)):=by
 intro _ _ _ _ _ hg q0;refine⟨λΓ G=>?_,λ_ _ _ _ _ _ h=>nomatch h⟩;have iha:=q0.m Γ G;intro c g ρ r h;simp only[Uj,zq]at h;split at h
 .rename_i rs ers;cases e:Zb _ rs with
  |none=>rw[e]at h;cases h
  |some x=>rw[e]at h;cases h;exact Q3 (f:=.tuple) c (λz=>by rcases z with z|z|z|z|z<;>cases z) hg e (iha c g ρ rs ers)
 .cases h
theorem Tr.list:∀{X:Cx}{es':Ex}{e:aj}{p p2:aK}(hg:Gl X "list"),Tr X es' (.a [e])->Tr X (.blt .list es') (.e (.Call (.Name "list" p) [e] [] p2)):=by
 intro _ _ _ _ _ hg q0;refine⟨λΓ G=>?_,λ_ _ _ _ _ _ h=>nomatch h⟩;have iha:=q0.m Γ G;intro c g ρ r h;simp only[Uj,zq]at h;split at h
 .rename_i rs ers;cases e:Zb _ rs with
  |none=>rw[e]at h;cases h
  |some x=>rw[e]at h;cases h;exact Q3 (f:=.list) c (λz=>by rcases z with z|z|z|z|z<;>cases z) hg e (iha c g ρ rs ers)
 .cases h
theorem Tr.min:∀{X:Cx}{es':Ex}{e f:aj}{p p2:aK}(hq:X.calm=a5)(hg:Gl X "min"),Tr X es' (.a [e,f])->Tr X (.blt .min es') (.e (.Call (.Name "min" p) [e,f] [] p2)):=by
 intro _ _ _ _ _ _ hq hg q0;refine⟨λΓ G=>?_,λ_ _ _ _ _ _ h=>nomatch h⟩;have iha:=q0.m Γ G;intro c g ρ r h;simp only[Uj,zq]at h;split at h
 .rename_i rs ers;cases e:Zb _ rs with
  |none=>rw[e]at h;cases h
  |some x=>rw[e]at h;cases h;exact Q3 (f:=.min) c (λ_=>hq) hg e (iha c g ρ rs ers)
 .cases h
theorem Tr.sum:∀{X:Cx}{es':Ex}{e:aj}{p p2:aK}(hq:X.calm=a5)(hg:Gl X "sum"),Tr X es' (.a [e])->Tr X (.blt .sum es') (.e (.Call (.Name "sum" p) [e] [] p2)):=by
 intro _ _ _ _ _ hq hg q0;refine⟨λΓ G=>?_,λ_ _ _ _ _ _ h=>nomatch h⟩;have iha:=q0.m Γ G;intro c g ρ r h;simp only[Uj,zq]at h;split at h
 .rename_i rs ers;cases e:Zb _ rs with
  |none=>rw[e]at h;cases h
  |some x=>rw[e]at h;cases h;exact Q3 (f:=.sum) c (λ_=>hq) hg e (iha c g ρ rs ers)
 .cases h
theorem Tr.intc:∀{X:Cx}{es':Ex}{e:aj}{p p2:aK}(hg:Gl X "int"),Tr X es' (.a [e])->Tr X (.blt .int es') (.e (.Call (.Name "int" p) [e] [] p2)):=by
 intro _ _ _ _ _ hg q0;refine⟨λΓ G=>?_,λ_ _ _ _ _ _ h=>nomatch h⟩;have iha:=q0.m Γ G;intro c g ρ r h;simp only[Uj,zq]at h;split at h
 .rename_i rs ers;cases e:Zb _ rs with
  |none=>rw[e]at h;cases h
  |some x=>rw[e]at h;cases h;exact Q3 (f:=.int) c (λz=>by rcases z with z|z|z|z|z<;>cases z) hg e (iha c g ρ rs ers)
 .cases h
theorem Tr.join:∀{X:Cx}{a':Ex}{a:aj}{sep:ah}{n:Nat}{p0 p1 p2:aK}(hbase:aP (.Constant (.str sep) n p0) "join" X.env (ay (.Constant (.str sep) n p0) X.env)=ay (.Constant (.str sep) n p0) X.env) (hfew:((aM p2 (a8 [a] X.env)).all (λx=>!x.1)&&(b0 p2 (aJ [] X.env)).all (λx=>x.1.isSome)&&decide (([a]:List aj).length+([]:List ba).length+(if ([]:List ba).isEmpty then 0 else 1)<30))=a5) (hline:(p1.endLine==p2.line)=a5) (hs:a8 [a] X.env=(a4,ay a X.env)::a8 [] X.env),Tr X a' (.e a)->Tr X (.join sep a') (.e (.Call (.Attribute (.Constant (.str sep) n p0) "join" p1) [a] [] p2)):=by
 intro _ _ _ _ _ _ _ _ hbase hfew hline hs q0;refine⟨λΓ G=>?_,λ_ _ _ _ _ _ h=>nomatch h⟩;have iha:=q0.m Γ G;intro c g ρ r h;simp only[ji2,O2]at h;split at h
 .rename_i x ex;split at h
  .rename_i l el;split at h
   .rename_i ts et;obtain⟨z,q⟩:=q8 h;cases q;have:=Rg et;subst this;exact DE.join (el▸(iha c g ρ x ex).toT) z hfew hbase hline hs
   .cases h
  .cases h
 .cases h
theorem Tr.lset:∀{X:Cx}{a':Ex}{a:aj}{p p1 p2 pos:aK}(hq:X.calm=a5)(hg:Gl X "len") (hg2:Gl X "set") (hs:a8 [a] X.env=[(a4,ay a X.env)]) (hs2:a8 [.Call (.Name "set" p1) [a] [] p2] X.env=[(a4,ay (.Call (.Name "set" p1) [a] [] p2) X.env)]),Tr X a' (.e a)->Tr X (.lset a') (.e (.Call (.Name "len" p) [.Call (.Name "set" p1) [a] [] p2] [] pos)):=by
 intro _ _ _ _ _ _ _ hq hg hg2 hs hs2 q0;refine⟨λΓ G=>?_,λ_ _ _ _ _ _ h=>nomatch h⟩;have iha:=q0.m Γ G;intro c g ρ r h;simp only[ji1,Mw]at h;split at h
 .rename_i x ex;split at h
  .rename_i l el;split at h
   .rename_i ts et;obtain⟨z,q⟩:=q8 h;cases q;have:=Rg et;subst this;exact DE.lenSet (el▸(iha c g ρ x ex).toT) hq nofun (c.bt _ (by decide)) (c.bt _ (by decide)) hg hg2 hs hs2
   .cases h
  .cases h
 .cases h
theorem Tr.enum:∀{X:Cx}{a':Ex}{a:aj}{es:List aj}{n:Nat}{p p2 pt:aK}(hg:Gl X "enumerate") (hs:a8 [a] X.env=[(a4,ay a X.env)]),Tr X a' (.e a)->Tr X (.enum a') (.i (.Tuple es n pt) (.Call (.Name "enumerate" p) [a] [] p2)):=by
 intro _ _ _ _ _ _ _ _ hg hs q0;refine⟨λΓ G=>?_,λ_ _ _ _ _ _ _=>trivial⟩;have iha:=q0.m Γ G;intro c g ρ ds h;simp only[ji4,Wj]at h;split at h
 .rename_i x ex;have ha:=iha c g ρ x ex;split at h
  .rename_i l e1;cases h;exact DI.enum a5 (ha.toE e1) (c.bt _ (by decide)) hg hs
  .rename_i l e1;cases h;exact DI.enum a4 (ha.toE e1) (c.bt _ (by decide)) hg hs
  .cases h
 .cases h
theorem Tr.count:∀{X:Cx}{a' es':Ex}{a e:aj}{p1 p2:aK}(hbase:aP a "count" X.env (ay a X.env)=ay a X.env) (hfew:((aM p2 (a8 [e] X.env)).all (λx=>!x.1)&&(b0 p2 (aJ [] X.env)).all (λx=>x.1.isSome)&&decide (([e]:List aj).length+([]:List ba).length+(if ([]:List ba).isEmpty then 0 else 1)<30))=a5) (hline:(p1.endLine==p2.line)=a5),Tr X a' (.e a)->Tr X es' (.a [e])->Tr X (.meth .count a' es') (.e (.Call (.Attribute a "count" p1) [e] [] p2)):=by
 intro _ _ _ _ _ _ _ hbase hfew hline q0 q1;refine⟨λΓ G=>?_,λ_ _ _ _ _ _ h=>nomatch h⟩;have iha:=q0.m Γ G;have ihb:=q1.m Γ G;intro c g ρ r h;simp only[ji0,Mv]at h;split at h
 .rename_i x rs ex ers;obtain⟨y,e,hy,hs⟩:=(ihb c g ρ rs ers).one;subst e;simp only[j3l]at h;split at h
  .rename_i l el;split at h
   .rename_i z;cases h;exact DE.countT c.un' (el▸(iha c g ρ x ex).toT) hy.toT nofun nofun hbase hfew hline hs
   .cases h
  .rename_i l el;split at h
   .rename_i z;cases h;exact DE.countL c.un' (el▸(iha c g ρ x ex).toT) hy.toT nofun nofun hbase hfew hline hs
   .cases h
  .cases h
 .cases h
theorem Tr.isi1:∀{X:Cx}{a':Ex}{a:aj}{T:ah}{c:String}{p p1 p2:aK}(hT:T∈Vy) (hv:aY T=a3 (.type c)) (hg:Gl X "isinstance") (hg2:Gl X T) (hn:T ≠ "__name__") (hd:(T==k8h)=a4) (hs:a8 [a,.Name T p1] X.env=(a4,ay a X.env)::a8 [.Name T p1] X.env),Tr X a' (.e a)->Tr X (.isi a' [c]) (.e (.Call (.Name "isinstance" p) [a,.Name T p1] [] p2)):=by
 intro _ _ _ _ _ _ _ _ hT hv hg hg2 hn hd hs q0;refine⟨λΓ G=>?_,λ_ _ _ _ _ _ h=>nomatch h⟩;have iha:=q0.m Γ G;intro c g ρ r h;simp only[jb1,Cg]at h;split at h
 .rename_i x ex;cases e:qb x.d _ with
  |none=>rw[e]at h;cases h
  |some k =>
   rw[e]at h;cases h;refine DE.isi1 (iha c g ρ x ex).toT (j2f e) (c.bt _ (by decide)) (c.bt _ hT) hv ?_ hg hg2 hn hd hs rfl rfl;simp only[qb]at e;split at e
   .rename_i k1 k2 e1 e2;cases e2;cases e;rw[gy];exact j2a e1
   .cases e
 .cases h
theorem Tr.isi2:∀{X:Cx}{a':Ex}{a:aj}{T U:ah}{c d:String}{n:Nat}{p p1 p2 p3 p4:aK} (hT:T∈Vy) (hU:U∈Vy) (hv:aY T=a3 (.type c)) (hw:aY U=a3 (.type d)) (hg:Gl X "isinstance") (hg1:Gl X T) (hg2:Gl X U) (hn:T ≠ "__name__") (hd:(T==k8h)=a4) (hn2:U ≠ "__name__") (hd2:(U==k8h)=a4) (hs:a8 [a,.Tuple [.Name T p1,.Name U p3] n p4] X.env=(a4,ay a X.env)::a8 [.Tuple [.Name T p1,.Name U p3] n p4] X.env),Tr X a' (.e a)->Tr X (.isi a' [c,d]) (.e (.Call (.Name "isinstance" p) [a,.Tuple [.Name T p1,.Name U p3] n p4] [] p2)):=by
 intro _ _ _ _ _ _ _ _ _ _ _ _ _ hT hU hv hw hg hg1 hg2 hn hd hn2 hd2 hs q0;refine⟨λΓ G=>?_,λ_ _ _ _ _ _ h=>nomatch h⟩;have iha:=q0.m Γ G;intro c g ρ r h;simp only[jb1,Cg]at h;split at h
 .rename_i x ex;cases e:qb x.d _ with
  |none=>rw[e]at h;cases h
  |some k =>rw[e]at h;cases h;exact DE.isi2 (iha c g ρ x ex).toT (j2f e) (c.bt _ (by decide)) (c.bt _ hT) (c.bt _ hU) hv hw (j0i e) hg hg1 hg2 hn hd hn2 hd2 hs rfl rfl rfl rfl
 .cases h
theorem Tr.callV:∀{X:Cx}{i:Nat}{y:ah}{es':Ex}{e:aj}{es:List aj}{p p2:aK} (hN:X.N[i]?=a3 y) (hv:Vis X.env.scope y) (hd:(y==k8h)=a4) (hcd:(y==k8i)=a4) (he:a8 (e::es) X.env=(a4,ay e X.env)::a8 es X.env) (hpl:(aM p2 (a8 es X.env)).any (·.1)=a4),Tr X es' (.a (e::es))->Tr X (.callV i es') (.e (.Call (.Name y p) (e::es) [] p2)):=by
 intro _ i y es' e es p p2 hN hv hd hcd he hpl q0;refine⟨λΓ G=>?_,λ_ _ _ _ _ _ h=>nomatch h⟩;have iha:=q0.m Γ G;intro c g ρ r h;simp only[je5,W5]at h;split at h
 .rename_i x cs rs ei ers;split at h
  .rename_i ds eds;split at h
   .rename_i nf;have q:=g (jx x) (cs++ds);cases z:Γ (jx x) (cs++ds) with
    |lval d =>rw[z]at h q;cases h;obtain⟨k,hr,lk⟩:=q x rfl;exact DE.callV lk hr (Zt ei) ((iha c g ρ rs ers).toA eds) nf ⟨rfl,rfl⟩ hN hv hd hcd he hpl
    |val d=>rw[z]at h;cases h
    |fresh l=>rw[z]at h;cases h
    |err x=>rw[z]at h;cases h
    |no=>rw[z]at h;cases h
   .cases h
  .cases h
 .cases h
theorem Tr.dget:∀{X:Cx}{a' b':Ex}{a b:aj}{p:aK}(hs:Zw b),Tr X a' (.e a)->Tr X b' (.e b)->Tr X (.dget a' b') (.e (.Subscript a b p)):=by
 intro _ _ _ _ _ _ hs q0 q1;refine⟨λΓ G=>?_,λ_ _ _ _ _ _ h=>nomatch h⟩;have iha:=q0.m Γ G;have ihb:=q1.m Γ G;intro c g ρ r h;simp only[ji5,O4]at h;split at h
 .rename_i ks ds y ex ey;split at h
  .rename_i k ek;cases e:zp ks ds k with
   |none=>rw[e]at h;cases h
   |some d=>rw[e]at h;cases h;exact DE.dget c.un' ((iha c g ρ (.e (.dct ks ds)) ex).toE rfl) (Dl ek▸(ihb c g ρ y ey).toT) e hs
  .cases h
 .cases h
theorem Tr.dvals:∀{X:Cx}{a':Ex}{a:aj}{p p1 p2 pos:aK}(hq:X.calm=a5)(hg:Gl X "tuple") (hbase:aP a "values" X.env (ay a X.env)=ay a X.env) (hline:(p1.endLine==p2.line)=a5) (hs2:a8 [.Call (.Attribute a "values" p1) [] [] p2] X.env=[(a4,ay (.Call (.Attribute a "values" p1) [] [] p2) X.env)]),Tr X a' (.e a)->Tr X (.dvals a') (.e (.Call (.Name "tuple" p) [.Call (.Attribute a "values" p1) [] [] p2] [] pos)):=by
 intro _ _ _ _ _ _ _ hq hg hbase hline hs2 q0;refine⟨λΓ G=>?_,λ_ _ _ _ _ _ h=>nomatch h⟩;have iha:=q0.m Γ G;intro c g ρ r h;simp only[je4,M4]at h;split at h
 .rename_i ks ds ex;cases h;exact DE.tupVals ((iha c g ρ (.e (.dct ks ds)) ex).toE rfl) hq (c.bt _ (by decide)) hg hbase hline hs2
 .cases h
theorem Tr.minT:∀{X:Cx}{a':Ex}{a:aj}{p pos:aK}(hq:X.calm=a5)(hg:Gl X "min") (hs:a8 [a] X.env=[(a4,ay a X.env)]),Tr X a' (.e a)->Tr X (.minT a') (.e (.Call (.Name "min" p) [a] [] pos)):=by
 intro _ _ _ _ _ hq hg hs q0;refine⟨λΓ G=>?_,λ_ _ _ _ _ _ h=>nomatch h⟩;have iha:=q0.m Γ G;intro c g ρ r h;simp only[jhz,Mu]at h;split at h
 .rename_i x ex;split at h
  .rename_i l el;split at h
   .rename_i ks ek;cases e:ks[aU (Jm ks) (ks.length-1)]? with
    |none=>rw[e]at h;cases h
    |some k =>rw[e]at h;cases h;exact DT.minT c.un' hq (c.bt _ (by decide)) hg (by have z:=(iha c g ρ x ex).toT;rw[el,Iz ek]at z;exact z) e hs
   .split at h
    .rename_i ks ek;cases e:ks[aU (Ca ks) (ks.length-1)]? with
     |none=>rw[e]at h;cases h
     |some k =>rw[e]at h;cases h;exact DT.minP c.un' hq (c.bt _ (by decide)) hg (by have z:=(iha c g ρ x ex).toT;rw[el,j22 ek]at z;exact z) e hs
    .cases h
  .cases h
 .cases h
theorem Tr.c0:∀{X:Cx},Tr X .nil (.c []):=by intro _;refine⟨λΓ G=>?_,λ_ _ _ _ _ _ _=>trivial⟩;intro c g ρ;exact⟨λ_=>DTs.nil,λy k h=>by simp only[Oa]at h;cases h⟩
theorem Tr.c1:∀{X:Cx}{c':Ex}{c:aj},Tr X c' (.b c)->Tr X (.cons c' .nil) (.c [c]):=by
 intro _ _ _ q0;refine⟨λΓ G=>?_,λ_ _ _ _ _ _ _=>trivial⟩;have iha:=q0.m Γ G;intro c g ρ;refine⟨λh=>?_,λy k h hk=>DTs.one ?_⟩
 .simp only[Di,Oa,consW]at h;split at h<;>cases h
 .simp only[Di,Oa,consW]at h;split at h
  .rename_i x xs ex exs;cases exs;cases h;exact iha c g ρ k (by rw[ex];simp only[truth,hk])
  .cases h
theorem Tr.comp1:∀{X:Cx}{i:Nat}{y:ah}{py p:aK}{elt' it' c':Ex}{elt it:aj}{ifs:List aj} {scope:b7} (hq:X.calm=a5) (hi:X.N[i]?=a3 y) (hl:Yz scope y=a5) (hkind:scope.kind=.function) (hok:Jx scope X.env X.N [i]=a5) (hs:∀x,aB it X.env x=pure x),Tr X it' (.i (.Name y py) it)->(∀C s H fp pn,Tr (cCx X scope C s H fp pn) elt' (.e elt))->(∀C s H fp pn,Tr (cCx X scope C s H fp pn) c' (.c ifs))->Tr X (.comp [i] elt' it' c') (.e (.ListComp elt [⟨.Name y py,it,ifs,0⟩] scope p)):=by
 intro _ _ _ _ _ _ _ _ _ _ _ _ hq hi hl hkind hok hs q0 q1 q2;refine⟨λΓ G=>?_,λ_ _ _ _ _ _ h=>nomatch h⟩;have ihi:=q0.m Γ G;have ihe:=λC s H fp pn=>(q1 C s H fp pn).m Γ G;have ihc:=λC s H fp pn=>(q2 C s H fp pn).m Γ G;intro c g ρ r h;obtain⟨l,e,q⟩:=Fy hq c (λρ ds z=>ihi c g ρ ds z) hkind hok hs (λρ d ρ2 hb hun=>by
  simp only[qz]at hb
  cases hb
  have hu:=hun _ (xn.mpr rfl)
  exact⟨_,jc,Wk.set hu,Vn hu,λC s H fp pn=>DG.name _ c.nd hi (Ml hl) (Nj hl)⟩)
  (λC s H fp pn ρ r z=>ihe C s H fp pn c.comp g.comp ρ r z) (λC s H fp pn ρ=>ihc C s H fp pn c.comp g.comp ρ) h
 subst e;exact q
theorem Tr.comp2:∀{X:Cx}{i j:Nat}{x y:ah}{px py pt p:aK}{n:Nat}{elt' it' c':Ex}{elt it:aj} {ifs:List aj} {scope:b7} (hq:X.calm=a5) (hij:i≠j) (hi:X.N[i]?=a3 x) (hj:X.N[j]?=a3 y) (hl:Yz scope x=a5) (hl':Yz scope y=a5) (hkind:scope.kind=.function) (hok:Jx scope X.env X.N [i,j]=a5) (hs:∀x,aB it X.env x=pure x),Tr X it' (.i (.Tuple [.Name x px,.Name y py] n pt) it)->(∀C s H fp pn,Tr (cCx X scope C s H fp pn) elt' (.e elt))->(∀C s H fp pn,Tr (cCx X scope C s H fp pn) c' (.c ifs))->Tr X (.comp [i,j] elt' it' c') (.e (.ListComp elt [⟨.Tuple [.Name x px,.Name y py] n pt,it,ifs,0⟩] scope p)):=by
 intro _ i j _ _ _ _ _ _ _ _ _ _ _ _ _ _ hq hij hi hj hl hl' hkind hok hs q0 q1 q2;refine⟨λΓ G=>?_,λ_ _ _ _ _ _ h=>nomatch h⟩;have ihi:=q0.m Γ G;have ihe:=λC s H fp pn=>(q1 C s H fp pn).m Γ G;have ihc:=λC s H fp pn=>(q2 C s H fp pn).m Γ G;intro c g ρ r h;obtain⟨l,e,q⟩:=Fy hq c (λρ ds z=>ihi c g ρ ds z) hkind hok hs (λρ d ρ2 hb hun=>by
  simp only[qz]at hb
  split at hb
  .rename_i a b
   cases hb
   have hu:=hun _ (xm ..)
   have hu':=hun _ (xg _ (xn.mpr rfl))
   have h1:(ρ.set i (.val a))[j]?=a3 Sl.un:=by rw[qy hij];exact hu'
   exact⟨(ρ.set i (.val a)).set j (.val b),by rw[jc,jc];rfl,λK σ H R=>Wk.set hu K σ H (Wk.set h1 K σ H R),by rw[Vn h1,Vn hu],
    λC s H fp pn=>DG.pair _ _ hij c.nd hi hj (Ml hl) (Ml hl') (Nj hl) (Nj hl') hq⟩
  .cases hb)
  (λC s H fp pn ρ r z=>ihe C s H fp pn c.comp g.comp ρ r z) (λC s H fp pn ρ=>ihc C s H fp pn c.comp g.comp ρ) h
 subst e;exact q
theorem Tr.seq:∀{X:Cx}{a':Ex}{tg a:aj},Tr X a' (.e a)->Tr X (.seq a') (.i tg a):=by
 intro _ _ _ _ q0;refine⟨λΓ G=>?_,λ_ _ _ _ _ _ _=>trivial⟩;have iha:=q0.m Γ G;intro c g ρ ds h;simp only[jk7,Ba]at h;split at h
 .rename_i l e;cases h;exact DI.lst (iha c g ρ _ e)
 .rename_i l e;cases h;exact DI.tup (iha c g ρ _ e)
 .rename_i l e;cases h;exact DI.lst (DO.toE (iha c g ρ _ e))
 .rename_i y e;obtain⟨z,q⟩:=q8 h;cases q;exact DI.str (iha c g ρ _ e).toT z
 .cases h
theorem Tr.range:∀{X:Cx}{es':Ex}{tg:aj}{es:List aj}{p p2:aK}(hg:Gl X "range"),Tr X es' (.a es)->Tr X (.range es') (.i tg (.Call (.Name "range" p) es [] p2)):=by
 intro _ _ _ _ _ _ hg q0;refine⟨λΓ G=>?_,λ_ _ _ _ _ _ _=>trivial⟩;have iha:=q0.m Γ G;intro c g ρ ds h;simp only[je3,Rn]at h;split at h
 .rename_i x ex;have q:=iha c g ρ _ ex;cases q with|cons hs hx t =>
  cases t;split at h
  .rename_i n en;obtain⟨z,q⟩:=q8 h;cases q;exact DI.range1 (en▸hx.toT) (c.bt _ (by decide)) z.1 z.2 hg hs
  .cases h
 .rename_i x y ex;have q:=iha c g ρ _ ex;cases q with|cons hs hx t =>
  cases t with|cons hs2 hy t2 =>
  cases t2;split at h
  .rename_i m n em en;obtain⟨z,q⟩:=q8 h;cases q;exact DI.range2 (em▸hx.toT) (en▸hy.toT) (c.bt _ (by decide)) z.1 z.2.1 z.2.2.1 z.2.2.2 hg (by rw[hs,hs2];rfl) hs2 hs
  .cases h
 .cases h
section
variable{Γ:ah->List D->Rc}{G:ah->Option D}{X:Cx}
theorem sound{t:Ex}{nd:Nd}(h:Tr X t nd):Cok X G->Gok X Γ->jig Γ G X t nd:=h.m Γ G
theorem Ek{t:Ex}{nd:Nd}(h:Tr X t nd):Cok X G->Gok X Γ->∀ρ y,er Γ G t (j8 ρ)=a3 y->XM X ρ y nd:=h.x Γ G
end
inductive Sx where
 |nop
 |seq (a b:Sx)
 |set (i:Nat) (e:Ex)
 |mov (i j:Nat)
 |expr (e:Ex)
 |ret (e:Ex)
 |retV (i:Nat)
 |ife (c:Ex) (a b:Sx)
 |loop (is:List Nat) (it:Ex) (body:Sx)
 |app (i:Nat) (e:Ex)
 |ext (i:Nat) (e:Ex)
 |put (i:Nat) (k e:Ex)
 |fgt (i:Nat)
 |keep (i:Nat)
 |dcp (i j:Nat) (k e:Ex)
 |taken (h q:Nat) (a b c t:Ex)
 |unp (i j:Nat) (e:Ex)
 |dmake (x t y:Nat) (it e:Ex)
 |ioN (es e:Ex)
 |retL (x:ah) (is:List Nat)
 |retC (f x:ah) (a b:Ex) (is:List Nat)
 |nmake (x t y:Nat) (it e1 e2:Ex)
 |pop3 (i j k w:Nat)
 |apop (i w:Nat) (e:Ex)
 |wmake (x t:Nat) (it e:Ex)
 |lent (h:Nat) (ea eb:Ex) (mid b:Sx)
 |fail
inductive So where
 |next (ρ:En)
 |ret (r:Rc)
 |brk (ρ:En)
 |cnt (ρ:En)
 |err (x:ah) (ρ:En)
 |no
noncomputable def orE(o:So)(x:Option ah)(ρ:En):So:=match o with
 |.no=>match x with
  |some y=>.err y ρ
  |none=>.no
 |o=>o
noncomputable def Jl(f:D->En->So):List D->En->So
 |[],ρ=>.next ρ
 |d::ds,ρ=>match f d ρ with
  |.next ρ'=>Jl f ds ρ'
  |.cnt ρ'=>Jl f ds ρ'
  |.brk ρ'=>.next ρ'
  |.ret r=>.ret r
  |.err x ρ'=>.err x ρ'
  |.no=>.no
noncomputable def j4e(c:En->Option Bool)(f:En->So):Nat->En->So
 |0,_=>.no
 |n+1,ρ=>match c ρ with
  |some a4=>.next ρ
  |some a5=>match f ρ with
   |.next ρ'=>j4e c f n ρ'
   |.cnt ρ'=>j4e c f n ρ'
   |.brk ρ'=>.next ρ'
   |.ret r=>.ret r
   |.err x ρ'=>.err x ρ'
   |.no=>.no
  |none=>.no
noncomputable def stOf:Option W->Option D
 |some (.v x)=>x.st
 |_=>a6
noncomputable def j3w(f:En->Option D)(t y:Nat):List D->En->List (List Int)->List D->Option (List (List Int)×List D)
 |[],_,ks,vs=>a3 (ks,vs)
 |d::ds,ρ,ks,vs=>match d with
  |.tup l=>match intsOf l,f (ρ.set t (.val d)) with
   |some k,a3 d'=>if d'.isNon=a5 then j3w f t y ds ((ρ.set t (.val d)).set y (.val d')) ks vs
    else if ks.contains k=a4/\ks.length<ak then j3w f t y ds ((ρ.set t (.val d)).set y (.val d')) (ks++[k]) (vs++[d'])else a6
   |_,_=>a6
  |_=>a6
noncomputable def Vp(f1 f2:En->Option D)(x t y:Nat):List D->En->List (List Int)->List Int->Option (List (List Int)×List Int)
 |[],_,ks,ns=>a3 (ks,ns)
 |d::ds,ρ,ks,ns=>match d with
  |.tup l=>match intsOf l,f1 (ρ.set t (.val d)) with
   |some k,a3 d1=>match f2 (((ρ.set t (.val d)).set y (.val d1)).set x (.val (.dct ks (ns.map D.int)))) with
    |some (.int n)=>if ks.contains k=a4/\ks.length<ak then Vp f1 f2 x t y ds ((ρ.set t (.val d)).set y (.val d1)) (ks++[k]) (ns++[n])else a6
    |_=>a6
   |_,_=>a6
  |_=>a6
noncomputable def Vj(f2:En->Option D)(x t:Nat):List D->En->List (List Int)->List Int->Option (List (List Int)×List Int)
 |[],_,ks,ns=>a3 (ks,ns)
 |d::ds,ρ,ks,ns=>match d with
  |.tup l=>match intsOf l,f2 ((ρ.set t (.val d)).set x (.val (.dct ks (ns.map D.int)))) with
   |some k,a3 (.int n)=>if ks.contains k=a4/\ks.length<ak then Vj f2 x t ds (ρ.set t (.val d)) (ks++[k]) (ns++[n])else a6
   |_,_=>a6
  |_=>a6
noncomputable def Qe(ρ:En):List Nat->Option (List D)
 |[]=>a3 []
 |i::is=>match ρ[i]?,Qe ρ is with
  |some (.val d),a3 ds=>a3 (d::ds)
  |_,_=>a6
noncomputable def Rh(i:Nat)(w:Option W)(ρ:En):So:=match w with
 |some (.v (.o l))=>.next (ρ.set i (.own l))
 |some (.v x)=>match x.st with
  |some d=>.next (ρ.set i (.val d))
  |none=>.no
 |_=>.no
noncomputable def retS(w:Option W):So:=match w with
 |some (.v (.o l))=>.ret (.fresh l)
 |some (.v x)=>.ret (.val x.d)
 |_=>.no
noncomputable def Mm(s:Option Sv):So:=match s with
 |some (.own l)=>.ret (.fresh l)
 |some (.val d)=>.ret (.val d)
 |_=>.no
noncomputable def Dy(i j:Nat)(s:Option Sv)(ρ:En):So:=match s with
 |some (.own l)=>if i=j then .no else .next ((ρ.set j .un).set i (.own l))
 |some (.val d)=>.next (ρ.set i (.val d))
 |_=>.no
noncomputable def j0n(w:Option W)(ρ:En):So:=match w with
 |some (.v _)=>.next ρ
 |_=>.no
noncomputable def Cz(i:Nat)(s:Option Sv)(w:Option W)(ρ:En):So:=match s,w with
 |some (.own l),a3 (.v x)=>match x.st with
  |some d=>if l.length<ak then .next (ρ.set i (.own (l++[d])))else .no
  |none=>.no
 |_,_=>.no
noncomputable def Cm(i:Nat)(s:Option Sv)(w:Option W)(ρ:En):So:=match s,w with
 |some (.own l),a3 (.v (.o m))=>if jr (l.length+m.length)=a5 then .next (ρ.set i (.own (l++m)))else .no
 |_,_=>.no
noncomputable def Dt(i:Nat)(s:Option Sv)(k w:Option W)(ρ:En):So:=match s,k,w with
 |some (.own l),a3 (.v y),a3 (.v x)=>match y.d,x.st with
  |.int j,a3 d=>match ixN l.length j with
   |some n=>.next (ρ.set i (.own (l.set n d)))
   |none=>.no
  |_,_=>.no
 |_,_,_=>.no
noncomputable def jkl(i j:Nat)(d:Option D)(ρ:En):So:=match d with
 |some (.tup [d,d'])=>if i=j then .no else .next ((ρ.set i (.val d)).set j (.val d'))
 |_=>.no
noncomputable def O1(i:Nat)(v:Option Sv)(ρ:En):So:=match v with
 |some (.own l)=>.next (ρ.set i (.val (.lst l)))
 |some (.val _)=>.next ρ
 |_=>.no
noncomputable def jlk(i j:Nat)(v:Option Sv)(k e:Option W)(ρ:En):So:=if i≠j/\i<ρ.length then match v with
  |some (.val (.sct kvs))=>match k,e with
   |some (.v y),a3 (.v x)=>match y.d,x.d with
    |.str z,.int n=>if kvs.length<ak then .next (ρ.set i (.val (.sct (dput kvs z n))))else .no
    |_,_=>.no
   |_,_=>.no
  |_=>.no
 else .no
noncomputable def Nv(x:ah)(v:Option (List D)):So:=match v with
 |some ds=>.ret (.val (.fn x ds))
 |none=>.no
noncomputable def Ih(r:Rc):So:=match r with
 |.val d=>if noFn d=a5 then .ret (.val d)else .no
 |_=>.no
noncomputable def Nx(Γ:ah->List D->Rc)(f x:ah)(v:Option (List D))(a b:Option W):So:=match v,a,b with
 |some ds,a3 (.v u),a3 (.v v)=>Ih (Γ f [u.d,v.d,.fn x ds])
 |_,_,_=>.no
noncomputable def popS(i j k w:Nat)(s:Option Sv)(ρ:En):So:=match s with
 |some (.own l)=>match l.getLast? with
  |some (.tup [a,b,c])=>.next ((((ρ.set w (.own l.dropLast)).set i (.val a)).set j (.val b)).set k (.val c))
  |_=>.no
 |_=>.no
noncomputable def jk3(i w:Nat)(s t:Option Sv)(x:Option W)(ρ:En):So:=match s,t,x with
 |some (.own l),a3 (.own m),a3 (.v y)=>match y.st with
  |some (.int z)=>match ixN m.length z with
   |some k=>match m[k]? with
    |some d=>if i≠w/\l.length<ak/\m.length<=1000000 then .next ((ρ.set w (.own (m.eraseIdx k))).set i (.own (l++[d])))else .no
    |none=>.no
   |none=>.no
  |_=>.no
 |_,_,_=>.no
noncomputable def Qw:Sx->List Nat
 |.seq a b=>Qw a++Qw b
 |.set i _=>[i]
 |.ife _ a b=>Qw a++Qw b
 |_=>[]
noncomputable def vm(Γ:ah->List D->Rc)(G:ah->Option D):Sx->En->Option En
 |.nop,ρ=>a3 ρ
 |.seq a b,ρ=>match vm Γ G a ρ with
  |some r=>vm Γ G b r
  |none=>a6
 |.set i e,ρ=>match stOf (ev Γ G e ρ) with
  |some d=>a3 (ρ.set i (.val d))
  |none=>a6
 |.ife c a b,ρ=>match truth (ev Γ G c ρ) with
  |some a5=>vm Γ G a ρ
  |some a4=>vm Γ G b ρ
  |none=>a6
 |_,_=>a6
noncomputable def plainS:Sv->Bool
 |.val _=>a5
 |.un=>a5
 |_=>a4
noncomputable def U9(s:Option Sv)(t:Bool):Sv:=match s with
 |some (.val d)=>if t=a5 then(if vd d=a5 then .val d else .un)else .val d
 |_=>.un
noncomputable def Vq(h:Nat)(is:List Nat)(ρ r:En):En:=(aw ρ.length).map λj=>if j=h then .un else if j∈is then U9 r[j]? a5 else U9 ρ[j]? a4
noncomputable def Mz(h:Nat)(is:List Nat)(ρ:En)(a:Option D)(b:Option W)(m:En->Option En)(k:En->So):So:=match a,b with
 |some d0,a3 (.v (.o lb))=>match m (ρ.set h (.val (.lst [d0,.lst lb]))) with
  |some r=>if h<ρ.length/\h∉is/\r.length=ρ.length/\r.all plainS=a5 then k (Vq h is ρ r)else .no
  |none=>.no
 |_,_=>.no
noncomputable def run(fu:Nat)(Γ:ah->List D->Rc)(G:ah->Option D):Sx->En->So
 |.nop,ρ=>.next ρ
 |.seq a b,ρ=>match run fu Γ G a ρ with
  |.next ρ'=>run fu Γ G b ρ'
  |o=>o
 |.set i e,ρ=>orE (Rh i (ev Γ G e ρ) ρ) (er Γ G e ρ) ρ
 |.mov i j,ρ=>Dy i j ρ[j]? ρ
 |.expr e,ρ=>orE (j0n (ev Γ G e ρ) ρ) (er Γ G e ρ) ρ
 |.ret e,ρ=>orE (retS (ev Γ G e ρ)) (er Γ G e ρ) ρ
 |.retV i,ρ=>Mm ρ[i]?
 |.ife c a b,ρ=>match truth (ev Γ G c ρ) with
  |some a5=>run fu Γ G a ρ
  |some a4=>run fu Γ G b ρ
  |none=>.no
 |.loop is it body,ρ=>match ev Γ G it (frz it ρ) with
  |some (.i ds)=>Jl (λd ρ=>match qz is d ρ with
   |some ρ2=>run fu Γ G body ρ2
   |none=>.no) ds (frz it ρ)
  |_=>.no
 |.app i e,ρ=>Cz i ρ[i]? (ev Γ G e ρ) ρ
 |.ext i e,ρ=>Cm i ρ[i]? (ev Γ G e ρ) ρ
 |.put i k e,ρ=>Dt i ρ[i]? (ev Γ G k ρ) (ev Γ G e ρ) ρ
 |.fgt i,ρ=>.next (ρ.set i .un)
 |.keep i,ρ=>O1 i ρ[i]? ρ
 |.lent h ea eb mid b,ρ=>Mz h (Qw mid) ρ (stOf (ev Γ G ea ρ)) (ev Γ G eb ρ) (vm Γ G mid) (run fu Γ G b)
 |.dcp i j k e,ρ=>jlk i j ρ[j]? (ev Γ G k (ρ.set i .un)) (ev Γ G e (ρ.set i .un)) ρ
 |.taken h q a b e t,ρ=>if h≠q/\h<ρ.length then match ev Γ G a ρ,ev Γ G b ρ with
   |some (.v (.o la)),a3 (.v (.o lb))=>match ev Γ G e (ρ.set h (.val (.lst [.lst la,.lst lb]))) with
    |some (.v x)=>match x.st with
     |some d=>if vd d=a5/\truth (ev Γ G t ((ρ.set h (.val (.lst [.lst la,.lst lb]))).set q (.val d)))=a3 a4 then .next ((ρ.set h (.val (.lst [.lst la.reverse,.lst []]))).set q (.val d))else .no
     |none=>.no
    |_=>.no
   |_,_=>.no
  else .no
 |.unp i j e,ρ=>jkl i j (stOf (ev Γ G e ρ)) ρ
 |.dmake x t y it e,ρ=>if x<ρ.length/\t<ρ.length/\y<ρ.length/\x≠t/\x≠y/\t≠y then match ev Γ G it (ρ.set x .un) with
   |some (.i ds)=>match j3w (λρ=>stOf (ev Γ G e ρ)) t y ds (ρ.set x .un) [] [] with
    |some r=>.ret (.val (.dct r.1 r.2))
    |none=>.no
   |_=>.no
  else .no
 |.ioN es e,ρ=>match G (qm "_law_plan"),ev Γ G es ρ,ev Γ G e ρ with
  |some _,a3 (.a [x,y,z]),a3 (.v (.o [.int n]))=>match x.d,y.d,z.d with
   |.lst ls,.int dR,.int k=>match strsOf ls with
    |some ws=>if 0<=k/\k<=5/\ws.length<=60 then .ret (.val (U6 k.toNat ws dR n).1)else .no
    |none=>.no
   |_,_,_=>.no
  |_,_,_=>.no
 |.retL x is,ρ=>Nv x (Qe ρ is)
 |.retC f x a b is,ρ=>Nx Γ f x (Qe ρ is) (ev Γ G a ρ) (ev Γ G b ρ)
 |.nmake x t y it e1 e2,ρ=>if x<ρ.length/\t<ρ.length/\y<ρ.length/\x≠t/\x≠y/\t≠y then match ev Γ G it (ρ.set x .un) with
   |some (.i ds)=>match Vp (λρ=>stOf (ev Γ G e1 ρ)) (λρ=>stOf (ev Γ G e2 ρ)) x t y ds (ρ.set x .un) [] [] with
    |some r=>.ret (.val (.dct r.1 (r.2.map D.int)))
    |none=>.no
   |_=>.no
  else .no
 |.wmake x t it e,ρ=>if x<ρ.length/\t<ρ.length/\x≠t then match ev Γ G it (ρ.set x .un) with
   |some (.i ds)=>match Vj (λρ=>stOf (ev Γ G e ρ)) x t ds (ρ.set x .un) [] [] with
    |some r=>.ret (.val (.dct r.1 (r.2.map D.int)))
    |none=>.no
   |_=>.no
  else .no
 |.apop i w e,ρ=>jk3 i w ρ[i]? ρ[w]? (ev Γ G e ρ) ρ
 |.pop3 i j k w,ρ=>popS i j k w ρ[w]? ρ
 |.fail,_=>.no
section
variable{Γ:ah->List D->Rc}{G:ah->Option D}{ρ:En}{fu:Nat}
theorem j49{a b}:run fu Γ G (.seq a b) ρ=(match run fu Γ G a ρ with
  |.next ρ'=>run fu Γ G b ρ'
  |o=>o):=(rfl)
theorem jb4{i e}:run fu Γ G (.set i e) ρ=(orE (Rh i (ev Γ G e ρ) ρ) (er Γ G e ρ) ρ):=(rfl)
theorem jkd{i j}:run fu Γ G (.mov i j) ρ=(Dy i j ρ[j]? ρ):=(rfl)
theorem jie{e}:run fu Γ G (.expr e) ρ=(orE (j0n (ev Γ G e ρ) ρ) (er Γ G e ρ) ρ):=(rfl)
theorem jb5{e}:run fu Γ G (.ret e) ρ=(orE (retS (ev Γ G e ρ)) (er Γ G e ρ) ρ):=(rfl)
theorem ji8{i}:run fu Γ G (.retV i) ρ=(Mm ρ[i]?):=(rfl)
theorem jke{c a b}:run fu Γ G (.ife c a b) ρ=(match truth (ev Γ G c ρ) with
  |some a5=>run fu Γ G a ρ
  |some a4=>run fu Γ G b ρ
  |none=>.no):=(rfl)
theorem jib{is it body}:run fu Γ G (.loop is it body) ρ=(match ev Γ G it (frz it ρ) with
  |some (.i ds)=>Jl (λd ρ=>match qz is d ρ with
   |some ρ2=>run fu Γ G body ρ2
   |none=>.no) ds (frz it ρ)
  |_=>.no):=(rfl)
theorem jkh{i e}:run fu Γ G (.app i e) ρ=(Cz i ρ[i]? (ev Γ G e ρ) ρ):=(rfl)
theorem jkg{i e}:run fu Γ G (.ext i e) ρ=(Cm i ρ[i]? (ev Γ G e ρ) ρ):=(rfl)
theorem jkc{i k e}:run fu Γ G (.put i k e) ρ=(Dt i ρ[i]? (ev Γ G k ρ) (ev Γ G e ρ) ρ):=(rfl)
theorem jkf{i}:run fu Γ G (.fgt i) ρ=(.next (ρ.set i .un)):=(rfl)
theorem jid{i}:run fu Γ G (.keep i) ρ=(O1 i ρ[i]? ρ):=(rfl)
theorem jic{h ea eb mid b}:run fu Γ G (.lent h ea eb mid b) ρ=(Mz h (Qw mid) ρ (stOf (ev Γ G ea ρ)) (ev Γ G eb ρ) (vm Γ G mid) (run fu Γ G b)):=(rfl)
theorem ji9{x is}:run fu Γ G (.retL x is) ρ=(Nv x (Qe ρ is)):=(rfl)
theorem jia{f x a b is}:run fu Γ G (.retC f x a b is) ρ=(Nx Γ f x (Qe ρ is) (ev Γ G a ρ) (ev Γ G b ρ)):=(rfl)
theorem j2z{x t y it e1 e2}:run fu Γ G (.nmake x t y it e1 e2) ρ=(if x<ρ.length/\t<ρ.length/\y<ρ.length/\x≠t/\x≠y/\t≠y then match ev Γ G it (ρ.set x .un) with
   |some (.i ds)=>match Vp (λρ=>stOf (ev Γ G e1 ρ)) (λρ=>stOf (ev Γ G e2 ρ)) x t y ds (ρ.set x .un) [] [] with
    |some r=>.ret (.val (.dct r.1 (r.2.map D.int)))
    |none=>.no
   |_=>.no
  else .no):=(rfl)
theorem j2y{x t it e}:run fu Γ G (.wmake x t it e) ρ=(if x<ρ.length/\t<ρ.length/\x≠t then match ev Γ G it (ρ.set x .un) with
   |some (.i ds)=>match Vj (λρ=>stOf (ev Γ G e ρ)) x t ds (ρ.set x .un) [] [] with
    |some r=>.ret (.val (.dct r.1 (r.2.map D.int)))
    |none=>.no
   |_=>.no
  else .no):=(rfl)
end
def j4a(X:Cx):List (ah×aa)->List Nat->Prop
 |[],is=>is=[]
 |p::cl,is=>∃(i:Nat)(r:List Nat),is=i::r/\X.N[i]?=a3 p.1/\X.env.scope.names.lookup p.1=a3 .cell/\X.env.cells.lookup p.1=a3 p.2/\X.fn p.1=a5/\j4a X cl r
theorem Cv{X:Cx}{ρ:Rho}:∀{cl:List (ah×aa)} {is:List Nat} {ds:List D},j4a X cl is->Qe (j8 ρ) is=a3 ds->Zu X ρ cl ds
 |[],_,ds,h,e=>by cases h;cases e;rfl
 |p::cl,_,ds,⟨i,r,ei,h1,h2,h3,h4,l⟩,e=>by
  subst ei;unfold Qe at e;split at e
  .rename_i d ds' e1 e2;cases e;exact⟨d,ds',i,rfl,h1,h2,h3,h4,Zt e1,Cv l e2⟩
  .cases e
inductive Ns where
 |s (st:aQ)
 |ss (sts:List aQ)
def TMs(X:Cx)(b:Sx)(ss:List aQ):Prop:=∀(Γ:ah->List D->Rc)(G:ah->Option D),Cok X G->Gok X Γ->∀(ρ:Rho)(r:En),vm Γ G b (j8 ρ)=a3 r->∃ρ',j8 ρ'=r/\DMs X ρ ρ' (Qw b) ss
def TMt(X:Cx)(b:Sx)(full tl:List aQ):Prop:=∀(Γ:ah->List D->Rc)(G:ah->Option D),Cok X G->Gok X Γ->∀(ρ:Rho)(r:En),vm Γ G b (j8 ρ)=a3 r->∃ρ',j8 ρ'=r/\DMt X ρ ρ' (Qw b) full tl
noncomputable def Rt.rc:Rt->Rc
 |.val d=>.val d
 |.fresh l=>.fresh l
def Ui(o:So)(P:Po):Prop:=match o with
 |.next ρ'=>∀ρ2,j8 ρ2=ρ'->P.nx ρ2
 |.ret r=>∀x:Rt,x.rc=r->P.rt x
 |.brk ρ'=>∀ρ2,j8 ρ2=ρ'->P.bk ρ2
 |.cnt ρ'=>∀ρ2,j8 ρ2=ρ'->P.ct ρ2
 |.err x ρ'=>∀ρ2,j8 ρ2=ρ'->P.ex x ρ2
 |.no=>False
theorem U0{o:So}{x:Option ah}{ρ:En}{P:Po}(h:Ui (orE o x ρ) P):Ui o P\/∃y,x=a3 y/\∀ρ2,j8 ρ2=ρ->P.ex y ρ2:=by
 cases o with
 |no =>
  cases x with
  |none=>exact h.elim
  |some y=>exact .inr ⟨y,rfl,h⟩
 |_=>exact .inl h
def jb6(fu:Nat)(Γ:ah->List D->Rc)(G:ah->Option D)(X:Cx)(t:Sx):Ns->Prop
 |.s st=>∀ρ P,Ui (run fu Γ G t (j8 ρ)) P->DS X ρ st P
 |.ss sts=>∀ρ P,Ui (run fu Γ G t (j8 ρ)) P->DSs X ρ sts P
section
variable{K:k8d}{ρ:Rho}{σ:St}{H:Hp}{i j:Nat}{a:aa}{l:List D}
theorem Rep.move(R:Rep K ρ σ H)(hj:ρ[j]?=a3 (.own a l))(hij:i≠j):Rep K ((ρ.set j .un).set i (.own a l)) (σ.set i (a3 (.ref a))) H:=by
 have s1:(owns (ρ.set j .un)).Sublist (owns ρ):=jf rfl;have na:a∉owns (ρ.set j .un):=λz=>by
  obtain⟨k,l',q⟩:=Vo z;rcases getElem?_set_of q with ⟨_,z,_⟩|⟨n,q⟩
  .cases z
  .exact n (Yo R.nd hj q)
 obtain⟨nd,sub⟩:=Js (ds:=l) (i:=i) (s1.nodup R.nd) na;have g:j0 (del H (owns ρ)) (del H (owns ((ρ.set j .un).set i (.own a l)))):=vo λb hb=>by
  rcases sub b hb with e|z
  .exact e▸Qo hj
  .exact s1.subset z
 refine⟨by simp[R.len],λk d' h=>?_,λk b ds' h=>?_,nd,λk b o x h=>?_,R.tb⟩
 .rcases getElem?_set_of h with ⟨rfl,z,_⟩|⟨n,h⟩
  .cases z
  .rcases getElem?_set_of h with ⟨rfl,z,_⟩|⟨n2,h⟩
   .cases z
   .obtain⟨u,q,e⟩:=R.val k d' h;exact⟨u,by rw[qy n];exact q,e.mono g⟩
 .rcases getElem?_set_of h with ⟨rfl,z,hl⟩|⟨n,h⟩
  .cases z;obtain⟨_,xs,hx,en⟩:=R.own j a l hj;exact⟨Vv (by rw[R.len];simpa using hl),xs,hx,en.mono g⟩
  .rcases getElem?_set_of h with ⟨rfl,z,_⟩|⟨n2,h⟩
   .cases z
   .obtain⟨q,xs,hx,en⟩:=R.own k b ds' h;exact⟨by rw[qy n];exact q,xs,hx,en.mono g⟩
 .rcases getElem?_set_of h with ⟨rfl,z,_⟩|⟨n,h⟩
  .cases z
  .rcases getElem?_set_of h with ⟨rfl,z,_⟩|⟨n2,h⟩
   .cases z
   .obtain⟨q,h,z⟩:=R.raw k b o x h;exact⟨by rw[qy n];exact q,g _ _ h,z⟩
end
section
variable{X:Cx}{ρ:Rho}{e a b c:aj}{es:List aj}{st:aQ}{rest sa sb body:List aQ}{P:Po}{d:D}{ds ds':List D}{pos p p1 p2 p3:aK}{x y:ah}{i j:Nat}
theorem DS.freeze(i:Nat){l:aa}(h:ρ[i]?=a3 (.own l ds))(h2:DS X (ρ.set i (.val (.lst ds))) st P):DS X ρ st P:=λσ H E R q =>h2 σ H E (R.freeze h) (q.step (.drop λb hb=>(jf rfl).subset hb))
theorem DS.mov{l:aa}(hk:ρ[j]?=a3 (.own l ds))(hij:i≠j)(h:P.nx ((ρ.set j .un).set i (.own l ds)))(hN:X.N.Nodup)(hi:X.N[i]?=a3 x)(hj:X.N[j]?=a3 y)(hx:Loc X.env.scope x)
  (hf:X.fn x=a5\/X.env.scope.names.lookup x=a3 .local) (hv:Vis X.env.scope y) (hd:(y==k8h)=a4) (hcd:(y==k8i)=a4):DS X ρ (.Assign [.Name x p] (.Name y p1) pos) P:=λσ H E R q=>by
 obtain⟨hs,xs,m,en⟩:=R.own j l ds hk;refine(Zf hN hi hx (J8 hj hv hd hcd) rfl hf).to ⟨_,hs,q.nx _ _ H h (R.move hk hij) (.drop λb hb=>?_)⟩;have s1:(owns (ρ.set j .un)).Sublist (owns ρ):=jf rfl;have na:l∉owns (ρ.set j .un):=λz=>by
  obtain⟨k,l',q⟩:=Vo z;rcases getElem?_set_of q with ⟨_,z,_⟩|⟨n,q⟩
  .cases z
  .exact n (Yo R.nd hk q)
 rcases(Js (ds:=ds) (i:=i) (s1.nodup R.nd) na).2 b hb with z|z
 .exact z▸Qo hk
 .exact s1.subset z
theorem DS.setCf{ρf:Rho}{tg elt iter:aj}{ifs:List aj}{scope:b7}{spos:aK}(i:Nat)(cs:List Nat)(pr:D->Bool)(g:D->D)(hfr:∀K σ H,Rep K ρ σ H->Rep K ρf σ H)(hno:ρf=ρ\/zg ((ds.filter pr).map g)=a5)(hi:DI X ρf tg iter ds)
  (hb:∀C s H fp pn,∀d∈ds,∃ρ2,DG (cCx X scope C s H fp pn) ρf tg d ρ2/\Wk ρ2 ρf/\owns ρ2=owns ρf/\DTs (cCx X scope C s H fp pn) ρ2 ifs (pr d)/\(pr d=a5->DE (cCx X scope C s H fp pn) ρ2 elt (g d)))
  (h:∀l,P.nx (ρ.set i (.own l ((ds.filter pr).map g)))) (hN:X.N.Nodup) (hcs:∀j∈cs,ρf[j]?=a3 .un) (hsz:ds.length<=ak) (hX:X.N[i]?=a3 x) (hx:Loc X.env.scope x)
  (hf:X.fn x=a5\/X.env.scope.names.lookup x=a3 .local)
  (hsw:aE (.ListComp elt [⟨tg,iter,ifs,0⟩] scope pos) (a3 (.Name x p1)) spos.line X.env=pure a5)
  (hc:X.calm=a5) (hkind:scope.kind=.function) (hok:Jx scope X.env X.N cs=a5)
  (hs:∀x,aB iter X.env x=pure x):DS X ρ (.Assign [.Name x p1] (.ListComp elt [⟨tg,iter,ifs,0⟩] scope pos) spos) P:=λσ H E R q pins s I=>by
 have Rf:=hfr _ _ _ R;rw[exec_Assign_Name_used _ _ _ _ hsw];refine a7 (fw (a7 ?_));show ar _ X.A (do let _ <-comprehension (.ListComp elt [⟨tg,iter,ifs,0⟩] scope pos) scope X.env _ (newList []) a4 (ay iter X.env) (a3 (cL (.Name x p1) X.env))) _ _ s;refine a7 (bH (iu (use:=a3 (cL (.Name x p1) X.env)) (Q:=λ_ s'=>SP X pins E .next s') rfl hs (De (Oq hok)) hkind (M7 hok)
  (thn (hi σ H (λJ H'=>j0 H H'/\Yy X.K (del H' (owns ρf)) J ds) Rf (λJ H' g1 ok=>⟨g1,ok⟩) pins s I) λv s1 h1=>thn h1 λitv s2 h2=>?_)) (λ_ s' hq=>ai (ai hq)) λ_ _ e=>e)
 obtain⟨it,fp,tn,J,H2,e,I2,T,st2,f2,g2,ok⟩:=h2;subst e;refine Ka (RR:=λacc C=>compPost (ax X.prog X.w) X.A X.xe (a3 (cL (.Name x p1) X.env)) (λ_ s'=>SP X pins E .next s') acc C) I2 (Rf.grow g2) T st2 f2 ok hc hkind hok hcs hsz hb ?_;intro D C xs H' s' m I' gg n m' en hm L;show ar _ X.A (cL (.Name x p1) X.env (.ref D)) _ _ _;refine ku (Lj I' hN hX hx (v:=.ref D) rfl (λs'' I'' ⟨a,sb,ha⟩=>?_) hf);have hCa:C≠a:=by
  rcases ha with e|e
  .rw[e];exact L.loc
  .exact c7 (L.cell x a e)
 have en':j4 X.K (del H' (D::owns ρ)) ((ds.filter pr).map g) xs:=by
  rcases hno with e|e
  .rw[e]at en;exact en
  .exact(en.mono ju).hide (λc hc=>by
    rcases xq.mp hc with z|z
    .rw[z];exact .inl ⟨xs,m'⟩
    .exact .inl ((R.grow (g2.trans gg)).owned c z)) e
 refine⟨m,hm.sameBut sb hCa,λh' sb'=>⟨σ.set i (a3 (.ref D)),H',I''.loose L sb',?_⟩⟩;exact q.nx _ _ H' (h D) (R.set_own (g2.trans gg) (g2.free n) m' en') (Fr0.new R (g2.trans gg) (g2.free n))
end
section
variable{fu:Nat}{Γ:ah->List D->Rc}{G:ah->Option D}{X:Cx}{P:Po}
theorem bind1{i:Nat}{y:ah}{p:aK}(nd:X.N.Nodup)(hi:X.N[i]?=a3 y)(hx:Loc X.env.scope y)(hf:X.fn y=a5\/X.env.scope.names.lookup y=a3 .local) :
  ∀ρ d ρ2,qz [i] d (j8 ρ)=a3 ρ2->∃ρ',j8 ρ'=ρ2/\DG X ρ (.Name y p) d ρ':=λρ d ρ2 h=>by
 simp only[qz]at h;cases h;exact⟨_,jc,DG.name _ nd hi hx hf⟩
theorem jk2{i j:Nat}{x y:ah}{n:Nat}{p q pt:aK}(hc:X.calm=a5)(hij:i≠j)(nd:X.N.Nodup)(hi:X.N[i]?=a3 x)(hj:X.N[j]?=a3 y)(hx:Loc X.env.scope x)(hy:Loc X.env.scope y)
  (hf:X.fn x=a5\/X.env.scope.names.lookup x=a3 .local) (hg:X.fn y=a5\/X.env.scope.names.lookup y=a3 .local) :
  ∀ρ d ρ2,qz [i,j] d (j8 ρ)=a3 ρ2->∃ρ',j8 ρ'=ρ2/\DG X ρ (.Tuple [.Name x p,.Name y q] n pt) d ρ':=λρ d ρ2 h=>by
 simp only[qz]at h;split at h
 .rename_i a b;cases h;exact⟨(ρ.set i (.val a)).set j (.val b),by rw[jc,jc];rfl,DG.pair _ _ hij nd hi hj hx hy hf hg hc⟩
 .cases h
theorem jhr{i j k:Nat}{x y z:ah}{n:Nat}{p q r pt:aK}(hc:X.calm=a5)(nd:X.N.Nodup)(hi:X.N[i]?=a3 x)(hj:X.N[j]?=a3 y)(hk:X.N[k]?=a3 z)(hx:Loc X.env.scope x)(hy:Loc X.env.scope y)(hz:Loc X.env.scope z)
  (hf:X.fn x=a5\/X.env.scope.names.lookup x=a3 .local) (hg:X.fn y=a5\/X.env.scope.names.lookup y=a3 .local) (hh:X.fn z=a5\/X.env.scope.names.lookup z=a3 .local) :
  ∀ρ d ρ2,qz [i,j,k,k] d (j8 ρ)=a3 ρ2->∃ρ',j8 ρ'=ρ2/\DG X ρ (.Tuple [.Name x p,.Name y q,.Name z r] n pt) d ρ':=λρ d ρ2 h=>by
 simp only[qz]at h;split at h
 .rename_i a b c;cases h;exact⟨((ρ.set i (.val a)).set j (.val b)).set k (.val c),by rw[jc,jc,jc];rfl,DG.three nd hi hj hk hx hy hz hf hg hh hc⟩
 .cases h
theorem DS.setX{e:aj}{x y:ah}{i:Nat}{p pos:aK}{ρ:Rho}(he:DX X ρ e y)(h:P.ex y ρ)(hN:X.N.Nodup)(hi:X.N[i]?=a3 x)(hx:Loc X.env.scope x)(hs:aE e (a3 (.Name x p)) pos.line X.env=pure a4)(hf:X.fn x=a5\/X.env.scope.names.lookup x=a3 .local) :
  DS X ρ (.Assign [.Name x p] e pos) P:=λσ H E R q=>(Zf hN hi hx peS hs hf).to (he σ H _ R (q.ex y ρ σ H h R (Fr0.refl _ _)))
theorem DS.exprX{e:aj}{y:ah}{pos:aK}{ρ:Rho}(he:DX X ρ e y)(h:P.ex y ρ)(hs:aE e a6 pos.line X.env=pure a4):DS X ρ (.Expr e pos) P:=λσ H E R q =>(Uz peS hs).to (he σ H _ R (q.ex y ρ σ H h R (Fr0.refl _ _)))
theorem DS.retX{e:aj}{y:ah}{pos:aK}{ρ:Rho}(he:DX X ρ e y)(h:P.ex y ρ):DS X ρ (.Return (a3 e) pos) P:=λσ H E R q =>(Uy peS).to (he σ H _ R (q.ex y ρ σ H h R (Fr0.refl _ _)))
theorem Wb{is:List Nat}{it':Ex}{b:Sx}{it tg:aj}{body:List aQ}{pos:aK}{ρ:Rho}(hq:X.calm=a5)(c:Cok X G)(hs:∀x,aB it X.env x=pure x)
  (hb:∀ρ d ρ2,qz is d (j8 ρ)=a3 ρ2->∃ρ',j8 ρ'=ρ2/\DG X ρ tg d ρ') (hi:∀ρ ds,ev Γ G it' (j8 ρ)=a3 (.i ds)->DI X ρ tg it ds)
  (ih:∀ρ P,Ui (run fu Γ G b (j8 ρ)) P->DSs X ρ body P) (h:Ui (run fu Γ G (.loop is it' b) (j8 ρ)) P):DS X ρ (.For tg it body [] pos) P:=by
 have main:∀ρf:Rho,j8 ρf=frz it' (j8 ρ)->DS X ρf (.For tg it body [] pos) P:=λρf ef=>by
  rw[jib]at h;rw[<-ef]at h;split at h
  .rename_i ds hds;generalize hf:(λd ρ=>_:D->En->So)=f at h;refine DS.for (ds:=ds) (λi ρ'=>Ui (Jl f (ds.drop i) (j8 ρ')) P) (hi ρf ds hds) (by rw[cX];exact h) (λi d ρ' hd w=>?_) (λρ' w=>?_) hq c.po hs
   .have hdr:ds.drop i=d::ds.drop (i+1):=by obtain⟨hlt,e⟩:=X7.mp hd;rw[T4 hlt,e]
    rw[hdr,Jl]at w;have ef2:f d (j8 ρ')=match qz is d (j8 ρ')with|some ρ2=>run fu Γ G b ρ2|none=>.no:=by rw[<-hf]<;>rfl
    rw[ef2]at w;cases hb2:qz is d (j8 ρ') with
    |none=>rw[hb2]at w;exact w.elim
    |some ρ2 =>
     rw[hb2]at w;obtain⟨ρ3,e3,dg⟩:=hb ρ' d ρ2 hb2;refine⟨ρ3,dg,ih ρ3 _ ?_⟩;rw[e3];dsimp only at w;cases ho:run fu Γ G b ρ2 with
     |next ρ4=>rw[ho]at w;exact λρ5 e=>by rw[<-e]at w;exact w
     |cnt ρ4=>rw[ho]at w;exact λρ5 e=>by rw[<-e]at w;exact w
     |brk ρ4=>rw[ho]at w;exact w
     |ret r=>rw[ho]at w;exact w
     |err x ρ4=>rw[ho]at w;exact w
     |no=>rw[ho]at w;exact w
   .rw[fB,Jl]at w;exact w ρ' rfl
  .exact h.elim
 by_cases z:Jf it' (j8 ρ)=a5
 .unfold Jf at z;split at z
  .rename_i i ei;split at z
   .rename_i l e;obtain⟨a,q⟩:=Qd e;refine DS.freeze i q (main _ ?_);rw[jc];simp only[frz,ei,e,Sl.abs]
   .cases z
  .cases z
 .have z':Jf it' (j8 ρ)=a4:=by simpa using z
  refine main ρ ?_;unfold frz;split
  .rename_i i ei;split
   .rename_i l e;simp only[Jf,ei,e]at z';cases z'
   .rfl
  .rfl
theorem j3a{is:List Nat}{elt' it' c':Ex}{elt it tg:aj}{ifs:List aj}{scope:b7}{p p1 pos:aK}{k:Nat}{z:ah}{ρ:Rho}(hq:X.calm=a5)(hX:Cok X G)
  (hk:X.N[k]?=a3 z) (hx:Loc X.env.scope z) (hf:X.fn z=a5\/X.env.scope.names.lookup z=a3 .local)
  (hsw:aE (.ListComp elt [⟨tg,it,ifs,0⟩] scope p) (a3 (.Name z p1)) pos.line X.env=pure a5)
  (hit:∀ρ ds,ev Γ G it' (j8 ρ)=a3 (.i ds)->DI X ρ tg it ds) (hkind:scope.kind=.function) (hok:Jx scope X.env X.N is=a5) (hs:∀x,aB it X.env x=pure x)
  (hb:∀ρ d ρ2,qz is d (j8 ρ)=a3 ρ2->(∀j∈is,ρ[j]?=a3 .un)->∃ρ',j8 ρ'=ρ2/\Wk ρ' ρ/\owns ρ'=owns ρ/\∀C s H fp pn,DG (cCx X scope C s H fp pn) ρ tg d ρ')
  (he:∀C s H fp pn ρ r,ev Γ G elt' (j8 ρ)=a3 (.v r)->Has (cCx X scope C s H fp pn) ρ elt r)
  (hc:∀C s H fp pn ρ,(ev Γ G c' (j8 ρ)=a3 (.a [])->DTs (cCx X scope C s H fp pn) ρ ifs a5)/\∀y k,ev Γ G c' (j8 ρ)=a3 (.a [y])->y.d=.bl k->DTs (cCx X scope C s H fp pn) ρ ifs k)
  (h:Ui (run fu Γ G (.set k (.comp is elt' it' c')) (j8 ρ)) P):DS X ρ (.Assign [.Name z p1] (.ListComp elt [⟨tg,it,ifs,0⟩] scope p) pos) P:=by
 rw[jb4]at h;unfold Rh at h;have h:=(U0 h).resolve_right λ⟨y,ey,_⟩=>by simp only[er]at ey;cases ey
 cases e:ev Γ G (.comp is elt' it' c') (j8 ρ) with
 |none=>rw[e]at h;exact h.elim
 |some w =>
  rw[e]at h;cases w with
  |a _=>exact h.elim
  |i _=>exact h.elim
  |v r =>
   obtain⟨l,ρf,ds,pr,g,er,el,hfz,hi,hun,hz,hb'⟩:=Oo hit hb he hc e;subst er;refine DS.setCf (ρf:=ρf) k is pr g ?_ ?_ hi hb' (λa=>?_) hX.nd hun hz hk hx hf hsw hq hkind hok hs
   .rcases hfz with e|⟨_,i,a,l',q,e⟩
    .subst e;exact λ_ _ _ R=>R
    .subst e;exact λ_ _ _ R=>R.freeze q
   .rcases hfz with e|⟨n,_⟩
    .exact .inl e
    .exact .inr (el▸n)
   .rw[<-el];exact h _ jc
theorem Yc{w:Option W}{d:D}(h:stOf w=a3 d):∃z,w=a3 (.v z)/\z.st=a3 d:=by
 unfold stOf at h;split at h
 .exact⟨_,rfl,h⟩
 .cases h
theorem TMs.nil:TMs X .nop []:=λΓ G c g ρ r h=>by cases h;exact⟨ρ,rfl,DMs.nil⟩
theorem TMs.fail{ss:List aQ}:TMs X .fail ss:=λΓ G c g ρ r h=>by cases h
theorem TMs.set{i:Nat}{x:ah}{e':Ex}{e:aj}{p pos:aK}{b:Sx}{ss:List aQ}(hi:X.N[i]?=a3 x)(hx:Loc X.env.scope x)(hs:aE e (a3 (.Name x p)) pos.line X.env=pure a4)(hf:X.fn x=a5\/X.env.scope.names.lookup x=a3 .local)(he:Tr X e' (.e e))(hb:TMs X b ss) :
  TMs X (.seq (.set i e') b) (.Assign [.Name x p] e pos::ss):=λΓ G c g ρ r h=>by
 simp only[vm]at h;cases ed:stOf (ev Γ G e' (j8 ρ)) with
 |none=>rw[ed]at h;cases h
 |some d =>rw[ed]at h;obtain⟨z,ez,hd⟩:=Yc ed;obtain⟨ρ',e1,h2⟩:=hb Γ G c g (ρ.set i (.val d)) r (by rw[jc];exact h);exact⟨ρ',e1,DMs.set ((sound he c g ρ z ez).toE hd) h2 c.nd hi hx hs hf⟩
theorem DMs.mono{ρ ρ':Rho}{is js:List Nat}{ss:List aQ}(h:∀j∈is,j∈js)(hm:DMs X ρ ρ' is ss):DMs X ρ ρ' js ss:=λσ H E R k=>hm σ H E R λσ' H' g R' f=>k σ' H' g R' λj hj=>f j λz=>hj (h j z)
theorem DMt.mono{ρ ρ':Rho}{is js:List Nat}{ss tl:List aQ}(h:∀j∈is,j∈js)(hm:DMt X ρ ρ' is ss tl):DMt X ρ ρ' js ss tl:=λσ H E R k=>hm σ H E R λσ' H' g R' f=>k σ' H' g R' λj hj=>f j λz=>hj (h j z)
theorem TMs.ife{c':Ex}{a b r:Sx}{e:aj}{sa sb ss:List aQ}{pos:aK}(hc:Tr X c' (.b e))(ha:TMs X a sa)(hb:TMs X b sb)(hr:TMs X r ss):TMs X (.seq (.ife c' a b) r) (.If e sa sb pos::ss):=λΓ G c g ρ z h=>by
 simp only[vm]at h;cases et:truth (ev Γ G c' (j8 ρ)) with
 |none=>rw[et]at h;cases h
 |some k =>
  rw[et]at h;have hk:=sound hc c g ρ k et;cases k with
  |true =>
   cases e1:vm Γ G a (j8 ρ) with
   |none=>simp only[e1]at h;cases h
   |some r1 =>simp only[e1]at h;obtain⟨ρ1,q1,q2⟩:=ha Γ G c g ρ r1 e1;obtain⟨ρ',q3,q4⟩:=hr Γ G c g ρ1 z (by rw[q1];exact h);exact⟨ρ',q3,DMs.mono (λj hj=>by simp only[Qw,pq]at hj ⊢;rcases hj with y|y<;>simp[y]) (DMs.ifT hk q2 q4)⟩
  |false =>
   cases e1:vm Γ G b (j8 ρ) with
   |none=>simp only[e1]at h;cases h
   |some r1 =>simp only[e1]at h;obtain⟨ρ1,q1,q2⟩:=hb Γ G c g ρ r1 e1;obtain⟨ρ',q3,q4⟩:=hr Γ G c g ρ1 z (by rw[q1];exact h);exact⟨ρ',q3,DMs.mono (λj hj=>by simp only[Qw,pq]at hj ⊢;rcases hj with y|y<;>simp[y]) (DMs.ifF hk q2 q4)⟩
theorem TMt.nil{tl:List aQ}:TMt X .nop tl tl:=λΓ G c g ρ r h=>by cases h;exact⟨ρ,rfl,DMt.nil⟩
theorem TMt.set{i:Nat}{x:ah}{e':Ex}{e:aj}{p pos:aK}{b:Sx}{ss tl:List aQ}(hi:X.N[i]?=a3 x)(hx:Loc X.env.scope x)(hs:aE e (a3 (.Name x p)) pos.line X.env=pure a4)(hf:X.fn x=a5\/X.env.scope.names.lookup x=a3 .local)(he:Tr X e' (.e e))(hb:TMt X b ss tl) :
  TMt X (.seq (.set i e') b) (.Assign [.Name x p] e pos::ss) tl:=λΓ G c g ρ r h=>by
 simp only[vm]at h;cases ed:stOf (ev Γ G e' (j8 ρ)) with
 |none=>rw[ed]at h;cases h
 |some d =>rw[ed]at h;obtain⟨z,ez,hd⟩:=Yc ed;obtain⟨ρ',e1,h2⟩:=hb Γ G c g (ρ.set i (.val d)) r (by rw[jc];exact h);exact⟨ρ',e1,DMt.set ((sound he c g ρ z ez).toE hd) h2 c.nd hi hx hs hf⟩
theorem TMt.ife{c':Ex}{a b r:Sx}{e:aj}{sa sb ss tl:List aQ}{pos:aK}(hc:Tr X c' (.b e))(ha:TMs X a sa)(hb:TMs X b sb)(hr:TMt X r ss tl):TMt X (.seq (.ife c' a b) r) (.If e sa sb pos::ss) tl:=λΓ G c g ρ z h=>by
 simp only[vm]at h;cases et:truth (ev Γ G c' (j8 ρ)) with
 |none=>rw[et]at h;cases h
 |some k =>
  rw[et]at h;have hk:=sound hc c g ρ k et;cases k with
  |true =>
   cases e1:vm Γ G a (j8 ρ) with
   |none=>simp only[e1]at h;cases h
   |some r1 =>simp only[e1]at h;obtain⟨ρ1,q1,q2⟩:=ha Γ G c g ρ r1 e1;obtain⟨ρ',q3,q4⟩:=hr Γ G c g ρ1 z (by rw[q1];exact h);exact⟨ρ',q3,DMt.mono (λj hj=>by simp only[Qw,pq]at hj ⊢;rcases hj with y|y<;>simp[y]) (DMt.ifT hk q2 q4)⟩
  |false =>
   cases e1:vm Γ G b (j8 ρ) with
   |none=>simp only[e1]at h;cases h
   |some r1 =>simp only[e1]at h;obtain⟨ρ1,q1,q2⟩:=hb Γ G c g ρ r1 e1;obtain⟨ρ',q3,q4⟩:=hr Γ G c g ρ1 z (by rw[q1];exact h);exact⟨ρ',q3,DMt.mono (λj hj=>by simp only[Qw,pq]at hj ⊢;rcases hj with y|y<;>simp[y]) (DMt.ifF hk q2 q4)⟩
noncomputable def Ig:Sv->Sl
 |.val d=>.val d
 |_=>.un
theorem j0h{s:Option Sv}{t:Bool}{x:Sl}(h:Ig (U9 s t)=x):x=.un\/∃d,x=.val d/\s=a3 (.val d)/\(t=a5->vd d=a5):=by
 subst h;unfold U9;split
 .rename_i d;split
  .split
   .rename_i z;exact .inr ⟨d,rfl,rfl,λ_=>z⟩
   .exact .inl rfl
  .rename_i z;exact .inr ⟨d,rfl,rfl,λy=>absurd y z⟩
 .exact .inl rfl
theorem j78{s:Option Sv}{t:Bool}:(Ig (U9 s t)).abs=U9 s t:=by
 unfold U9;split
 .split
  .split<;>rfl
  .rfl
 .rfl
end
structure Ts(X:Cx)(t:Sx)(nd:Ns):Prop where
 m:∀(fu:Nat)(Γ:ah->List D->Rc)(G:ah->Option D),Cok X G->Gok X Γ->jb6 fu Γ G X t nd
theorem Ts.nil:∀{X:Cx},Ts X .nop (.ss []):=by intro _;refine⟨λfu Γ G=>?_⟩;intro c g ρ P h;exact DSs.nil (h ρ rfl)
theorem Ts.cons:∀{X:Cx}{a b:Sx}{st:aQ}{rest:List aQ},Ts X a (.s st)->Ts X b (.ss rest)->Ts X (.seq a b) (.ss (st::rest)):=by
 intro _ _ _ _ _ q0 q1;refine⟨λfu Γ G=>?_⟩;have iha:=q0.m fu Γ G;have ihb:=q1.m fu Γ G;intro c g ρ P h;rw[j49]at h;split at h
 .rename_i ρ' e;exact DSs.cons (N:=λρ1=>j8 ρ1=ρ') (iha c g ρ _ (by rw[e];exact λρ2 z=>z)) λρ1 z=>ihb c g ρ1 P (by rw[z];exact h)
 .rename_i o hn;refine DSs.cons (N:=λ_=>False) (iha c g ρ _ ?_) λ_ z=>z.elim;cases e:run fu Γ G _ (j8 ρ) with
  |next ρ'=>exact absurd e (hn ρ')
  |ret r=>rw[e]at h;exact h
  |err x r=>rw[e]at h;exact h
  |brk r=>rw[e]at h;exact h
  |cnt r=>rw[e]at h;exact h
  |no=>rw[e]at h;exact h
theorem Ts.fgt:∀{X:Cx}{i:Nat}{b:Sx}{sts:List aQ},Ts X b (.ss sts)->Ts X (.seq (.fgt i) b) (.ss sts):=by intro _ _ _ _ q0;refine⟨λfu Γ G=>?_⟩;have ih:=q0.m fu Γ G;intro c g ρ P h;simp only[j49,jkf]at h;exact DSs.forget _ (ih c g _ P (by rw[jc];exact h))
theorem Ts.lent:∀{X:Cx}{h:Nat}{nh:ah}{ea' eb':Ex}{mid b:Sx}{ea eb:aj}{ms rest:List aQ} {p1 p2 p3 r1 r2 r3 r4 r5 r6:aK} {n1:Nat} (iH:X.N[h]?=a3 nh) (lH:Loc X.env.scope nh) (vH:Vis X.env.scope nh) (fH:X.fn nh=a5\/X.env.scope.names.lookup nh=a3 .local) (dH:(nh==k8h)=a4) (cH:(nh==k8i)=a4) (s1:aE (.List [ea,eb] p2) (a3 (.Name nh p1)) p3.line X.env=pure a4) (hst:a8 [ea,eb] X.env=(a4,ay ea X.env)::a8 [eb] X.env) (hst2:a8 [eb] X.env=(a4,ay eb X.env)::a8 [] X.env),Tr X ea' (.e ea)->Tr X eb' (.e eb)->TMt X mid ms (.Expr (.Call (.Attribute (.Subscript (.Name nh r1) (.Constant (.int 1) n1 r2) r3) "reverse" r4) [] [] r5) r6::rest)->(aE (.Call (.Attribute (.Subscript (.Name nh r1) (.Constant (.int 1) n1 r2) r3) "reverse" r4) [] [] r5) a6 r6.line X.env=pure a4/\aP (.Subscript (.Name nh r1) (.Constant (.int 1) n1 r2) r3) "reverse" X.env (ay (.Subscript (.Name nh r1) (.Constant (.int 1) n1 r2) r3) X.env)=ay (.Subscript (.Name nh r1) (.Constant (.int 1) n1 r2) r3) X.env/\(r4.endLine==r5.line)=a5/\Zw (.Constant (.int 1) n1 r2))->Ts X b (.ss rest)->Ts X (.lent h ea' eb' mid b) (.ss (.Assign [.Name nh p1] (.List [ea,eb] p2) p3::ms)):=by
 intro _ h nh ea' eb' mid b ea eb ms rest p1 p2 p3 r1 r2 r3 r4 r5 r6 n1 iH lH vH fH dH cH s1 hst hst2 ha hb hmid hq5 q4;refine⟨λfu Γ G=>?_⟩;have ih:=q4.m fu Γ G;intro c g ρ P hh;rw[jic]at hh;unfold Mz at hh;split at hh
 .rename_i d0 lb e0 eb';split at hh
  .rename_i r er;split at hh
   .rename_i hcnd;obtain⟨k1,k2,k3,k4⟩:=hcnd;have ln:(j8 ρ).length=ρ.length:=by unfold j8;rw[kj]
    rw[ln]at k1 k3;obtain⟨z0,ez0,hd0⟩:=Yc e0;obtain⟨ρm,em,hm⟩:=hmid Γ G c g (ρ.set h (.val (.lst [d0,.lst lb]))) r (by rw[jc];exact er);have lm:ρm.length=r.length:=by rw[<-em];unfold j8;rw[kj]
    have ef:j8 ((Vq h (Qw mid) (j8 ρ) r).map Ig)=Vq h (Qw mid) (j8 ρ) r:=by
     unfold j8 Vq;rw[Xc,Xc];refine tu λj _=>?_;simp only[cy];split
     .rfl
     .split<;>exact j78
    refine DSs.lent (ρm:=ρm) (ρf:=(Vq h (Qw mid) (j8 ρ) r).map Ig) k1 k2 c.nd iH lH vH fH dH cH s1 hst hst2 hq5.1 hq5.2.1 hq5.2.2.1 hq5.2.2.2 ((sound ha c g ρ z0 ez0).toE hd0) (sound hb c g ρ (.o lb) eb') hm (by unfold Vq;rw[kj,kj,Xi,ln]) (by rw[lm,k3]) (λj s hj=>?_) (λj s hj=>?_) (ih c g _ P (by rw[ef];exact hh))
    .have rj:r[j]?=a3 s.abs:=by rw[<-em,Wz,hj];rfl
     have pj:=Pa.mp k4 _ (Xm rj);cases s with
     |un=>exact .inl rfl
     |val d=>exact .inr ⟨d,rfl⟩
     |_=>cases pj
    .unfold Vq at hj;rw[X3,X3]at hj;by_cases jl:j<(j8 ρ).length
     .rw[Pj jl]at hj;have hj:=av hj;dsimp only at hj;by_cases jh:j=h
      .rw[if_pos jh]at hj;exact .inl hj.symm
      .rw[if_neg jh]at hj;by_cases ji:j∈Qw mid
       .rw[if_pos ji]at hj;rcases j0h hj with z|⟨d,z1,z2,z3⟩
        .exact .inl z
        .exact .inr ⟨d,z1,.inl ⟨ji,Zt (by rw[em];exact z2),z3 rfl⟩⟩
       .rw[if_neg ji]at hj;rcases j0h hj with z|⟨d,z1,z2,_⟩
        .exact .inl z
        .exact .inr ⟨d,z1,.inr ⟨ji,jh,Zt z2⟩⟩
     .rw[Xp (by rw[Xi];omega)]at hj;cases hj
   .exact hh.elim
  .exact hh.elim
 .exact hh.elim
theorem Ts.keep:∀{X:Cx}{i:Nat}{b:Sx}{sts:List aQ},Ts X b (.ss sts)->Ts X (.seq (.keep i) b) (.ss sts):=by
 intro _ i _ _ q0;refine⟨λfu Γ G=>?_⟩;have ih:=q0.m fu Γ G;intro c g ρ P h;simp only[j49,jid,O1]at h;cases e:(j8 ρ)[i]? with
 |none=>rw[e]at h;exact h.elim
 |some v =>
  rw[e]at h;cases v with
  |own l =>obtain⟨a,q⟩:=Qd e;exact DSs.freeze _ q (ih c g _ P (by rw[jc];exact h))
  |un=>exact h.elim
  |val d=>exact ih c g ρ P h
  |exc x=>exact h.elim
theorem Ts.fail:∀{X:Cx}{st:aQ},Ts X .fail (.s st):=by intro _ _;refine⟨λfu Γ G=>?_⟩;intro c g ρ P h;exact h.elim
theorem Ts.set:∀{X:Cx}{i:Nat}{x:ah}{e':Ex}{e:aj}{p pos:aK}(hi:X.N[i]?=a3 x) (hx:Loc X.env.scope x) (hs:aE e (a3 (.Name x p)) pos.line X.env=pure a4) (hf:X.fn x=a5\/X.env.scope.names.lookup x=a3 .local),Tr X e' (.e e)->Ts X (.set i e') (.s (.Assign [.Name x p] e pos)):=by
 intro _ _ _ _ _ _ _ hi hx hs hf he;refine⟨λfu Γ G=>?_⟩;intro c g ρ P h;have S:=sound he c g;rw[jb4]at h;unfold Rh at h;rcases U0 h with h|⟨y,ey,hP⟩
 rotate_left
 .exact DS.setX (Ek he c g ρ y ey) (hP ρ rfl) c.nd hi hx hs hf
 split at h
 .rename_i l e;exact DS.setO _ (S ρ _ e) (λa=>h _ jc) c.nd hi hx hs hf
 .rename_i r hn e;split at h
  .rename_i d hd;exact DS.set _ ((S ρ _ e).toE hd) (h _ jc) c.nd hi hx hs hf
  .exact h.elim
 .exact h.elim
theorem Ts.setC1:∀{X:Cx}{k i:Nat}{z y:ah}{py p p1 pos:aK}{elt' it' c':Ex}{elt it:aj}{ifs:List aj} {scope:b7} (hq:X.calm=a5) (hk:X.N[k]?=a3 z) (hx:Loc X.env.scope z) (hf:X.fn z=a5\/X.env.scope.names.lookup z=a3 .local) (hsw:aE (.ListComp elt [⟨.Name y py,it,ifs,0⟩] scope p) (a3 (.Name z p1)) pos.line X.env=pure a5) (hi:X.N[i]?=a3 y) (hl:Yz scope y=a5) (hkind:scope.kind=.function) (hok:Jx scope X.env X.N [i]=a5) (hs:∀x,aB it X.env x=pure x),Tr X it' (.i (.Name y py) it)->(∀C s H fp pn,Tr (cCx X scope C s H fp pn) elt' (.e elt))->(∀C s H fp pn,Tr (cCx X scope C s H fp pn) c' (.c ifs))->Ts X (.set k (.comp [i] elt' it' c')) (.s (.Assign [.Name z p1] (.ListComp elt [⟨.Name y py,it,ifs,0⟩] scope p) pos)):=by
 intro _ _ _ _ _ _ _ _ _ _ _ _ _ _ _ _ hq hk hx hf hsw hi hl hkind hok hs hit he hc;refine⟨λfu Γ G=>?_⟩;intro c g ρ P h;exact j3a hq c hk hx hf hsw (λρ ds z=>sound hit c g ρ ds z) hkind hok hs (λρ d ρ2 hb hun=>by
  simp only[qz]at hb
  cases hb
  have hu:=hun _ (xn.mpr rfl)
  exact⟨_,jc,Wk.set hu,Vn hu,λC s H fp pn=>DG.name _ c.nd hi (Ml hl) (Nj hl)⟩)
  (λC s H fp pn ρ r z=>sound (he C s H fp pn) c.comp g.comp ρ r z) (λC s H fp pn ρ=>sound (hc C s H fp pn) c.comp g.comp ρ) h
theorem Ts.mov:∀{X:Cx}{i j:Nat}{x y:ah}{p q pos:aK}(hi:X.N[i]?=a3 x) (hj:X.N[j]?=a3 y) (hx:Loc X.env.scope x) (hf:X.fn x=a5\/X.env.scope.names.lookup x=a3 .local) (hv:Vis X.env.scope y) (hd:(y==k8h)=a4) (hcd:(y==k8i)=a4),Ts X (.mov i j) (.s (.Assign [.Name x p] (.Name y q) pos)):=by
 intro _ _ _ _ _ _ _ _ hi hj hx hf hv hd hcd;refine⟨λfu Γ G=>?_⟩;intro c g ρ P h;rw[jkd]at h;unfold Dy at h;split at h
 .rename_i l e;obtain⟨a,q⟩:=Qd e;split at h
  .exact h.elim
  .rename_i hij;exact DS.mov q hij (h _ (by rw[jc,jc];rfl)) c.nd hi hj hx hf hv hd hcd
 .rename_i d e;exact DS.set _ (DE.var _ (Zt e) hj hv hd hcd) (h _ jc) c.nd hi hx rfl hf
 .exact h.elim
theorem Ts.expr:∀{X:Cx}{e':Ex}{e:aj}{pos:aK}(hs:aE e a6 pos.line X.env=pure a4),Tr X e' (.e e)->Ts X (.expr e') (.s (.Expr e pos)):=by
 intro _ _ _ _ hs he;refine⟨λfu Γ G=>?_⟩;intro c g ρ P h;rw[jie]at h;unfold j0n at h;rcases U0 h with h|⟨y,ey,hP⟩
 rotate_left
 .exact DS.exprX (Ek he c g ρ y ey) (hP ρ rfl) hs
 split at h
 .rename_i r e;exact DS.expr (sound he c g ρ r e).toT (h ρ rfl) hs
 .exact h.elim
theorem Ts.ret:∀{X:Cx}{e':Ex}{e:aj}{pos:aK},Tr X e' (.e e)->Ts X (.ret e') (.s (.Return (a3 e) pos)):=by
 intro _ _ _ _ he;refine⟨λfu Γ G=>?_⟩;intro c g ρ P h;rw[jb5]at h;unfold retS at h;rcases U0 h with h|⟨y,ey,hP⟩
 rotate_left
 .exact DS.retX (Ek he c g ρ y ey) (hP ρ rfl)
 split at h
 .rename_i l e;exact DS.retO (sound he c g ρ _ e) (h _ rfl)
 .rename_i r hn e;exact DS.ret (sound he c g ρ _ e).toT (h _ rfl)
 .exact h.elim
theorem Ts.retV:∀{X:Cx}{i:Nat}{x:ah}{p pos:aK}(hi:X.N[i]?=a3 x) (hv:Vis X.env.scope x) (hd:(x==k8h)=a4) (hcd:(x==k8i)=a4),Ts X (.retV i) (.s (.Return (a3 (.Name x p)) pos)):=by
 intro _ _ _ _ _ hi hv hd hcd;refine⟨λfu Γ G=>?_⟩;intro c g ρ P h;rw[ji8]at h;unfold Mm at h;split at h
 .rename_i l e;obtain⟨a,q⟩:=Qd e;exact DS.retV _ q (h _ rfl) hi hv hd hcd
 .rename_i d e;exact DS.ret (DE.toT (DE.var _ (Zt e) hi hv hd hcd)) (h _ rfl)
 .exact h.elim
theorem Ts.ife:∀{X:Cx}{c':Ex}{a b:Sx}{c:aj}{sa sb:List aQ}{pos:aK},Tr X c' (.b c)->Ts X a (.ss sa)->Ts X b (.ss sb)->Ts X (.ife c' a b) (.s (.If c sa sb pos)):=by
 intro _ _ _ _ _ _ _ _ hc q1 q2;refine⟨λfu Γ G=>?_⟩;have iha:=q1.m fu Γ G;have ihb:=q2.m fu Γ G;intro c g ρ P h;rw[jke]at h;split at h
 .rename_i e;exact DS.if (sound hc c g ρ a5 e) (λ_=>iha c g ρ P h) λz=>by cases z
 .rename_i e;exact DS.if (sound hc c g ρ a4 e) (λz=>by cases z) λ_=>ihb c g ρ P h
 .exact h.elim
theorem Ts.for1:∀{X:Cx}{i:Nat}{y:ah}{it':Ex}{b:Sx}{it:aj}{body:List aQ} {p pos:aK} (hq:X.calm=a5) (hi:X.N[i]?=a3 y) (hx:Loc X.env.scope y) (hf:X.fn y=a5\/X.env.scope.names.lookup y=a3 .local) (hs:∀x,aB it X.env x=pure x),Tr X it' (.i (.Name y p) it)->Ts X b (.ss body)->Ts X (.loop [i] it' b) (.s (.For (.Name y p) it body [] pos)):=by intro _ _ _ _ _ _ _ _ _ hq hi hx hf hs hit q1;refine⟨λfu Γ G=>?_⟩;have ih:=q1.m fu Γ G;intro c g ρ P h;exact Wb hq c hs (bind1 c.nd hi hx hf) (λρ ds z=>sound hit c g ρ ds z) (ih c g) h
theorem Ts.for2:∀{X:Cx}{i j:Nat}{x y:ah}{it':Ex}{b:Sx}{it:aj}{body:List aQ} {n:Nat} {p q pt pos:aK} (hq:X.calm=a5) (hij:i≠j) (hi:X.N[i]?=a3 x) (hj:X.N[j]?=a3 y) (hx:Loc X.env.scope x) (hy:Loc X.env.scope y) (hf:X.fn x=a5\/X.env.scope.names.lookup x=a3 .local) (hg:X.fn y=a5\/X.env.scope.names.lookup y=a3 .local) (hs:∀x,aB it X.env x=pure x),Tr X it' (.i (.Tuple [.Name x p,.Name y q] n pt) it)->Ts X b (.ss body)->Ts X (.loop [i,j] it' b) (.s (.For (.Tuple [.Name x p,.Name y q] n pt) it body [] pos)):=by intro _ _ _ _ _ _ _ _ _ _ _ _ _ _ hq hij hi hj hx hy hf hg hs hit q1;refine⟨λfu Γ G=>?_⟩;have ih:=q1.m fu Γ G;intro c g ρ P h;exact Wb hq c hs (jk2 hq hij c.nd hi hj hx hy hf hg) (λρ ds z=>sound hit c g ρ ds z) (ih c g) h
theorem Ts.for3f:∀{X:Cx}{i j k:Nat}{x y z:ah}{it':Ex}{b:Sx}{it:aj}{body:List aQ} {n:Nat} {p q r pt pos:aK} (hq:X.calm=a5) (hi:X.N[i]?=a3 x) (hj:X.N[j]?=a3 y) (hk:X.N[k]?=a3 z) (hx:Loc X.env.scope x) (hy:Loc X.env.scope y) (hz:Loc X.env.scope z) (hf:X.fn x=a5\/X.env.scope.names.lookup x=a3 .local) (hg:X.fn y=a5\/X.env.scope.names.lookup y=a3 .local) (hh:X.fn z=a5\/X.env.scope.names.lookup z=a3 .local) (hs:∀x,aB it X.env x=pure x),Tr X it' (.i (.Tuple [.Name x p,.Name y q,.Name z r] n pt) it)->Ts X b (.ss body)->Ts X (.loop [i,j,k,k] it' b) (.s (.For (.Tuple [.Name x p,.Name y q,.Name z r] n pt) it body [] pos)):=by intro _ _ _ _ _ _ _ _ _ _ _ _ _ _ _ _ _ hq hi hj hk hx hy hz hf hg hh hs hit q1;refine⟨λfu Γ G=>?_⟩;have ih:=q1.m fu Γ G;intro c g ρ P h;exact Wb hq c hs (jhr hq c.nd hi hj hk hx hy hz hf hg hh) (λρ ds z=>sound hit c g ρ ds z) (ih c g) h
theorem Ts.app:∀{X:Cx}{i:Nat}{x:ah}{e':Ex}{e:aj}{p p1 p2 pos:aK}(hN:X.N[i]?=a3 x) (hv:Vis X.env.scope x) (hd:(x==k8h)=a4) (hcd:(x==k8i)=a4) (hst:a8 [e] X.env=[(a4,ay e X.env)]) (hline:(p1.endLine==p2.line)=a5) (hbase:aP (.Name x p) "append" X.env (ay (.Name x p) X.env)=ay (.Name x p) X.env) (hfew:((aM p2 (a8 [e] X.env)).all (λx=>!x.1)&&(b0 p2 (aJ [] X.env)).all (λx=>x.1.isSome)&&decide (([e]:List aj).length+([]:List ba).length+(if ([]:List ba).isEmpty then 0 else 1)<30))=a5),Tr X e' (.e e)->Ts X (.app i e') (.s (.Expr (.Call (.Attribute (.Name x p) "append" p1) [e] [] p2) pos)):=by
 intro _ _ _ _ _ _ _ _ _ hN hv hd hcd hst hline hbase hfew he;refine⟨λfu Γ G=>?_⟩;intro c g ρ P h;rw[jkh]at h;unfold Cz at h;split at h
 .rename_i l x el ex;obtain⟨a,q⟩:=Qd el;split at h
  .rename_i d hd';split at h
   .rename_i hz;exact DS.append _ q ((sound he c g ρ x ex).toE hd') hz (h _ jc) hN hv hd hcd hst hline hbase hfew rfl
   .exact h.elim
  .exact h.elim
 .exact h.elim
theorem Ts.ext:∀{X:Cx}{i:Nat}{x:ah}{e':Ex}{e:aj}{p p1 p2 pos:aK}(hN:X.N[i]?=a3 x) (hv:Vis X.env.scope x) (hd:(x==k8h)=a4) (hcd:(x==k8i)=a4) (hst:a8 [e] X.env=[(a4,ay e X.env)]) (hline:(p1.endLine==p2.line)=a5) (hbase:aP (.Name x p) "extend" X.env (ay (.Name x p) X.env)=ay (.Name x p) X.env) (hfew:((aM p2 (a8 [e] X.env)).all (λx=>!x.1)&&(b0 p2 (aJ [] X.env)).all (λx=>x.1.isSome)&&decide (([e]:List aj).length+([]:List ba).length+(if ([]:List ba).isEmpty then 0 else 1)<30))=a5),Tr X e' (.e e)->Ts X (.ext i e') (.s (.Expr (.Call (.Attribute (.Name x p) "extend" p1) [e] [] p2) pos)):=by
 intro _ _ _ _ _ _ _ _ _ hN hv hd hcd hst hline hbase hfew he;refine⟨λfu Γ G=>?_⟩;intro c g ρ P h;rw[jkg]at h;unfold Cm at h;split at h
 .rename_i l m el ex;obtain⟨a,q⟩:=Qd el;split at h
  .rename_i hz;exact DS.extend _ q (sound he c g ρ _ ex) (zj hz) (h _ jc) hN hv hd hcd hst hline hbase hfew rfl
  .exact h.elim
 .exact h.elim
theorem Ts.put:∀{X:Cx}{i:Nat}{x:ah}{k' e':Ex}{k e:aj}{p p1 pos:aK}(hN:X.N[i]?=a3 x) (hv:Vis X.env.scope x) (hd:(x==k8h)=a4) (hcd:(x==k8i)=a4) (ha:∀v,cL (.Subscript (.Name x p) k p1) X.env v=(do
    let ov <-cj [v] (ay (.Name x p) X.env)
    let iv <-cj [v,ov] (ay k X.env)
    fR p1
    cj [v,ov,iv] (setItem ov iv v)
    release [v,ov,iv] [])) (hs:iw [.Subscript (.Name x p) k p1] e pos.line X.env=pure a4) (hw:iy [.Subscript (.Name x p) k p1] e X.env=pure a6),Tr X k' (.e k)->Tr X e' (.e e)->Ts X (.put i k' e') (.s (.Assign [.Subscript (.Name x p) k p1] e pos)):=by
 intro _ _ _ _ _ _ _ _ _ _ hN hv hd hcd ha hs hw hk he;refine⟨λfu Γ G=>?_⟩;intro c g ρ P h;rw[jkc]at h;unfold Dt at h;split at h
 .rename_i l y x el ey ex;obtain⟨a,q⟩:=Qd el;split at h
  .rename_i j d ej ed;split at h
   .rename_i n en;exact DS.setItem _ q ((sound he c g ρ x ex).toE ed) (ej▸(sound hk c g ρ y ey).toT) en (h _ jc) hN hv hd hcd ha hs hw rfl
   .exact h.elim
  .exact h.elim
 .exact h.elim
theorem Ts.retL:∀{X:Cx}{x:ah}{is:List Nat}{params:dh}{body:aj}{scope:b7}{cl:List (ah×aa)} {p1 pos:aK} (hx:x∈Zz) (hqu:X.env.qual=x ++ ".<locals>.") (hdef:fJ params X.env=([],[])) (hcl:du scope X.env=pure cl) (ht:Qz X.K x=a3 (params,body,scope)) (hn:cl.map (·.1)=v5 scope) (nd:(v5 scope).Nodup) (hc:j4a X cl is),Ts X (.retL x is) (.s (.Return (a3 (.Lambda params body scope p1)) pos)):=by
 intro _ _ _ _ _ _ _ _ _ hx hqu hdef hcl ht hn nd hc;refine⟨λfu Γ G=>?_⟩;intro c g ρ P h;rw[ji9]at h;unfold Nv at h;split at h
 .rename_i ds e;exact DS.retLam ⟨hx,hqu,c.lm _ hx hqu⟩ hdef hcl ht hn nd (Cv hc e) (h (.val _) rfl)
 .exact h.elim
theorem Ts.retC:∀{X:Cx}{f x:ah}{is:List Nat}{a' b':Ex}{a b:aj}{params:dh}{body:aj} {scope:b7} {cl:List (ah×aa)} {p1 p2 p3 pos:aK} (hx:x∈Zz) (hqu:X.env.qual=x ++ ".<locals>.") (hdef:fJ params X.env=([],[])) (hcl:du scope X.env=pure cl) (ht:Qz X.K x=a3 (params,body,scope)) (hn:cl.map (·.1)=v5 scope) (nd:(v5 scope).Nodup) (hc:j4a X cl is) (hg:Gl X f) (hdb:(f==k8h)=a4) (hs1:a8 [a,b,.Lambda params body scope p1] X.env=(a4,ay a X.env)::a8 [b,.Lambda params body scope p1] X.env) (hs2:a8 [b,.Lambda params body scope p1] X.env=(a4,ay b X.env)::a8 [.Lambda params body scope p1] X.env) (hs3:a8 [.Lambda params body scope p1] X.env=(a4,ay (.Lambda params body scope p1) X.env)::a8 [] X.env) (hpl:(aM p3 (a8 [b,.Lambda params body scope p1] X.env)).any (·.1)=a4),Tr X a' (.e a)->Tr X b' (.e b)->Ts X (.retC f x a' b' is) (.s (.Return (a3 (.Call (.Name f p2) [a,b,.Lambda params body scope p1] [] p3)) pos)):=by
 intro _ f x is a' b' a b params body scope cl p1 p2 p3 pos hx hqu hdef hcl ht hn nd hc hg hdb hs1 hs2 hs3 hpl ha hb;refine⟨λfu Γ G=>?_⟩;intro c g ρ P h;rw[jia]at h;unfold Nx at h;split at h
 .rename_i ds u v e1 e2 e3;have q:=g f [u.d,v.d,.fn x ds];cases z:Γ f [u.d,v.d,.fn x ds] with
  |val d =>
   rw[z]at h q;dsimp only[Ih]at h;split at h
   .rename_i nf;exact DS.ret (DT.callL q ⟨hx,hqu,c.lm _ hx hqu⟩ hdef hcl ht hn nd (Cv hc e1) (sound ha c g ρ u e2).toT (sound hb c g ρ v e3).toT nf ⟨rfl,rfl⟩ hg hdb hs1 hs2 hs3 hpl) (h (.val _) rfl)
   .exact h.elim
  |fresh l=>rw[z]at h;exact h.elim
  |err x=>rw[z]at h;exact h.elim
  |lval d=>rw[z]at h;exact h.elim
  |no=>rw[z]at h;exact h.elim
 .exact h.elim
theorem Ts.nmake:∀{X:Cx}{x t y:Nat}{nx nt ny:ah}{it' e1' e2':Ex}{it e1 e2:aj}{p1 p2 p3 p4 p5 p6 p10 p11 p12 p14 p16 p17 p18:aK}(hq:X.calm=a5) (hX:X.N[x]?=a3 nx) (hT:X.N[t]?=a3 nt) (hY:X.N[y]?=a3 ny) (lx:Loc X.env.scope nx) (lt:Loc X.env.scope nt) (ly:Loc X.env.scope ny) (fx:X.fn nx=a5\/X.env.scope.names.lookup nx=a3 .local) (ft:X.fn nt=a5\/X.env.scope.names.lookup nt=a3 .local) (fy:X.fn ny=a5\/X.env.scope.names.lookup ny=a3 .local) (dx:(nx==k8h)=a4) (cx:(nx==k8i)=a4) (dt:(nt==k8h)=a4) (ct:(nt==k8i)=a4) (s1:aE (.Dict [] [] p2) (a3 (.Name nx p1)) p3.line X.env=pure a4) (s2:aE e1 (a3 (.Name ny p5)) p6.line X.env=pure a4) (s3:aE e2 (a3 (.Subscript (.Name nx p10) (.Name nt p11) p12)) p14.line X.env=pure a4) (hf:∀x,aB it X.env x=pure x),Tr X it' (.i (.Name nt p4) it)->Tr X e1' (.e e1)->Tr X e2' (.e e2)->Ts X (.nmake x t y it' e1' e2') (.ss (jaq nx nt ny it e1 e2 p1 p2 p3 p4 p5 p6 p10 p11 p12 p14 p16 p17 p18)):=by
 intro _ x t y nx nt ny it' e1' e2' it e1 e2 p1 p2 p3 p4 p5 p6 p10 p11 p12 p14 p16 p17 p18 hq hX hT hY lx lt ly fx ft fy dx cx dt ct s1 s2 s3 hf hit he1 he2;refine⟨λfu Γ G=>?_⟩;intro c g ρ P h;rw[j2z]at h;split at h
 .rename_i hcnd;obtain⟨rx,rt,ry,hxt,hxy,hty⟩:=hcnd;have ln:(j8 ρ).length=ρ.length:=by unfold j8;rw[kj]
  rw[ln]at rx rt ry;split at h
  .rename_i ds eds;split at h
   .rename_i r er;refine DSs.nmake (W:=λi ρ' ks ns=>Vp (λρ=>stOf (ev Γ G e1' ρ)) (λρ=>stOf (ev Γ G e2' ρ)) x t y (ds.drop i) (j8 ρ') ks ns=a3 r) rx rt ry hxt hxy hty (sound hit c g (ρ.set x .un) ds (by rw[jc];exact eds))
     (by rw[cX,jc];exact er) (λi d ρ' ks ns hd w=>?_) (λρ' ks ns w=>?_) c.un' hq c.po c.nd hX hT hY lx lt ly fx ft fy dx cx dt ct s1 s2 s3 hf
    .have hdr:ds.drop i=d::ds.drop (i+1):=by obtain⟨hlt,e⟩:=X7.mp hd;rw[T4 hlt,e]
     rw[hdr]at w;cases d with
     |tup l =>
      simp only[Vp]at w;split at w
      .rename_i k d1 ek ed;obtain⟨z,ez,ed2⟩:=Yc ed;have hk:=Q0 ek;subst hk;split at w
       .rename_i n en;obtain⟨z2,ez2,ed3⟩:=Yc en;split at w
        .rename_i hh;refine⟨k,d1,n,rfl,(sound he1 c g (ρ'.set t (.val (.tup (k.map D.int)))) z (by rw[jc];exact ez)).toE ed2,(sound he2 c g (((ρ'.set t (.val (.tup (k.map D.int)))).set y (.val d1)).set x (.val (.dct ks (ns.map D.int)))) z2 (by rw[jc,jc,jc];exact ez2)).toE ed3,hh.1,hh.2,by rw[jc,jc];exact w⟩
        .cases w
       .cases w
      .cases w
     |_=>simp only[Vp]at w;cases w
    .rw[fB,Vp]at w;cases w;exact h (.val (.dct ks (ns.map D.int))) rfl
   .exact h.elim
  .exact h.elim
 .exact h.elim
theorem Ts.wmake:∀{X:Cx}{x t:Nat}{nx nt:ah}{it' e2':Ex}{it e2:aj}{p1 p2 p3 p4 p10 p11 p12 p14 p16 p17 p18:aK}(hq:X.calm=a5) (hX:X.N[x]?=a3 nx) (hT:X.N[t]?=a3 nt) (lx:Loc X.env.scope nx) (lt:Loc X.env.scope nt) (fx:X.fn nx=a5\/X.env.scope.names.lookup nx=a3 .local) (ft:X.fn nt=a5\/X.env.scope.names.lookup nt=a3 .local) (dx:(nx==k8h)=a4) (cx:(nx==k8i)=a4) (dt:(nt==k8h)=a4) (ct:(nt==k8i)=a4) (s1:aE (.Dict [] [] p2) (a3 (.Name nx p1)) p3.line X.env=pure a4) (s3:aE e2 (a3 (.Subscript (.Name nx p10) (.Name nt p11) p12)) p14.line X.env=pure a4) (hf:∀x,aB it X.env x=pure x),Tr X it' (.i (.Name nt p4) it)->Tr X e2' (.e e2)->Ts X (.wmake x t it' e2') (.ss (jac nx nt it e2 p1 p2 p3 p4 p10 p11 p12 p14 p16 p17 p18)):=by
 intro _ x t nx nt it' e2' it e2 p1 p2 p3 p4 p10 p11 p12 p14 p16 p17 p18 hq hX hT lx lt fx ft dx cx dt ct s1 s3 hf hit he2;refine⟨λfu Γ G=>?_⟩;intro c g ρ P h;rw[j2y]at h;split at h
 .rename_i hcnd;obtain⟨rx,rt,hxt⟩:=hcnd;have ln:(j8 ρ).length=ρ.length:=by unfold j8;rw[kj]
  rw[ln]at rx rt;split at h
  .rename_i ds eds;split at h
   .rename_i r er;refine DSs.wmake (W:=λi ρ' ks ns=>Vj (λρ=>stOf (ev Γ G e2' ρ)) x t (ds.drop i) (j8 ρ') ks ns=a3 r) rx rt hxt (sound hit c g (ρ.set x .un) ds (by rw[jc];exact eds))
     (by rw[cX,jc];exact er) (λi d ρ' ks ns hd w=>?_) (λρ' ks ns w=>?_) c.un' hq c.po c.nd hX hT lx lt fx ft dx cx dt ct s1 s3 hf
    .have hdr:ds.drop i=d::ds.drop (i+1):=by obtain⟨hlt,e⟩:=X7.mp hd;rw[T4 hlt,e]
     rw[hdr]at w;cases d with
     |tup l =>
      simp only[Vj]at w;split at w
      .rename_i k n ek en;obtain⟨z2,ez2,ed3⟩:=Yc en;have hk:=Q0 ek;subst hk;split at w
       .rename_i hh;refine⟨k,n,rfl,(sound he2 c g ((ρ'.set t (.val (.tup (k.map D.int)))).set x (.val (.dct ks (ns.map D.int)))) z2 (by rw[jc,jc];exact ez2)).toE ed3,hh.1,hh.2,by rw[jc];exact w⟩
       .cases w
      .cases w
     |_=>simp only[Vj]at w;cases w
    .rw[fB,Vj]at w;cases w;exact h (.val (.dct ks (ns.map D.int))) rfl
   .exact h.elim
  .exact h.elim
 .exact h.elim
section
theorem Ux{fu:Nat}{Γ:ah->List D->Rc}{G:ah->Option D}{X:Cx}{t:Sx}{nd:Ns}(h:Ts X t nd):Cok X G->Gok X Γ->jb6 fu Γ G X t nd:=h.m fu Γ G
end
structure Fi where
 n:Nat
 nn:Nat
 body:Sx
 lam:Bool
noncomputable def j3o:Rc->Rc
 |.val d=>.lval d
 |_=>.no
noncomputable def fin:So->Rc
 |.ret r=>r
 |.next _=>.val .non
 |.err x _=>.err x
 |_=>.no
noncomputable def enter(F:Fi)(ds:List D):En:=ds.map Sv.val++ae (F.nn-F.n) Sv.un
noncomputable def evP(fu:Nat)(G:ah->Option D)(T:ah->Option Fi):Nat->ah->List D->Rc
 |0,_,_=>.no
 |n+1,f,ds=>match T f with
  |none=>.no
  |some F=>if ds.length=F.n then(if F.lam=a5 then j3o (fin (run fu (evP fu G T n) G F.body (enter F ds)))else fin (run fu (evP fu G T n) G F.body (enter F ds)))else .no
structure Lk(P:au)(w:az)(K:k8d)(mg:k8g)(base:aD)(x:ah)(F:Fi):Prop where
 ex:∃(st:aQ)(f:aa)(fd:aL)(N ps:List ah),Fun K x x st f fd/\FnScope N ps (jb st)/\ps.length=F.n/\N.length=F.nn/\Binds K fd ps []/\Dfl K x fd ps/\mg x=a3 (.ref f) /\
  ∀(cdv:a9)(A:aC)(outer:List dB)(s:af)(H:Hp)(E:XK)(xe:k8e),Ts ((vy CX0 P w K mg base N x (jb st) f cdv A outer s H E).wish xe) F.body (.ss (jt st))
structure LkL(P:au)(w:az)(K:k8d)(mg:k8g)(base:aD)(x:ah)(F:Fi):Prop where
 ex:∃(tx:Tx)(N ps:List ah)(e:Ex),Qz K x=a3 tx/\LamScope N ps tx.2.2/\N.length=F.n/\F.nn=F.n/\F.body=.ret e /\
  (∀(cl:List (ah×aa)) (pm:a9) (c:aa) (ctv:a9) (us:List a9),us.length=ps.length->eW (W.kla_fn "<lambda>" (jx x) tx.1 tx.2.1 tx.2.2 cl pm (.ref c) ctv) ⟨us,[]⟩=pure (ps.zip us)) /\
  ∀(a c:aa)(cl:List (ah×aa)) (A:aC) (outer:List dB) (s:af) (H:Hp),Tr (Uc P w K mg base N (jx x) tx.2.2 a (.ref c) cl A outer s H) e (.e tx.2.1)
def LkF(P:au)(w:az)(K:k8d)(mg:k8g)(base:aD)(f:ah)(F:Fi):Prop:=(F.lam=a4->Lk P w K mg base f F/\f.cps.toList.getLast?≠a3 62)/\(F.lam=a5->∃x,f=jx x/\LkL P w K mg base x F)
def j79(P:au)(w:az)(K:k8d)(mg:k8g)(base:aD):Prop:=∃(f:aa)(fd:aL)(ps:List ah),FnOk P w K mg base CX0 11 f fd ps (jen K jak)/\mg "_law_plan" = a3 (.ref f)/\W.keepIn K (.ref f)=a5/\Binds K fd ps []/\Dfl K "_law_plan" fd ps
structure Tb(P:au)(w:az)(K:k8d)(mg:k8g)(base:aD)(G:ah->Option D):Prop where
 bt:∀x∈Vy,mg x=a6
 gl:∀x d,Vx x=a4->G x=a3 d->∃u v,mg x=a3 u/\RelV v u/\∀H,Enc K H d v
 ea:Ip K=a5
 ec:∀x d,G (bang x)=a3 d->x∈Jv/\∃o,W.nsIn K aq x=a3 (a3 o)
 el:G "?" = a3 (.bl a5)->∀c∈Jv,∃v,W.nsIn K aq c=a3 (a3 v)
 kin:K.In base
 ns:base.Ns aq mg
 kd:∀x l,G (bang x)=a3 (.lst l)->KindsP P w K mg base "_law_kinds" x l
 fn:∀f d,G (qm f)=a3 d->∃fa,mg f=a3 (.ref fa)/\W.keepIn K (.ref fa)=a5
 pl:∀d,G (qm "_law_plan")=a3 d->j79 P w K mg base
 lm:∀x∈Zz,∀f cdv,mg x=a3 (.ref f)->Mi K f cdv->∃c Pt,cdv=.ref c/\W.codeHdIn K c Pt=a5/\W.tabIn K x=a3 (c,Pt)
structure LkH(P:au)(w:az)(K:k8d)(mg:k8g)(base:aD)(x:ah)(F:Fi):Prop where
 ex:∃(st:aQ)(f:aa)(fd:aL)(N:List ah)(p:ah),Fun K x x st f fd/\FnScope N [p] (jb st)/\1<=N.length/\N.length=F.nn/\Binds K fd [p] []/\mg x=a3 (.ref f) /\
  ∀(cdv:a9)(A:aC)(outer:List dB)(s:af)(H:Hp),Ts { (vy CX0 P w K mg base N x (jb st) f cdv A outer s H E0).nox with calm:=a4 } F.body (.ss (jt st))
section
variable{P:au}{w:az}{K:k8d}{mg:k8g}{base:aD}{fu:Nat}{G:ah->Option D}{T:ah->Option Fi}
theorem Wy{N:List ah}{ds:List D}{F:Fi}(h1:ds.length=F.n)(h2:N.length=F.nn):j8 (z9 N ds)=enter F ds:=by unfold j8 z9 enter;rw[Xf,Xc,iL,h1,h2];rfl
theorem Ma(y:ah):(bang y).cps.toList.head?=a3 33:=by unfold bang;show(("!":ah).cps++y.cps).toList.head?=a3 33;rw[Tv];rfl
theorem jdx (y:ah):bang y ≠ "?":=λh=>by have:=Ma y;rw[h]at this;exact absurd this (by decide)
theorem j1z(y:ah):(qm y).cps.toList.head?=a3 63:=by unfold qm;show(("??":ah).cps++y.cps).toList.head?=a3 63;rw[Tv];rfl
theorem jj2 (y:ah):qm y ≠ "?":=λh=>by
 have e:((qm y).cps.toList.drop 1).head?=a3 63:=by unfold qm;show((("??":ah).cps++y.cps).toList.drop 1).head?=a3 63;rw[Tv];rfl
 rw[h]at e;exact absurd e (by decide)
theorem jf4{x y:ah}(h:qm x=qm y):x=y:=by unfold qm at h;have h:(⟨("??":ah).cps++x.cps⟩:ah)=⟨("??":ah).cps++y.cps⟩:=h;have h:=congrArg kF h;have e:x.cps=y.cps:=gG h rfl;cases x;cases y;cases e;rfl
theorem j2x(x y:ah):bang x≠qm y:=λh=>by have:=Ma x;rw[h,j1z]at this;exact absurd this (by decide)
theorem O9{x y z:ah}(h:x++z=y++z):x=y:=by have h:(⟨x.cps++z.cps⟩:ah)=⟨y.cps++z.cps⟩:=h;have h:=congrArg kF h;have e:x.cps=y.cps:=Array.append_inj_left' h rfl;cases x;cases y;cases e;rfl
theorem j8f{x y:ah}(h:jx x=jx y):x=y:=O9 (O9 h)
theorem K3(x:ah):(jx x).cps.toList.getLast?=a3 62:=by unfold jx;show(((x ++ ".<locals>.").cps)++("<lambda>":ah).cps).toList.getLast?=a3 62;rw[Tv,List.getLast?_append];rfl
theorem j3p(x:ah):jx x∉Zz:=λh=>by
 have e:=K3 x
 revert e
 unfold Zz at h;rcases xq.mp h with h|h
 .rw[h];decide
 rcases xq.mp h with h|h
 .rw[h];decide
 rcases xq.mp h with h|h
 .rw[h];decide
 .rw[xn.mp h];decide
theorem jex{fu:Nat}{Γ:ah->List D->Rc}{G:ah->Option D}{e:Ex}{ρ:En}{d:D}(h:fin (run fu Γ G (.ret e) ρ)=.val d):∃r,ev Γ G e ρ=a3 (.v r)/\r.d=d:=by
 rw[jb5]at h;cases z:ev Γ G e ρ with
 |none=>rw[z]at h;cases y:er Γ G e ρ<;>(rw[y]at h;cases h)
 |some w =>
  cases w with
  |v r =>
   rw[z]at h;cases r with
   |o l=>cases h
   |e d=>cases h;exact⟨_,rfl,rfl⟩
   |w l=>cases h;exact⟨_,rfl,rfl⟩
   |t d=>cases h;exact⟨_,rfl,rfl⟩
  |a l=>rw[z]at h;cases y:er Γ G e ρ<;>(rw[y]at h;cases h)
  |i l=>rw[z]at h;cases y:er Γ G e ρ<;>(rw[y]at h;cases h)
theorem Yu (t:Tb P w K mg base G) {X:Cx} {n:Nat} (h1:X.prog=P) (h2:X.w=w) (h3:X.K=K) (h4:X.mg=mg) (h5:X.base=base) (hn:12<=n) (hr:Room n X.A) (nd:X.N.Nodup) (po:fg (ax X.prog X.w) X.A X.env X.xe) (hlm:∀x∈Zz,X.env.qual=x ++ ".<locals>."->∃c P,X.env.code=.ref c/\W.codeHdIn K c P=a5/\W.tabIn K x=a3 (c,P)):Cok X G:=by subst h1 h2 h3 h4 h5;exact⟨by have:=hr.un;omega,(λ_=>by have:=hr.un;omega),(λ_=>by have:=hr.dp;omega),t.bt,t.gl,nd,po,t.ea,t.ec,t.el,t.kin,t.ns,t.kd,t.fn,λd e=>let ⟨f,fd,ps,F,h1,h2,h3,h4⟩:=t.pl d e;⟨11,f,fd,ps,F,hr.mono hn,h1,h2,h3,h4⟩,hlm⟩
theorem Mx (t:Tb P w K mg base G) {g:ah} {f:aa} {cdv:a9} {env:dB} (hm:mg g=a3 (.ref f)) (hcv:Mi K f cdv) (hq:env.qual=g ++ ".<locals>.") (hc:env.code=cdv):∀x∈Zz,env.qual=x ++ ".<locals>."->∃c P,env.code=.ref c/\W.codeHdIn K c P=a5/\W.tabIn K x=a3 (c,P):=λx hx e=>by have eg:=O9 (hq.symm.trans e);subst eg;rw[hc];exact t.lm _ hx f cdv hm hcv
noncomputable def lv:Nat->Nat
 |0=>12
 |n+1=>lv n+2
theorem U8:∀n,12<=lv n+1
 |0=>by decide
 |n+1=>by have:=U8 n;unfold lv;omega
theorem Nz(hT:∀x F,T x=a3 F->LkF P w K mg base x F)(t:Tb P w K mg base G):∀(n:Nat)(x:ah)(ds:List D),
  ∃(f:aa)(fd:aL)(ps:List ah),match evP fu G T n x ds with
   |.val d=>FnOk P w K mg base CX0 (lv n) f fd ps (spP K λds' d'=>ds'=ds/\d'=d)/\mg x=a3 (.ref f)/\W.keepIn K (.ref f)=a5/\Binds K fd ps []/\Dfl K x fd ps
   |.fresh l=>FnOk P w K mg base CX0 (lv n) f fd ps (spF K λds' l'=>ds'=ds/\l'=l)/\mg x=a3 (.ref f)/\W.keepIn K (.ref f)=a5/\Binds K fd ps []/\Dfl K x fd ps
   |.err y=>FnOk P w K mg base (CX1 P w) (lv n) f fd ps (spX K mg λds' z=>ds'=ds/\z=y)/\mg x=a3 (.ref f)/\W.keepIn K (.ref f)=a5/\Binds K fd ps []
   |.lval d=>∀y,x=jx y->Iv P w K mg base (lv n) y λds' d'=>ds'=ds/\d'=d
   |.no=>True
 |0,x,ds=>⟨0,W.fnOf x x { posonlyargs:=[],args:=[],vararg:=a6,kwonlyargs:=[],kw_defaults:=[],kwarg:=a6,defaults:=[] } [] { kind:=.function,names:=[],isGenerator:=a4,isCoroutine:=a4 } .none .none .none .none a6 .none .none,[],trivial⟩
 |n+1,x,ds=>by
  have ih:=Nz hT t n;cases hF:T x with
  |none =>
   obtain⟨f,fd,ps,_⟩:=ih x ds;refine⟨f,fd,ps,?_⟩;have e:evP fu G T (n+1) x ds=.no:=by simp only[evP,hF]
   rw[e];trivial
  |some F =>
   have gok:∀{X:Cx},X.prog=P->X.w=w->X.K=K->X.mg=mg->X.base=base->Room (lv n+1) X.A->Gok X (evP fu G T n):=λ{X} h1 h2 h3 h4 h5 hr g ds'=>by
    subst h1 h2 h3 h4 h5;obtain⟨f',fd',ps',q⟩:=ih g ds';cases z:evP fu G T n g ds' with
    |val d=>rw[z]at q;exact⟨lv n,f',fd',ps',q.1,hr,q.2.1,q.2.2.1,q.2.2.2⟩
    |fresh l=>rw[z]at q;exact⟨lv n,f',fd',ps',q.1,hr,q.2.1,q.2.2.1,q.2.2.2⟩
    |err y=>rw[z]at q;exact⟨lv n,f',fd',ps',q.1,hr.mono (Py _),q.2.1,q.2.2.1,q.2.2.2⟩
    |lval d=>rw[z]at q;exact λy hy=>⟨lv n,hr.mono (Py _),q y hy⟩
    |no=>trivial
   cases hlam:F.lam with
   |true =>
    obtain⟨f,fd,ps,_⟩:=ih x ds;refine⟨f,fd,ps,?_⟩;by_cases hl:ds.length=F.n
    .have e:evP fu G T (n+1) x ds=j3o (fin (run fu (evP fu G T n) G F.body (enter F ds))):=by simp only[evP,hF,if_pos hl,hlam,if_true]
     rw[e];obtain⟨y,ey,L⟩:=(hT x F hF).2 hlam;obtain⟨tx,N,ps,ex,htx,hsc,hN,hnn,hbd,hba,htr⟩:=L.ex;cases ho:fin (run fu (evP fu G T n) G F.body (enter F ds)) with
     |val d =>intro y' hy';have eyy:y=y':=j8f (ey.symm.trans hy');subst eyy;refine jg7 (k:=lv n+1) htx hsc (λds' d' h=>by rw[h.1,hl,hN]) hba λa c cl A outer s H hcl hr ds' d' ⟨e1,e2⟩=>?_;subst e1 e2;have ab:j8 (z9 N ds')=enter F ds':=Wy hl (by rw[hN,hnn]);rw[hbd,<-ab]at ho;obtain⟨r,er,ed⟩:=jex ho;exact ed▸(sound (htr a c cl A outer s H) (Yu t rfl rfl rfl rfl rfl (U8 _) hr hsc.nd bP λz hz hq=>absurd (O9 hq▸hz) (j3p y)) (gok rfl rfl rfl rfl rfl hr) (z9 N ds') r er).toT
     |fresh l=>trivial
     |err z=>trivial
     |lval z=>trivial
     |no=>trivial
    .have e:evP fu G T (n+1) x ds=.no:=by simp only[evP,hF,if_neg hl]
     rw[e];trivial
   |false =>
   obtain⟨st,f,fd,N,ps,hfun,hsc,hps,hN,hb,hdf,hm,hts⟩:=((hT x F hF).1 hlam).1.ex;refine⟨f,fd,ps,?_⟩;by_cases hl:ds.length=F.n
   .have e:evP fu G T (n+1) x ds=fin (run fu (evP fu G T n) G F.body (enter F ds)):=by simp only[evP,hF,if_pos hl,hlam,Xz,if_false]
    have ab:j8 (z9 N ds)=enter F ds:=Wy hl hN;cases ho:run fu (evP fu G T n) G F.body (enter F ds) with
    |next ρ' =>rw[e,ho];refine⟨Cj (k:=lv n+1) hfun hsc (λds' d' h=>by rw[h.1,hl,hps]) λcdv A outer s H E hcv hr ds' d' ⟨e1,e2⟩=>?_,hm,hfun.kp,hb,hdf⟩;subst e1 e2;refine Ux (fu:=fu) (hts cdv A outer s H E _) (Yu t rfl rfl rfl rfl rfl (U8 _) hr hsc.nd bP (Mx t hm hcv rfl rfl)) (gok rfl rfl rfl rfl rfl hr) (z9 N ds') _ ?_;rw[ab,ho];exact λ_ _=>rfl
    |ret r =>
     rw[e,ho];cases r with
     |no=>trivial
     |lval d=>exact λy hy=>absurd (hy▸K3 y) ((hT x F hF).1 hlam).2
     |err y =>refine⟨j66 (k:=lv n+1) hfun hsc (λds' d' h=>by rw[h.1,hl,hps]) λcdv A outer s H E hcv hr ds' y' ⟨e1,e2⟩=>?_,hm,hfun.kp,hb⟩;subst e1 e2;refine Ux (X:=vy (CX1 P w) P w K mg base N x (jb st) f cdv A outer s H E) (fu:=fu) (hts cdv A outer s H E (vy (CX1 P w) P w K mg base N x (jb st) f cdv A outer s H E).xe) (Yu t rfl rfl rfl rfl rfl (U8 _) hr hsc.nd gH (Mx t hm hcv rfl rfl)) (gok rfl rfl rfl rfl rfl hr) (z9 N ds') _ ?_;rw[ab,ho];intro z hz;cases z<;>cases hz
     |val d =>
      refine⟨Cj (k:=lv n+1) hfun hsc (λds' d' h=>by rw[h.1,hl,hps]) λcdv A outer s H E hcv hr ds' d' ⟨e1,e2⟩=>?_,hm,hfun.kp,hb,hdf⟩;subst e1 e2;refine Ux (fu:=fu) (hts cdv A outer s H E _) (Yu t rfl rfl rfl rfl rfl (U8 _) hr hsc.nd bP (Mx t hm hcv rfl rfl)) (gok rfl rfl rfl rfl rfl hr) (z9 N ds') _ ?_;rw[ab,ho];intro y hy;cases y with
      |val d=>cases hy;rfl
      |fresh l=>cases hy
     |fresh l =>
      refine⟨j92 (k:=lv n+1) hfun hsc (λds' d' h=>by rw[h.1,hl,hps]) λcdv A outer s H E hcv hr ds' d' ⟨e1,e2⟩=>?_,hm,hfun.kp,hb,hdf⟩;subst e1 e2;refine Ux (fu:=fu) (hts cdv A outer s H E _) (Yu t rfl rfl rfl rfl rfl (U8 _) hr hsc.nd bP (Mx t hm hcv rfl rfl)) (gok rfl rfl rfl rfl rfl hr) (z9 N ds') _ ?_;rw[ab,ho];intro y hy;cases y with
      |val d=>cases hy
      |fresh l=>cases hy;rfl
    |err y ρ' =>rw[e,ho];refine⟨j66 (k:=lv n+1) hfun hsc (λds' d' h=>by rw[h.1,hl,hps]) λcdv A outer s H E hcv hr ds' y' ⟨e1,e2⟩=>?_,hm,hfun.kp,hb⟩;subst e1 e2;refine Ux (X:=vy (CX1 P w) P w K mg base N x (jb st) f cdv A outer s H E) (fu:=fu) (hts cdv A outer s H E (vy (CX1 P w) P w K mg base N x (jb st) f cdv A outer s H E).xe) (Yu t rfl rfl rfl rfl rfl (U8 _) hr hsc.nd gH (Mx t hm hcv rfl rfl)) (gok rfl rfl rfl rfl rfl hr) (z9 N ds') _ ?_;rw[ab,ho];exact λ_ _=>rfl
    |brk _=>rw[e,ho];trivial
    |cnt _=>rw[e,ho];trivial
    |no=>rw[e,ho];trivial
   .have e:evP fu G T (n+1) x ds=.no:=by simp only[evP,hF,if_neg hl]
    rw[e];trivial
end
noncomputable def Gof(gs:List (ah×D))(q:Bool)(xs:List (ah×List D))(fs:List ah)(x:ah):Option D :=
 if Vx x=a5 then(if x = "?" then(if q=a5 then a3 (.bl a5)else a6) else((xs.find? λp=>bang p.1==x).map λp=>.lst p.2).or (if (fs.any λf=>qm f==x)=a5 then a3 .non else a6))else gs.lookup x
theorem ja5{x y:ah}(h:bang x=bang y):x=y:=by unfold bang at h;have h:(⟨("!":ah).cps++x.cps⟩:ah)=⟨("!":ah).cps++y.cps⟩:=h;have h:=congrArg kF h;have e:x.cps=y.cps:=gG h rfl;cases x;cases y;cases e;rfl
theorem j1q(x:ah):Vx (bang x)=a5:=by unfold Vx;rw[Ma];rfl
theorem j76(x:ah):Vx (qm x)=a5:=by unfold Vx;rw[j1z];rfl
theorem j0l{gs:List (ah×D)}{q:Bool}{xs:List (ah×List D)}{fs:List ah}{x:ah}{d:D}(h:Gof gs q xs fs (bang x)=a3 d):∃p∈xs,p.1=x/\d=.lst p.2:=by
 unfold Gof at h;rw[if_pos (j1q x),if_neg (jdx x)]at h;have hn:(fs.any λf=>qm f==bang x)=a4:=by rw[List.any_eq_false];intro f _ e;exact j2x x f (beq_iff_eq.mp e).symm
 rw[hn,if_neg (by decide),Option.or_none]at h;obtain⟨p,hp,rfl⟩:=Xq.mp h;have z:=List.find?_some (p:=λp:ah×List D=>bang p.1==bang x) hp;exact⟨p,List.mem_of_find?_eq_some hp,ja5 (beq_iff_eq.mp z),rfl⟩
theorem j64{gs:List (ah×D)}{q:Bool}{xs:List (ah×List D)}{fs:List ah}{x:ah}{d:D}(h:Gof gs q xs fs (qm x)=a3 d):x∈fs:=by
 unfold Gof at h;rw[if_pos (j76 x),if_neg (jj2 x)]at h;have hn:(xs.find? λp=>bang p.1==qm x)=a6:=by rw[List.find?_eq_none];intro p _ e;exact j2x p.1 x (beq_iff_eq.mp e)
 rw[hn,Option.map_none,Option.none_or]at h;split at h
 .rename_i z;obtain⟨f,hf,e⟩:=List.any_eq_true.mp z;exact jf4 (beq_iff_eq.mp e)▸hf
 .cases h
theorem jik{P:au}{w:az}{K:k8d}{mg:k8g}{base:aD}{gs:List (ah×D)}{q:Bool}{xs:List (ah×List D)}{fs:List ah}(bt:∀x∈Vy,mg x=a6)
  (gl:∀x d,gs.lookup x=a3 d->∃u v,mg x=a3 u/\RelV v u/\∀H,Enc K H d v) (ea:Ip K=a5) (hx:∀p∈xs,p.1∈Jv/\∃o,W.nsIn K aq p.1=a3 (a3 o))
  (el:q=a5->∀c∈Jv,∃v,W.nsIn K aq c=a3 (a3 v)) (kin:K.In base) (ns:base.Ns aq mg) (fn:∀f∈fs,∃fa,mg f=a3 (.ref fa)/\W.keepIn K (.ref fa)=a5) (kd:∀p∈xs,KindsP P w K mg base "_law_kinds" p.1 p.2) (lm:∀x∈Zz,∀f cdv,mg x=a3 (.ref f)->Mi K f cdv->∃c Pt,cdv=.ref c/\W.codeHdIn K c Pt=a5/\W.tabIn K x=a3 (c,Pt)) (pl:("_law_plan":ah)∈fs->j79 P w K mg base:=by exact λh=>absurd h (by decide)):Tb P w K mg base (Gof gs q xs fs):=by
 refine⟨bt,λx d hb h=>?_,ea,λx d h=>?_,λh=>el ?_,kin,ns,λx l h=>?_,λf d h=>fn f (j64 h),λd h=>pl (j64 h),lm⟩
 .unfold Gof at h;rw[if_neg (by rw[hb];decide)]at h;exact gl x d h
 .obtain⟨p,hp,rfl,_⟩:=j0l h;exact hx p hp
 .unfold Gof at h;rw[if_pos (by decide),if_pos rfl]at h;split at h
  .rename_i z;exact z
  .cases h
 .obtain⟨p,hp,rfl,e⟩:=j0l h;cases e;exact kd p hp
def Ie(K:k8d):Sp:=λvs H Q _=>∃(a:aa)(ns:List Int),vs=[.ref a]/\TabOk K H/\SqL K H a (ns.map V.int)/\ns.length<=63/\∀H':Hp,j0 H H'->Q (.bl a5) H'
theorem j1j{K:k8d}{H:Hp}{a:aa}{ns:List Int}(h:SqL K H a (ns.map V.int)):j4 K H [.lst (ns.map D.int)] [.ref a] :=
 ⟨_,[],rfl,⟨a,_,rfl,h,j4.ints ns⟩,rfl⟩
theorem jg6{P:au}{w:az}{K:k8d}{mg:k8g}{base:aD}{fu:Nat}{G:ah->Option D}{T:ah->Option Fi}{n:Nat}{x p:ah}{fa:aa}{st:aQ}{F:Fi}
  (hT:∀x F,T x=a3 F->LkF P w K mg base x F) (t:Tb P w K mg base G)
  (hx:T x=a3 F) (hlam:F.lam=a4) (hm:mg x=a3 (.ref fa)) {fd:aL} (hfun:Fun K x x st fa fd) (N:List ah) (hsc:FnScope N [p] (jb st)) (h1:F.n=1) (hN:N.length=F.nn)
  (hts:∀(cdv:a9)(A:aC)(outer:List dB)(s:af)(H:Hp)(E:XK)(xe:k8e),Ts ((vy CX0 P w K mg base N x (jb st) fa cdv A outer s H E).wish xe) F.body (.ss (jt st)))
  (hlaw:∀ns:List Int,ns.length<=63->evP fu G T (n+1) x [.lst (ns.map D.int)]=.val (.bl a5)):FnOk P w K mg base CX0 (lv (n+1)) fa fd [p] (Ie K):=by
 have S:FnOk P w K mg base CX0 (lv (n+1)) fa fd [p] (spP K λds d=>∃ns:List Int,ns.length<=63/\ds=[.lst (ns.map D.int)]/\d=.bl a5):=by
  refine Cj (k:=lv n+1) hfun hsc (λds d ⟨ns,_,h,_⟩=>by rw[h];rfl) λcdv A outer s H E hcv hr ds d ⟨ns,hns,e1,e2⟩=>?_;subst e1 e2;have e:=hlaw ns hns;simp only[evP,hx,h1,hlam,Xz,if_false,X8,T7,if_true]at e;have ab:j8 (z9 N [D.lst (ns.map D.int)])=enter F [D.lst (ns.map D.int)]:=Wy (by rw[h1];rfl) hN;have g:Gok (vy CX0 P w K mg base N x (jb st) fa cdv A outer s H E).nox (evP fu G T n):=λg ds'=>by
   obtain⟨f',fd',ps',q⟩:=Nz (fu:=fu) hT t n g ds';cases z:evP fu G T n g ds' with
   |val d=>rw[z]at q;exact⟨lv n,f',fd',ps',q.1,hr,q.2.1,q.2.2.1,q.2.2.2⟩
   |fresh l=>rw[z]at q;exact⟨lv n,f',fd',ps',q.1,hr,q.2.1,q.2.2.1,q.2.2.2⟩
   |err y=>rw[z]at q;exact⟨lv n,f',fd',ps',q.1,hr.mono (Py _),q.2.1,q.2.2.1,q.2.2.2⟩
   |lval d=>rw[z]at q;exact λy hy=>⟨lv n,hr.mono (Py _),q y hy⟩
   |no=>trivial
  refine Ux (fu:=fu) (hts cdv A outer s H E _) (Yu t rfl rfl rfl rfl rfl (U8 _) hr hsc.nd bP (Mx t hm hcv rfl rfl)) g (z9 N _) _ ?_;rw[ab];cases ho:run fu (evP fu G T n) G F.body (enter F [D.lst (ns.map D.int)]) with
  |ret r =>
   rw[ho]at e;have e:r=.val (.bl a5):=e;subst e;intro y hy;cases y with
   |val d=>cases hy;rfl
   |fresh l=>cases hy
  |next ρ'=>rw[ho]at e;cases e
  |brk _=>rw[ho]at e;cases e
  |cnt _=>rw[ho]at e;cases e
  |err _ _=>rw[ho]at e;cases e
  |no=>rw[ho]at e;cases e
 refine S.imp λvs H Q E ⟨a,ns,hv,tb,hS,hl,k⟩=>?_;subst hv;exact⟨[],_,_,tb,(λa h=>nomatch h),by rw[Jw];exact j1j hS,⟨ns,hl,rfl,rfl⟩,λv H' g e=>by cases(show v=.bl a5 from e);exact k H' g⟩
noncomputable def Ib(K:k8d):List (aa×ah):=Zz.filterMap λx=>(W.tabIn K x).map λq=>(q.2,jx x)
noncomputable def tOk(K:k8d)(ts:List aa):Bool:=(Zz.all λx=>match W.nsIn K aq x with
  |some a6=>a5
  |_=>match W.tabIn K x with
   |some (c,P)=>W.codeHdIn K c P&&ts.contains P
   |none=>a4)&&W.noTabs K&&decide ((Ib K).map (·.1)).Nodup
theorem jbd{K:k8d}{ts:List aa}{h:aD}(hk:tOk K ts=a5)(X:K.In h)(ht:∀P∈ts,h.get? P=a3 (W.tabObj #[])):jaa (Ib K) h:=by
 unfold tOk at hk;rw[Xg,Xg]at hk;refine⟨of_decide_eq_true hk.2,λt hm=>?_⟩;obtain⟨x,hx,e⟩:=Te.mp hm;obtain⟨⟨c,P⟩,e1,e2⟩:=Xq.mp e;subst e2;have z:=Pa.mp hk.1.1 x hx;split at z
 .rename_i y;exfalso;unfold W.tabIn at e1;rw[y]at e1;cases e1
 .rw[e1]at z;have z:(W.codeHdIn K c P&&ts.contains P)=a5:=z;rw[Xg]at z;exact⟨⟨c,W.codeHd_of_K X z.1⟩,ht P (by simpa using z.2)⟩
theorem jjb{K:k8d}{ts:List aa}{h:aD}{mg:k8g}(hk:tOk K ts=a5)(X:K.In h)(Gn:h.Ns aq mg):∀x∈Zz,∀f cdv,mg x=a3 (.ref f)->Mi K f cdv->∃c Pt,cdv=.ref c/\W.codeHdIn K c Pt=a5/\W.tabIn K x=a3 (c,Pt):=λx hx f cdv hm hcv=>by
 unfold tOk at hk;rw[Xg,Xg]at hk;have z:=Pa.mp hk.1.1 x hx;split at z
 .rename_i y;rw[W.mg_none_of X Gn y]at hm;cases hm
 .split at z
  .rename_i c P e;rw[Xg]at z;refine⟨c,P,?_,z.1,e⟩;obtain⟨oc,od,fd,sl,e3,e4⟩:=hcv;unfold W.tabIn at e;split at e
   .rename_i f' hf;have e5:=W.mg_of X Gn hf;rw[hm]at e5;cases e5;rw[e3]at e;dsimp only at e;split at e
    .rename_i c' hc;split at e
     .split at e
      .cases e;rw[<-e4];exact hc
      .cases e
     .cases e
    .cases e
   .cases e
  .cases z
theorem jef{K:k8d}{H:Hp}(hO:Only (Ib K) H):TabOk K H:=λx hx c P e=>hO.2 (P,jx x) (Te.mpr ⟨x,hx,by rw[e];rfl⟩)
theorem j5l{K:k8d}{ts:List aa}(hk:tOk K ts=a5):W.noTabs K=a5:=by unfold tOk at hk;rw[Xg,Xg]at hk;exact hk.1.2
theorem walkL{l:df}{q:au}{loose:List ah}{XP:(ah->Option a9)->aD->Prop}{YP:az->aD->Prop}{d:DefRec}{K:lV->k8d}{k:Nat}{x:ah}{ts:List aa}(hk:k<=100)(hn:l.most=a3 63)(hdf:d.params.defaults=[])
  (hY:∀(w:az)(h:aD),YP w h->(K w.params).In h/\∀P∈ts,h.get? P=a3 (W.tabObj #[])) (hK:∀w:az,tOk (K w.params) ts=a5)
  (F:∀(w:az)(mg:k8g)(fa:aa)(h:aD),(K w.params).In h->h.Ns aq mg->mg d.name=a3 (.ref fa)->tOk (K w.params) ts=a5 ->
   ∃fd:aL,(∀(s:af)(u:a9),d9 s fd ⟨[u],[]⟩ [(x,u)])/\∀base:aD,(K w.params).In base->base.Ns aq mg->FnOk l.prog w (K w.params) mg base CX0 k fa fd [x] (Ie (K w.params))) :
  ir q loose XP YP l.row.toRowW d [] (λf vs=>iA f vs) :=
 L2.walk_of (n:=63) (k:=k) (x:=x) (CX:=λ_=>CX0) (sp:=λw=>Ie (K w.params)) (ts:=λw=>Ib (K w.params)) hn (by decide) hdf
  (Room.mono (k:=100) ⟨rfl,by decide,by decide⟩ hk) (λw h Y=>⟨(hY w h Y).1,jbd (hK w) (hY w h Y).1 (hY w h Y).2⟩) (λw=>j5l (hK w)) (λw mg fa h X G m=>F w mg fa h X G m (hK w)) (λw H a ns hl hO hS=>⟨a,ns,rfl,jef hO,hS,hl,λH' g=>⟨rfl,g⟩⟩) λ_ _ _ _ _ z=>z
def Lf(K:k8d)(x:ah)(st:aQ):Prop:=∃(f:aa)(oc:a9)(od:Option aa)(kV dc pm:a9)(an:Option aa)(cd ct:a9)(sl:Array (Option a9)),W.nsIn K aq x=a3 (a3 (.ref f)) /\
 K.lookup f=a3 ⟨oc,od,.func (W.fnOf x x (v9 st) (jt st) (jb st) .none kV dc pm an cd ct),sl⟩/\W.codeIn K cd x=a5/\W.keepIn K (.ref f)=a5
def Lfd(K:k8d)(x:ah)(st:aQ):Prop:=∃(f:aa)(oc:a9)(od:Option aa)(kV dc pm:a9)(an:Option aa)(cd ct:a9)(sl:Array (Option a9)) (dt:aa) (n:Nat) (ts:Array (Option a9)),W.nsIn K aq x=a3 (a3 (.ref f)) /\
 K.lookup f=a3 ⟨oc,od,.func (W.fnOf x x (v9 st) (jt st) (jb st) (.ref dt) kV dc pm an cd ct),sl⟩/\W.codeIn K cd x=a5/\W.keepIn K (.ref f)=a5/\K.lookup dt=a3 ⟨.type "tuple",a6,.seq #[.none] n,ts⟩
def TrT(P:au)(w:az)(K:k8d)(mg:k8g)(base:aD)(x:ah)(N:List ah)(st:aQ)(b:Sx):Prop :=
 ∀(f:aa)(cdv:a9)(A:aC)(outer:List dB)(s:af)(H:Hp)(E:XK) (xe:k8e),Ts ((vy CX0 P w K mg base N x (jb st) f cdv A outer s H E).wish xe) b (.ss (jt st))
noncomputable def lamT(st:aQ):Tx:=(Bl (jt st)).getD ({ posonlyargs:=[],args:=[],vararg:=a6,kwonlyargs:=[],kw_defaults:=[],kwarg:=a6,defaults:=[] },.Name "" ⟨0,0,0,0⟩,{ kind:=.function,names:=[],isGenerator:=a4,isCoroutine:=a4 })
def TrL(P:au)(w:az)(K:k8d)(mg:k8g)(base:aD)(x:ah)(N:List ah)(t:Tx)(e:Ex):Prop :=
 ∀(a c:aa)(cl:List (ah×aa)) (A:aC) (outer:List dB) (s:af) (H:Hp),Tr (Uc P w K mg base N (jx x) t.2.2 a (.ref c) cl A outer s H) e (.e t.2.1)
theorem jcr{sc:b7}(x:ah)(h:sc.names.lookup x=a3 .free):x∈v5 sc:=by unfold v5;rw[List.mem_reverse];exact Xh.mpr ⟨(x,.free),Xu.mpr ⟨lookup_mem h,rfl⟩,rfl⟩
noncomputable def bOk(K:k8d):Bool:=Vy.all λx=>match W.nsIn K aq x with
 |some a6=>a5
 |_=>a4
section
variable{P:au}{w:az}{K:k8d}{mg:k8g}{base h:aD}{x:ah}{st:aQ}{N ps:List ah}{F:Fi}
theorem jk0(X:K.In h)(Gn:h.Ns aq mg)(hb:bOk K=a5):∀x∈Vy,mg x=a6:=λx hx=>by
 have z:=Pa.mp hb x hx;split at z
 .rename_i e;exact W.mg_none_of X Gn e
 .cases z
theorem jy(L:Lf K x st)(X:K.In h)(Gn:h.Ns aq mg)(t:TrT P w K mg base x N st F.body)(ps:List ah)(sc:FnScope N ps (jb st))(h1:ps.length=F.n)(h2:N.length=F.nn)
  (hb:∀(kV doc pm:a9)(an:Option aa)(cdv ct:a9)(us:List a9),us.length=ps.length->eW (W.fnOf x x (v9 st) (jt st) (jb st) .none kV doc pm an cdv ct) ⟨us,[]⟩=pure (ps.zip us)) (hd:x∉Cq):Lk P w K mg base x F:=by
 obtain⟨f,oc,od,kV,dc,pm,an,cd,ct,sl,a,l,c,k⟩:=L;exact⟨st,f,_,N,ps,Ft l c k,sc,h1,h2,(Ft l c k).binds hb,λz=>absurd z hd,W.mg_of X Gn a,t f⟩
theorem jg5(L:Lfd K x st)(X:K.In h)(Gn:h.Ns aq mg)(t:TrT P w K mg base x N st F.body)(ps:List ah)(sc:FnScope N ps (jb st))(h1:ps.length=F.n)(h2:N.length=F.nn)(h3:0<ps.length)
  (hb:∀(dt:aa)(n:Nat)(ts:Array (Option a9)) (kV doc pm:a9) (an:Option aa) (cdv ct:a9) (s:af),K.In s.heap->K.lookup dt=a3 ⟨.type "tuple",a6,.seq #[.none] n,ts⟩ ->
   (∀us:List a9,us.length=ps.length->d9 s (W.fnOf x x (v9 st) (jt st) (jb st) (.ref dt) kV doc pm an cdv ct) ⟨us,[]⟩ (ps.zip us)) /\
   (∀us:List a9,us.length+1=ps.length->d9 s (W.fnOf x x (v9 st) (jt st) (jb st) (.ref dt) kV doc pm an cdv ct) ⟨us,[]⟩ (ps.zip (us++[.none]))) /\
   ∀(us:List a9)(v:a9),us.length+1=ps.length->d9 s (W.fnOf x x (v9 st) (jt st) (jb st) (.ref dt) kV doc pm an cdv ct) ⟨us,[("prices",v)]⟩ (ps.zip (us++[v]))):Lk P w K mg base x F:=by
 obtain⟨f,oc,od,kV,dc,pm,an,cd,ct,sl,dt,n,ts,a,l,c,k,td⟩:=L;refine⟨st,f,_,N,ps,Ft l c k,sc,h1,h2,λs us hK hl=>?_,λ_=>⟨λs us hK hl=>?_,jjg h3 λs us v hK hl=>(hb dt n ts kV dc pm an cd ct s hK td).2.2 us v hl⟩,W.mg_of X Gn a,t f⟩
 .rw[Xv]at hl ⊢;exact(hb dt n ts kV dc pm an cd ct s hK td).1 us hl
 .exact(hb dt n ts kV dc pm an cd ct s hK td).2.1 us (by rw[Xb]at hl;exact hl)
theorem Wd(L:Lf K x st):Qz K x=Bl (jt st):=by obtain⟨f,oc,od,kV,dc,pm,an,cd,ct,sl,a,l,c,k⟩:=L;unfold Qz;rw[a];dsimp only;rw[l]
theorem lkF(L:Lk P w K mg base x F)(h:F.lam=a4)(hn:x.cps.toList.getLast?≠a3 62):LkF P w K mg base x F:=⟨λ_=>⟨L,hn⟩,λz=>by rw[h]at z;cases z⟩
theorem j5r{e:Ex}{q:ah}(hq:q=jx x)(h:Qz K x=Bl (jt st))(ht:Bl (jt st)=a3 (lamT st))(tr:TrL P w K mg base x N (lamT st) e)(ps:List ah)(sc:LamScope N ps (lamT st).2.2)(h1:N.length=F.n)(h2:F.nn=F.n)(hb:F.body=.ret e)(hl:F.lam=a5)
  (ha:∀(cl:List (ah×aa)) (pm:a9) (c:aa) (ctv:a9) (us:List a9),us.length=ps.length->eW (W.kla_fn "<lambda>" (jx x) (lamT st).1 (lamT st).2.1 (lamT st).2.2 cl pm (.ref c) ctv) ⟨us,[]⟩=pure (ps.zip us)):LkF P w K mg base q F :=
 ⟨λz=>by(rw[hl]at z;cases z),λ_=>⟨x,hq,⟨lamT st,N,ps,e,h.trans ht,sc,h1,h2,hb,ha,tr⟩⟩⟩
theorem us1{us:List a9}(h:us.length=1):∃a,us=[a]:=by match us,h with|[a],_=>exact⟨a,rfl⟩
theorem us2{us:List a9}(h:us.length=2):∃a b,us=[a,b]:=by match us,h with|[a,b],_=>exact⟨a,b,rfl⟩
theorem us3{us:List a9}(h:us.length=3):∃a b c,us=[a,b,c]:=by match us,h with|[a,b,c],_=>exact⟨a,b,c,rfl⟩
end
theorem lf_mk{K:k8d}{x:ah}{st:aQ}{f:aa}{oc:a9}{od:Option aa}{kV dc pm:a9}{an:Option aa}{cd ct:a9}{sl:Array (Option a9)}(a:W.nsIn K aq x=a3 (a3 (.ref f)))
  (l:K.lookup f=a3 ⟨oc,od,.func (W.fnOf x x (v9 st) (jt st) (jb st) .none kV dc pm an cd ct),sl⟩) (c:W.codeIn K cd x=a5) (k:W.keepIn K (.ref f)=a5):Lf K x st:=⟨f,oc,od,kV,dc,pm,an,cd,ct,sl,a,l,c,k⟩
theorem lfd_mk{K:k8d}{x:ah}{st:aQ}{f:aa}{oc:a9}{od:Option aa}{kV dc pm:a9}{an:Option aa}{cd ct:a9}{sl:Array (Option a9)}{dt:aa}{n:Nat}{ts:Array (Option a9)}(a:W.nsIn K aq x=a3 (a3 (.ref f)))
  (l:K.lookup f=a3 ⟨oc,od,.func (W.fnOf x x (v9 st) (jt st) (jb st) (.ref dt) kV dc pm an cd ct),sl⟩) (c:W.codeIn K cd x=a5) (k:W.keepIn K (.ref f)=a5) (t:K.lookup dt=a3 ⟨.type "tuple",a6,.seq #[.none] n,ts⟩):Lfd K x st:=⟨f,oc,od,kV,dc,pm,an,cd,ct,sl,dt,n,ts,a,l,c,k,t⟩
end L2
end
section
namespace L2
open PySem (Str sizeLine argBest)
theorem J4{n:Nat}(h:n<=1000000):n<=ak:=Xk h (by decide)
theorem lt_size{n:Nat}(h:n<=1000000):n<ak:=c8 h (by decide)
noncomputable def Uk(o:So)(f:En->So):So:=match o with
 |.next ρ=>f ρ
 |o=>o
noncomputable def ifS(c:Option Bool)(f g:En->So)(ρ:En):So:=match c with
 |some a5=>f ρ
 |some a4=>g ρ
 |none=>.no
noncomputable def O7(is:List Nat)(f:En->So)(d:D)(ρ:En):So:=match qz is d ρ with
 |some ρ2=>f ρ2
 |none=>.no
noncomputable def jar(is:List Nat)(w:Option W)(f:En->So)(ρ:En):So:=match w with
 |some (.i ds)=>Jl (O7 is f) ds ρ
 |_=>.no
section
variable{fu:Nat}{Γ:ah->List D->Rc}{G:ah->Option D}{ρ:En}{i j:Nat}{e c k:Ex}{a b:Sx}{is:List Nat}
theorem jbm:run fu Γ G .nop ρ=.next ρ:=(rfl)
theorem Ds:run fu Γ G (.seq a b) ρ=Uk (run fu Γ G a ρ) (run fu Γ G b):=(rfl)
theorem jbj:run fu Γ G (.set i e) ρ=orE (Rh i (ev Γ G e ρ) ρ) (er Γ G e ρ) ρ:=(rfl)
theorem jbn:run fu Γ G (.mov i j) ρ=Dy i j ρ[j]? ρ:=(rfl)
theorem j7u:run fu Γ G (.expr e) ρ=orE (j0n (ev Γ G e ρ) ρ) (er Γ G e ρ) ρ:=(rfl)
theorem jbk:run fu Γ G (.ret e) ρ=orE (retS (ev Γ G e ρ)) (er Γ G e ρ) ρ:=(rfl)
theorem Bh{ρ':En}{x:Option ah}:orE (.next ρ') x ρ=.next ρ':=(rfl)
theorem j26{r:Rc}{x:Option ah}:orE (.ret r) x ρ=.ret r:=(rfl)
theorem j7p:run fu Γ G (.retV i) ρ=Mm ρ[i]?:=(rfl)
theorem jbo:run fu Γ G (.ife c a b) ρ=ifS (truth (ev Γ G c ρ)) (run fu Γ G a) (run fu Γ G b) ρ:=(rfl)
theorem j7s:run fu Γ G (.loop is e a) ρ=jar is (ev Γ G e (frz e ρ)) (run fu Γ G a) (frz e ρ):=(rfl)
theorem jbs:run fu Γ G (.app i e) ρ=Cz i ρ[i]? (ev Γ G e ρ) ρ:=(rfl)
theorem jbr:run fu Γ G (.ext i e) ρ=Cm i ρ[i]? (ev Γ G e ρ) ρ:=(rfl)
theorem jbl:run fu Γ G (.put i k e) ρ=Dt i ρ[i]? (ev Γ G k ρ) (ev Γ G e ρ) ρ:=(rfl)
theorem jem{d:D}:stOf (a3 (.v (.e d)))=a3 d:=(rfl)
theorem K4{d:D}:O1 i (a3 (.val d)) ρ=.next ρ:=(rfl)
theorem j7t{h:Nat}{ea eb:Ex}{mid b:Sx}:run fu Γ G (.lent h ea eb mid b) ρ=Mz h (Qw mid) ρ (stOf (ev Γ G ea ρ)) (ev Γ G eb ρ) (vm Γ G mid) (run fu Γ G b):=(rfl)
theorem jcq{h:Nat}{is:List Nat}{d0:D}{lb:List D}{m:En->Option En}{k:En->So}{r:En}(hm:m (ρ.set h (.val (.lst [d0,.lst lb])))=a3 r)(hc:h<ρ.length/\h∉is/\r.length=ρ.length/\r.all plainS=a5):Mz h is ρ (a3 d0) (a3 (.v (.o lb))) m k=k (Vq h is ρ r):=by unfold Mz;dsimp only;rw[hm];dsimp only;rw[if_pos hc]
theorem j7v:vm Γ G .nop ρ=a3 ρ:=(rfl)
theorem Yk{i:Nat}{e:Ex}{b:Sx}{d:D}(h:stOf (ev Γ G e ρ)=a3 d):vm Γ G (.seq (.set i e) b) ρ=vm Γ G b (ρ.set i (.val d)):=by simp only[vm,h]
theorem W8{c:Ex}{a b r:Sx}{k:Bool}{ρ1:En}(h:truth (ev Γ G c ρ)=a3 k)(h1:vm Γ G (if k=a5 then a else b) ρ=a3 ρ1):vm Γ G (.seq (.ife c a b) r) ρ=vm Γ G r ρ1:=by
 cases k with
 |true=>rw[if_pos rfl]at h1;simp only[vm,h,h1]
 |false=>rw[if_neg xf]at h1;simp only[vm,h,h1]
theorem Bc:run fu Γ G (.keep i) ρ=O1 i ρ[i]? ρ:=(rfl)
theorem K5{l:List D}:O1 i (a3 (.own l)) ρ=.next (ρ.set i (.val (.lst l))):=(rfl)
theorem j7q{x:ah}:run fu Γ G (.retL x is) ρ=Nv x (Qe ρ is):=(rfl)
theorem jbv{x:ah}{ds:List D}:Nv x (a3 ds)=.ret (.val (.fn x ds)):=(rfl)
noncomputable def jhg(s:Option Sv)(v:Option (List D)):Option (List D):=match s,v with
 |some (.val d),a3 ds=>a3 (d::ds)
 |_,_=>a6
theorem j33:Qe ρ []=a3 []:=(rfl)
theorem j18:Qe ρ (i::is)=jhg ρ[i]? (Qe ρ is):=(rfl)
theorem jhf{d:D}{ds:List D}:jhg (a3 (.val d)) (a3 ds)=a3 (d::ds):=(rfl)
theorem j7r{f x:ah}{a b:Ex}:run fu Γ G (.retC f x a b is) ρ=Nx Γ f x (Qe ρ is) (ev Γ G a ρ) (ev Γ G b ρ):=(rfl)
theorem jbw{f x:ah}{ds:List D}{d d':D}:Nx Γ f x (a3 ds) (a3 (.v (.e d))) (a3 (.v (.e d')))=Ih (Γ f [d,d',.fn x ds]):=(rfl)
theorem jbx{d:D}(h:noFn d=a5):Ih (.val d)=.ret (.val d):=if_pos h
theorem j4y{x t y:Nat}{it e1 e2:Ex}{ds:List D}{r:List (List Int)×List Int}(hc:x<ρ.length/\t<ρ.length/\y<ρ.length/\x≠t/\x≠y/\t≠y)(hi:ev Γ G it (ρ.set x .un)=a3 (.i ds))(hd:Vp (λρ=>stOf (ev Γ G e1 ρ)) (λρ=>stOf (ev Γ G e2 ρ)) x t y ds (ρ.set x .un) [] []=a3 r) :
  run fu Γ G (.nmake x t y it e1 e2) ρ=.ret (.val (.dct r.1 (r.2.map D.int))):=by rw[j2z,if_pos hc,hi];dsimp only;rw[hd]
theorem j4x{x t:Nat}{it e2:Ex}{ds:List D}{r:List (List Int)×List Int}(hc:x<ρ.length/\t<ρ.length/\x≠t)(hi:ev Γ G it (ρ.set x .un)=a3 (.i ds))(hd:Vj (λρ=>stOf (ev Γ G e2 ρ)) x t ds (ρ.set x .un) [] []=a3 r) :
  run fu Γ G (.wmake x t it e2) ρ=.ret (.val (.dct r.1 (r.2.map D.int))):=by rw[j2y,if_pos hc,hi];dsimp only;rw[hd]
theorem jbq:run fu Γ G (.fgt i) ρ=.next (ρ.set i .un):=(rfl)
end
section
variable{f g:En->So}{ρ:En}{i j:Nat}{d:D}{l m:List D}{r:Rc}{x:Rk}
theorem Ri:Uk (.next ρ) f=f ρ:=(rfl)
theorem Et:Uk (.ret r) f=.ret r:=(rfl)
theorem jjm:ifS (a3 a5) f g ρ=f ρ:=(rfl)
theorem jjn:ifS (a3 a4) f g ρ=g ρ:=(rfl)
theorem j4r:Rh i (a3 (.v (.o l))) ρ=.next (ρ.set i (.own l)):=(rfl)
theorem j4s:Rh i (a3 (.v (.e d))) ρ=.next (ρ.set i (.val d)):=(rfl)
theorem jez:retS (a3 (.v (.o l)))=.ret (.fresh l):=(rfl)
theorem j4z:retS (a3 (.v (.e d)))=.ret (.val d):=(rfl)
theorem jey:retS (a3 (.v (.t d)))=.ret (.val d):=(rfl)
theorem jbu:Mm (a3 (.own l))=.ret (.fresh l):=(rfl)
theorem jbt:Mm (a3 (.val d))=.ret (.val d):=(rfl)
theorem jfw(h:i≠j):Dy i j (a3 (.own l)) ρ=.next ((ρ.set j .un).set i (.own l)):=if_neg h
theorem jfv:Dy i j (a3 (.val d)) ρ=.next (ρ.set i (.val d)):=(rfl)
theorem jgt:j0n (a3 (.v x)) ρ=.next ρ:=(rfl)
theorem J5:O7 [i] f d ρ=f (ρ.set i (.val d)):=(rfl)
theorem jdw{a b:D}:O7 [i,j] f (.tup [a,b]) ρ=f ((ρ.set i (.val a)).set j (.val b)):=(rfl)
theorem jco{is:List Nat}{ds:List D}:jar is (a3 (.i ds)) f ρ=Jl (O7 is f) ds ρ:=(rfl)
theorem jhu(h:l.length<=1000000):Cz i (a3 (.own l)) (a3 (.v (.e d))) ρ=.next (ρ.set i (.own (l++[d]))):=by simp[Cz,Rk.st,lt_size h]
theorem jgs(h:l.length+m.length<=1000000):Cm i (a3 (.own l)) (a3 (.v (.o m))) ρ=.next (ρ.set i (.own (l++m))):=by simp[Cm,jr,J4 h]
theorem j00{j:Int}{n:Nat}(h:ixN l.length j=a3 n):Dt i (a3 (.own l)) (a3 (.v (.e (.int j)))) (a3 (.v (.e d))) ρ=.next (ρ.set i (.own (l.set n d))):=by simp[Dt,Rk.st,Rk.d,h]
theorem j2k:fin (.ret r)=r:=(rfl)
theorem j95:fin (.next ρ)=.val .non:=(rfl)
theorem jk{fu:Nat}{G:ah->Option D}{T:ah->Option Fi}{n:Nat}{f:ah}{ds:List D}{F:Fi}(h:T f=a3 F)(hl:ds.length=F.n)(hla:F.lam=a4:=by rfl):evP fu G T (n+1) f ds=fin (run fu (evP fu G T n) G F.body (enter F ds)):=by simp only[evP,h,if_pos hl,hla,Xz,if_false]
theorem j2m{fu:Nat}{G:ah->Option D}{T:ah->Option Fi}{n:Nat}{f:ah}{ds:List D}{F:Fi}(h:T f=a3 F)(hl:ds.length=F.n)(hla:F.lam=a5:=by rfl):evP fu G T (n+1) f ds=j3o (fin (run fu (evP fu G T n) G F.body (enter F ds))):=by simp only[evP,h,if_pos hl,hla,if_true]
theorem jg8:j3o (.val d)=.lval d:=(rfl)
end
theorem Qp{f:D->En->So}(W:Nat->En->Prop):∀{ds:List D}{ρ:En}{k:Nat},W k ρ->(∀i d ρ,ds[i]?=a3 d->W (k+i) ρ->∃ρ',f d ρ=.next ρ'/\W (k+i+1) ρ')->∃ρ',Jl f ds ρ=.next ρ'/\W (k+ds.length) ρ'
 |[],ρ,k,h0,_=>⟨ρ,rfl,h0⟩
 |d::ds,ρ,k,h0,hs=>by
  obtain⟨ρ1,e1,w1⟩:=hs 0 d ρ rfl h0;obtain⟨ρ2,e2,w2⟩:=Qp (f:=f) W (ds:=ds) (k:=k+1) w1 λi d' ρ' hi w=>by have:=hs (i+1) d' ρ' (by simpa using hi) (by rw[show k+(i+1)=k+1+i by omega];exact w);rw[show k+(i+1)+1=k+1+i+1 by omega]at this;exact this
  refine⟨ρ2,?_,by rw[X8,show k+(ds.length+1)=k+1+ds.length by omega];exact w2⟩;rw[Jl,e1];exact e2
theorem Bk{f:D->En->So}(W:Nat->En){ds:List D}{ρ:En}(h0:ρ=W 0)(hs:∀i d,ds[i]?=a3 d->f d (W i)=.next (W (i+1))):Jl f ds ρ=.next (W ds.length):=by
 obtain⟨ρ',e,w⟩:=Qp (f:=f) (λi ρ=>ρ=W i) (k:=0) (ds:=ds) (ρ:=W 0) rfl λi d ρ hi w=>⟨W (0+i+1),by rw[w,Pg];exact hs i d hi,rfl⟩
 rw[h0,e,w,Pg]
theorem Yj{f:D->En->So}{ds:List D}{ρ:En}{g:En->So}{r:Rc}(W:Nat->En->Prop)(h0:W 0 ρ)(hs:∀i d ρ,ds[i]?=a3 d->W i ρ->∃ρ',f d ρ=.next ρ'/\W (i+1) ρ')(hk:∀ρ',W ds.length ρ'->fin (g ρ')=r) :
  fin (Uk (Jl f ds ρ) g)=r:=by
 obtain⟨ρ',e,w⟩:=Qp (f:=f) W (k:=0) (ds:=ds) (ρ:=ρ) h0 λi d ρ hi w=>by rw[Pg]at w ⊢;exact hs i d ρ hi w
 rw[e];rw[Pg]at w;exact hk ρ' w
theorem Ln{f:D->En->So}{ds:List D}{ρ:En}{g:En->So}{Q:En->Prop}(W:Nat->En->Prop)(h0:W 0 ρ)(hs:∀i d ρ,ds[i]?=a3 d->W i ρ->∃ρ',f d ρ=.next ρ'/\W (i+1) ρ')
  (hk:∀ρ',W ds.length ρ'->∃ρ2,g ρ'=.next ρ2/\Q ρ2):∃ρ2,Uk (Jl f ds ρ) g=.next ρ2/\Q ρ2:=by
 obtain⟨ρ',e,w⟩:=Qp (f:=f) W (k:=0) (ds:=ds) (ρ:=ρ) h0 λi d ρ hi w=>by rw[Pg]at w ⊢;exact hs i d ρ hi w
 rw[e];rw[Pg]at w;exact hk ρ' w
noncomputable def jau(d:Option D):Option W:=d.map λd=>.v (.e d)
noncomputable def j8u(i:Option Int):Option W:=i.map λk=>.v (.e (.int k))
noncomputable def jgm(a:Option W):Option W:=match a with
 |some (.v x)=>a3 (.v (.e (.bl x.d.isNon)))
 |_=>a6
noncomputable def ja7(k:Option Bool)(f:En->Option W)(ρ:En):Option W:=match k with
 |some a4=>a3 (.v (.e (.bl a4)))
 |some a5=>blW (truth (f ρ))
 |none=>a6
noncomputable def orW(k:Option Bool)(f:En->Option W)(ρ:En):Option W:=match k with
 |some a5=>a3 (.v (.e (.bl a5)))
 |some a4=>blW (truth (f ρ))
 |none=>a6
noncomputable def jfu(k:Option Bool):Option W:=k.map λk=>.v (.e (.bl (!k)))
noncomputable def stW(a:Option W):Option W:=match a with
 |some (.v x)=>x.st.map λd=>.v (.e d)
 |_=>a6
noncomputable def j8k(k:Option Bool)(f g:En->Option W)(ρ:En):Option W:=match k with
 |some a5=>stW (f ρ)
 |some a4=>stW (g ρ)
 |none=>a6
noncomputable def slW(a:Option W)(l h:Option (Option Int)):Option W:=match a,l,h with
 |some (.v x),a3 l,a3 h=>match x.sq with
  |some (a5,ds)=>a3 (.v (.o (cutD ds l h)))
  |some (a4,ds)=>if HT.sIx ds.length 0 l=0/\HT.sIx ds.length ds.length h=ds.length then a6 else a3 (.v (.e (.tup (cutD ds l h))))
  |none=>match x.d with
   |.str z=>if jr z.length=a5 then a3 (.v (.e (.str (bJ z l h))))else a6
   |_=>a6
 |_,_,_=>a6
noncomputable def Qx(is:List Nat)(c e:En->Option W)(ρ:En)(d:D):Option (Option D):=match qz is d ρ with
 |none=>a6
 |some ρ2=>match c ρ2 with
  |some (.a [])=>match e ρ2 with
   |some (.v x)=>x.st.map a3
   |_=>a6
  |some (.a [y])=>match y.d with
   |.bl a5=>match e ρ2 with
    |some (.v x)=>x.st.map a3
    |_=>a6
   |.bl a4=>a3 a6
   |_=>a6
  |_=>a6
noncomputable def j41(is:List Nat)(w:Option W)(c e:En->Option W)(z:Bool)(ρ:En):Option W:=match w with
 |some (.i ds)=>if Io is ρ=a5/\jr ds.length=a5 then(J1 (Qx is c e ρ) ds).bind λl=>if (z && !zg l)=a5 then a6 else a3 (.v (.o l))else a6
 |_=>a6
section
variable{Γ:ah->List D->Rc}{G:ah->Option D}{ρ:En}{a b c e:Ex}{op:Bop}{cp:Cop}{x f:ah}{i:Nat}{d:D}
theorem jh0:ev Γ G (.lit d) ρ=a3 (.v (.e d)):=(rfl)
theorem jgu:ev Γ G (.var i) ρ=Dj ρ[i]?:=(rfl)
theorem jde:ev Γ G (.glob x) ρ=jau (G x):=(rfl)
theorem jh7:ev Γ G (.bin op a b) ρ=Zc op (ev Γ G a ρ) (ev Γ G b ρ):=(rfl)
theorem jh4:ev Γ G (.cmp cp a b) ρ=Cr cp (ev Γ G a ρ) (ev Γ G b ρ):=(rfl)
theorem jh3:ev Γ G (.isN a) ρ=jgm (ev Γ G a ρ):=(rfl)
theorem jh8:ev Γ G (.and a b) ρ=ja7 (truth (ev Γ G a ρ)) (ev Γ G b) ρ:=(rfl)
theorem jjw:ev Γ G (.or a b) ρ=orW (truth (ev Γ G a ρ)) (ev Γ G b) ρ:=(rfl)
theorem jgx:ev Γ G (.not a) ρ=jfu (truth (ev Γ G a ρ)):=(rfl)
theorem jh1:ev Γ G (.ite c a b) ρ=j8k (truth (ev Γ G c ρ)) (ev Γ G a) (ev Γ G b) ρ:=(rfl)
theorem jgy:ev Γ G .nil ρ=a3 (.a []):=(rfl)
theorem jdh:ev Γ G (.cons a b) ρ=consW (ev Γ G a ρ) (ev Γ G b ρ):=(rfl)
theorem jgv:ev Γ G (.tup a) ρ=Yh (ev Γ G a ρ):=(rfl)
theorem jgz:ev Γ G (.lst a) ρ=Z6 (ev Γ G a ρ):=(rfl)
theorem jjx:ev Γ G (.ix a b) ρ=ixW (ev Γ G a ρ) (ev Γ G b ρ):=(rfl)
theorem jjv:ev Γ G (.sl a b c) ρ=slW (ev Γ G a ρ) (Qv (ev Γ G b ρ)) (Qv (ev Γ G c ρ)):=(rfl)
theorem jdd{sep:ah}:ev Γ G (.join sep a) ρ=O2 sep (ev Γ G a ρ):=(rfl)
theorem jdc:ev Γ G (.lset a) ρ=Mw (ev Γ G a ρ):=(rfl)
theorem jh5{b c:Ex}:ev Γ G (.chn a b c) ρ=j0y (ev Γ G a ρ) (ev Γ G b ρ) (ev Γ G c ρ):=(rfl)
theorem jhl{i j k:Int}:j0y (a3 (.v (.e (.int i)))) (a3 (.v (.e (.int j)))) (a3 (.v (.e (.int k))))=a3 (.v (.e (.bl (decide (i<j)&&decide (j<k))))):=(rfl)
theorem j99:ev Γ G (.callV i a) ρ=W5 Γ ρ[i]? (ev Γ G a ρ):=(rfl)
theorem j9s{cs:List D}{u v:D}(h:Jc [u,v]=a5):W5 Γ (a3 (.val (.fn x cs))) (a3 (.a [.e u,.e v]))=(Γ (jx x) (cs++[u,v])).lv:=if_pos h
theorem j9r{cs:List D}{u v w:D}(h:Jc [u,v,w]=a5):W5 Γ (a3 (.val (.fn x cs))) (a3 (.a [.e u,.e v,.e w]))=(Γ (jx x) (cs++[u,v,w])).lv:=if_pos h
theorem jl7:(Rc.lval d).lv=a3 (.v (.e d)):=(rfl)
theorem jdg:ev Γ G (.dget a b) ρ=O4 (ev Γ G a ρ) (ev Γ G b ρ):=(rfl)
theorem j98:ev Γ G (.dvals a) ρ=M4 (ev Γ G a ρ):=(rfl)
theorem j9g{ks:List (List Int)}{ds:List D}:M4 (a3 (.v (.e (.dct ks ds))))=a3 (.v (.e (.tup ds))):=(rfl)
theorem jda:ev Γ G (.minT a) ρ=Mu (ev Γ G a ρ):=(rfl)
noncomputable def rcV:Rc->Option W
 |.val d=>a3 (.v (.e d))
 |_=>a6
noncomputable def j72(Γ:ah->List D->Rc)(f:ah)(a:Option W):Option W:=match a with
 |some (.a rs)=>match zm rs with
  |some ds=>rcV (Γ f (ds++[.non]))
  |none=>a6
 |_=>a6
noncomputable def j71(Γ:ah->List D->Rc)(f:ah)(a b:Option W):Option W:=match a,b with
 |some (.a rs),a3 (.v x)=>match zm rs,x.st with
  |some ds,a3 d'=>rcV (Γ f (ds++[d']))
  |_,_=>a6
 |_,_=>a6
theorem j9b{f:ah}:ev Γ G (.callD f a) ρ=j72 Γ f (ev Γ G a ρ):=(rfl)
theorem j9a{f:ah}{b:Ex}:ev Γ G (.callK f a b) ρ=j71 Γ f (ev Γ G a ρ) (ev Γ G b ρ):=(rfl)
theorem jiy{d:D}:rcV (.val d)=a3 (.v (.e d)):=(rfl)
theorem j9u{f:ah}{x y:D}:j72 Γ f (a3 (.a [.e x,.e y]))=rcV (Γ f [x,y,.non]):=(rfl)
theorem j9t{f:ah}{x y z:D}:j71 Γ f (a3 (.a [.e x,.e y])) (a3 (.v (.e z)))=rcV (Γ f [x,y,z]):=(rfl)
theorem jdf:ev Γ G (.enum a) ρ=Wj (ev Γ G a ρ):=(rfl)
theorem jdj:ev Γ G (.call f a) ρ=Z1 Γ f (ev Γ G a ρ):=(rfl)
theorem jh6{f:Bf}:ev Γ G (.blt f a) ρ=zq f (ev Γ G a ρ):=(rfl)
theorem jdb{m:Mf}:ev Γ G (.meth m a b) ρ=Mv m (ev Γ G a ρ) (ev Γ G b ρ):=(rfl)
theorem jh2{ts:List String}:ev Γ G (.isi a ts) ρ=Cg (ev Γ G a ρ) ts:=(rfl)
theorem jdi{is:List Nat}:ev Γ G (.comp is e a c) ρ=j41 is (ev Γ G a (frz a ρ)) (ev Γ G c) (ev Γ G e) (Jf a ρ) (frz a ρ):=(rfl)
theorem jgw:ev Γ G (.seq a) ρ=Ba (ev Γ G a ρ):=(rfl)
theorem j97:ev Γ G (.range a) ρ=Rn (ev Γ G a ρ):=(rfl)
end
section
variable{x y:Rk}{d:D}{i j k:Int}{l m:List D}{b:Bool}{f g:En->Option W}{ρ:En}{xs:List Rk}{op:Bop}{cp:Cop}
theorem je8:Dj (a3 (.val d))=a3 (.v (.e d)):=(rfl)
theorem je9:Dj (a3 (.own l))=a3 (.v (.w l)):=(rfl)
theorem jd8:jau (a3 d)=a3 (.v (.e d)):=(rfl)
theorem jgn:j8u (a3 i)=a3 (.v (.e (.int i))):=(rfl)
theorem jk1:blW (a3 b)=a3 (.v (.e (.bl b))):=(rfl)
theorem jhs:Zc op (a3 (.v (.e (.int i)))) (a3 (.v (.e (.int j))))=j8u (binI op i j):=by simp only[Zc,Ur,Rk.d,j8u,rkW];cases binI op i j<;>rfl
theorem ja4:binI .add i j=a3 (i+j):=(rfl)
theorem j9z:binI .sub i j=a3 (i-j):=(rfl)
theorem ja2(h:(-18446744073709551616<i/\i<18446744073709551616)\/(-18446744073709551616<j/\j<18446744073709551616)):binI .mul i j=a3 (i*j):=if_pos h
theorem j75(h:0<j/\j<18446744073709551616):binI .fdiv i j=a3 (i/j):=if_pos h
theorem ja3(h:0<j):binI .mod i j=a3 (i%j):=if_pos h
theorem ja1(h:0<=j/\j<=1000000/\i.natAbs<18446744073709551616):binI .pow i j=a3 (i^j.toNat):=if_pos h
theorem ja0(h:0<=j/\j<=1000000/\i.natAbs<18446744073709551616):binI .shl i j=a3 (i*2^j.toNat):=if_pos h
theorem jhp(h:l.length+m.length<=1000000):Zc .add (a3 (.v (.o l))) (a3 (.v (.w m)))=a3 (.v (.o (l++m))):=by simp[Zc,Ur,Rk.d,Rk.sq,jr,J4 h,rkW]
theorem jhn(h:l.length+m.length<=1000000):Zc .add (a3 (.v (.e (.tup l)))) (a3 (.v (.e (.tup m))))=a3 (.v (.e (.tup (l++m)))):=by simp[Zc,Ur,Rk.d,Rk.sq,jr,J4 h,rkW]
theorem jix(h:-9223372036854775808<=k/\k<9223372036854775808)(h2:l.length*k.toNat<=1000000):Zc .mul (a3 (.v (.o l))) (a3 (.v (.e (.int k))))=a3 (.v (.o (ae k.toNat l).flatten)):=by simp only[Zc,Ur,Rk.d,Rk.sq,Rk.lw];rw[if_pos ⟨h.1,h.2,decide_eq_true (J4 h2)⟩];rfl
theorem jf0(h:1<=k/\k<=1000000):Zc .mul (a3 (.v (.e (.tup [d])))) (a3 (.v (.e (.int k))))=a3 (.v (.e (.tup (ae k.toNat d)))):=by simp only[Zc,Ur,Rk.d,Rk.sq];rw[if_pos ⟨h.1,by omega,rfl,decide_eq_true (J4 (by simp only[X8,T7];omega))⟩];simp only[rkW,Option.map,List.flatten_replicate_singleton]
theorem jhh:Cr cp (a3 (.v x)) (a3 (.v y))=blW (Za cp x.d y.d):=(rfl)
theorem d_e:(Rk.e d).d=d:=(rfl)
theorem d_o:(Rk.o l).d=.lst l:=(rfl)
theorem d_w:(Rk.w l).d=.lst l:=(rfl)
theorem jhi:Za cp (.int i) (.int j)=cmpI cp i j:=by cases cp<;>rfl
theorem j9l{a b:Bool}:Za .ne (.bl a) (.bl b)=a3 (a != b):=(rfl)
theorem j9o{a b:Bool}:Za .eq (.bl a) (.bl b)=a3 (a==b):=(rfl)
theorem j9n(h:(D.lst l).dep<=90)(h2:(D.lst m).dep<=90):Za .eq (.lst l) (.lst m)=a3 (zy l m):=by simp[Za,h,h2,Fw,j0r]
theorem j9k(h:D.depL l<=90)(h2:D.depL m<=90):Za .ne (.lst l) (.lst m)=a3 (!zy l m):=by simp[Za,h,h2]
theorem j9m{a b:ah}:Za .eq (.str a) (.str b)=a3 (a==b):=by simp[Za,D.dep,j6b]
theorem j6r:Za .eq (.lst []) (.lst [])=a3 (zy [] []):=j9n (by simp[D.dep,D.depL]) (by simp[D.dep,D.depL])
theorem j6h(h:i<j):cmpI .lt i j=a3 a5:=by simp[cmpI,h]
theorem j6i(h:j<=i):cmpI .lt i j=a3 a4:=by simp[cmpI];omega
theorem j6j(h:i<=j):cmpI .le i j=a3 a5:=by simp[cmpI,h]
theorem j6k(h:j<i):cmpI .le i j=a3 a4:=by simp[cmpI];omega
theorem j6l(h:j<i):cmpI .gt i j=a3 a5:=by simp[cmpI,h]
theorem j6m(h:i<=j):cmpI .gt i j=a3 a4:=by simp[cmpI];omega
theorem j6n(h:j<=i):cmpI .ge i j=a3 a5:=by simp[cmpI,h]
theorem j6o(h:i<j):cmpI .ge i j=a3 a4:=by simp[cmpI];omega
theorem j6p(h:i=j):cmpI .eq i j=a3 a5:=by simp[cmpI,h]
theorem j6q(h:i≠j):cmpI .eq i j=a3 a4:=by simp[cmpI,h]
theorem j6g(h:i=j):cmpI .ne i j=a3 a4:=by simp[cmpI,h]
theorem jdq:cmpI .gt i j=a3 (decide (j<i)):=(rfl)
theorem j0v:cmpI .ge i j=a3 (decide (j<=i)):=(rfl)
theorem jcm{a b:D}(h:vd a=a5):Z6 (a3 (.a [.t a,.e b]))=a3 (.v (.o [a,b])):=by simp[Z6,zm,Rk.st,h,jr,J4 (show 2<=1000000 by decide)]
theorem Cu:cmpI .eq i j=a3 (decide (i=j)):=(rfl)
theorem jgl:jgm (a3 (.v x))=a3 (.v (.e (.bl x.d.isNon))):=(rfl)
theorem jbb:truth (a3 (.v (.e (.bl b))))=a3 b:=(rfl)
theorem jhw:ja7 (a3 a4) f ρ=a3 (.v (.e (.bl a4))):=(rfl)
theorem jhv:ja7 (a3 a5) f ρ=blW (truth (f ρ)):=(rfl)
theorem jj5:orW (a3 a4) f ρ=blW (truth (f ρ)):=(rfl)
theorem jft:jfu (a3 b)=a3 (.v (.e (.bl (!b)))):=(rfl)
theorem jit:stW (a3 (.v (.e d)))=a3 (.v (.e d)):=(rfl)
theorem jgi:j8k (a3 a5) f g ρ=stW (f ρ):=(rfl)
theorem jgj:j8k (a3 a4) f g ρ=stW (g ρ):=(rfl)
theorem jdp:consW (a3 (.v x)) (a3 (.a xs))=a3 (.a (x::xs)):=(rfl)
theorem Ea(h:zm xs=a3 l)(hl:l.length<=1000000):Yh (a3 (.a xs))=a3 (.v (.e (.tup l))):=by simp[Yh,h,jr,J4 hl]
theorem j0g(h:zm xs=a3 l)(hl:l.length<=1000000):Z6 (a3 (.a xs))=a3 (.v (.o l)):=by simp[Z6,h,jr,J4 hl]
theorem jed:Yh (a3 (.a []))=a3 (.v (.e (.tup []))):=by simp[Yh,zm,jr]
theorem jec{a:D}:Yh (a3 (.a [.e a]))=a3 (.v (.e (.tup [a]))):=Ea rfl (by simp)
theorem jeb{a b:D}:Yh (a3 (.a [.e a,.e b]))=a3 (.v (.e (.tup [a,b]))):=Ea rfl (by simp)
theorem jg4:Z6 (a3 (.a []))=a3 (.v (.o [])):=by simp[Z6,zm,jr]
theorem jg3{a:D}:Z6 (a3 (.a [.e a]))=a3 (.v (.o [a])):=j0g rfl (by simp)
theorem jg2{a b:D}:Z6 (a3 (.a [.e a,.e b]))=a3 (.v (.o [a,b])):=j0g rfl (by simp)
theorem jg1{a b c:D}:Z6 (a3 (.a [.e a,.e b,.e c]))=a3 (.v (.o [a,b,c])):=j0g rfl (by simp)
theorem jea{a b c:D}:Yh (a3 (.a [.e a,.e b,.e c]))=a3 (.v (.e (.tup [a,b,c]))):=Ea rfl (by simp)
noncomputable def O3(o:Option D):Option W:=o.map λd=>.v (.e d)
theorem Ej:∀xs:List D,zm (xs.map Rk.e)=a3 xs
 |[]=>rfl
 |x::xs=>by rw[xr,zm,Ej xs];rfl
theorem jfz(xs:List D)(h:xs.length<=1000000):Z6 (a3 (.a (xs.map Rk.e)))=a3 (.v (.o xs)):=by simp[Z6,Ej,jr,J4 h]
theorem jg0{a b c d e f g h:D}:Z6 (a3 (.a [.e a,.e b,.e c,.e d,.e e,.e f,.e g,.e h]))=a3 (.v (.o [a,b,c,d,e,f,g,h])):=jfz [a,b,c,d,e,f,g,h] (by simp)
theorem j2e:O3 (a3 d)=a3 (.v (.e d)):=(rfl)
theorem jgf:ixW (a3 (.v (.e (.lst l)))) (a3 (.v (.e (.int i))))=O3 (atI l i):=(rfl)
theorem jge:ixW (a3 (.v (.e (.tup l)))) (a3 (.v (.e (.int i))))=O3 (atI l i):=(rfl)
theorem jjk:ixW (a3 (.v (.o l))) (a3 (.v (.e (.int i))))=O3 (atI l i):=(rfl)
theorem jji:ixW (a3 (.v (.w l))) (a3 (.v (.e (.int i))))=O3 (atI l i):=(rfl)
noncomputable def jhk(c:Option Nat):Option W:=match c with
 |some c=>a3 (.v (.e (.str ⟨#[c]⟩)))
 |none=>a6
theorem jhj{c:Nat}:jhk (a3 c)=a3 (.v (.e (.str ⟨#[c]⟩))):=(rfl)
theorem jjj{z:ah}(h:z.length<=1000000):ixW (a3 (.v (.e (.str z)))) (a3 (.v (.e (.int i))))=jhk (atI z.cps.toList i):=by simp only[ixW,Rk.sq,Rk.d,jr,J4 h,decide_true,if_true];cases atI z.cps.toList i<;>rfl
theorem jiv{z:ah}{lo hi:Option Int}(h:z.length<=1000000):slW (a3 (.v (.e (.str z)))) (a3 lo) (a3 hi)=a3 (.v (.e (.str (bJ z lo hi)))):=by simp only[slW,Rk.sq,Rk.d,jr,J4 h,decide_true,if_true]
theorem jho{y z:ah}(h:y.length+z.length<=1000000):Zc .add (a3 (.v (.e (.str y)))) (a3 (.v (.e (.str z))))=a3 (.v (.e (.str (y++z)))):=by simp[Zc,Ur,Rk.d,jr,J4 h,rkW]
theorem jjl{k:Bool}:zq .int (a3 (.a [.e (.bl k)]))=a3 (.v (.e (.int (if k then 1 else 0)))):=(rfl)
theorem Jg{ns:List Int}:intsOf (ns.map D.int)=a3 ns:=by
 induction ns with
 |nil=>rfl
 |cons b bs ih=>rw[xr,intsOf,ih];rfl
theorem Nm{ns:List ah}:strsOf (ns.map D.str)=a3 ns:=by
 induction ns with
 |nil=>rfl
 |cons b bs ih=>rw[xr,strsOf,ih];rfl
theorem jaf{ns:List Int}:zq .sum (a3 (.a [.o (ns.map D.int)]))=a3 (.v (.e (.int ns.sum))):=by simp only[zq,Zb,Rk.d,Jg];rfl
theorem jis{ns:List Int}:zq .sum (a3 (.a [.w (ns.map D.int)]))=a3 (.v (.e (.int ns.sum))):=by simp only[zq,Zb,Rk.d,Jg];rfl
theorem jek{ns:List Int}:zq .sum (a3 (.a [.e (.lst (ns.map D.int))]))=a3 (.v (.e (.int ns.sum))):=by simp only[zq,Zb,Rk.d,Jg];rfl
theorem j2b{sep:ah}{ts:List ah}(h:eY sep ts=a5):O2 sep (a3 (.v (.o (ts.map D.str))))=a3 (.v (.e (.str (dX sep ts)))):=by simp only[O2,Rk.d,Nm,h,if_true]
theorem jcn{ts:List ah}(h:ts.length<4000):Mw (a3 (.v (.w (ts.map D.str))))=a3 (.v (.e (.int (dd ts).length))):=by simp only[Mw,Rk.d,Nm,h,if_true]
theorem jdk:Wj (a3 (.v (.o l)))=a3 (.i (Jh l)):=(rfl)
theorem j9f:Wj (a3 (.v (.e (.lst l))))=a3 (.i (Jh l)):=(rfl)
theorem j9e:Wj (a3 (.v (.e (.tup l))))=a3 (.i (Jh l)):=(rfl)
theorem j9w:Qv (a3 (.a []))=a3 a6:=(rfl)
theorem j9v:Qv (a3 (.a [.e (.int i)]))=a3 (a3 i):=(rfl)
variable{lo hi:Option Int}
theorem j4p(h:¬(HT.sIx l.length 0 lo=0/\HT.sIx l.length l.length hi=l.length)):slW (a3 (.v (.e (.tup l)))) (a3 lo) (a3 hi)=a3 (.v (.e (.tup (cutD l lo hi)))):=if_neg h
variable{Γ:ah->List D->Rc}{fn:ah}
noncomputable def rcW(r:Rc):Option W:=match r with
 |.val d=>a3 (.v (.e d))
 |.fresh l=>a3 (.v (.o l))
 |_=>a6
theorem jai:rcW (.val d)=a3 (.v (.e d)):=(rfl)
theorem jaj:rcW (.fresh l)=a3 (.v (.o l)):=(rfl)
theorem W4(h:zm xs=a3 l):Z1 Γ fn (a3 (.a xs))=rcW (Γ fn l):=by simp only[Z1,h];cases Γ fn l<;>rfl
theorem jdv{a:D}:Z1 Γ fn (a3 (.a [.e a]))=rcW (Γ fn [a]):=W4 rfl
theorem jdu{a b:D}:Z1 Γ fn (a3 (.a [.e a,.e b]))=rcW (Γ fn [a,b]):=W4 rfl
theorem jdt{a b c:D}:Z1 Γ fn (a3 (.a [.e a,.e b,.e c]))=rcW (Γ fn [a,b,c]):=W4 rfl
theorem j9q:Z1 Γ fn (a3 (.a [.o l]))=rcW (Γ fn [.lst l]):=W4 rfl
noncomputable def rcT(r:Rc):Option W:=match r with
 |.val d=>a3 (.v (.t d))
 |_=>a6
theorem jiz:rcT (.val d)=a3 (.v (.t d)):=(rfl)
theorem jds(h:zm xs=a6):Z1 Γ fn (a3 (.a xs))=rcT (Γ fn (xs.map Rk.d)):=by simp only[Z1,h];cases Γ fn (xs.map Rk.d)<;>rfl
theorem j9p{a b:D}:Z1 Γ fn (a3 (.a [.w m,.e a,.e b]))=rcT (Γ fn [.lst m,a,b]):=jds rfl
theorem jje:zq .len (a3 (.a [.e (.lst l)]))=a3 (.v (.e (.int l.length))):=(rfl)
theorem jjd:zq .len (a3 (.a [.e (.tup l)]))=a3 (.v (.e (.int l.length))):=(rfl)
theorem jjc:zq .len (a3 (.a [.w l]))=a3 (.v (.e (.int l.length))):=(rfl)
theorem jj7{ns:List Int}(h:ns≠[]):zq .min (a3 (.a [.o (ns.map D.int)]))=a3 (.v (.e (.int (Qn ns)))):=by
 have e:ns.isEmpty=a4:=by cases ns with|nil=>exact absurd rfl h|cons _ _=>rfl
 simp only[zq,Zb,Rk.d,Jg,e,if_true];rfl
theorem j4i{ks:List (List Int)}:Mj (ks.map λk=>D.tup (k.map D.int))=a3 ks:=by
 induction ks with
 |nil=>rfl
 |cons k ks ih=>rw[xr,Mj,ih];simp only[tupI,Jg]
theorem jcj{ks:List (List Int)}{k:List Int}(h:ks[aU (Jm ks) (ks.length-1)]?=a3 k):Mu (a3 (.v (.o (ks.map λk=>D.tup (k.map D.int)))))=a3 (.v (.t (.tup (k.map D.int)))):=by simp only[Mu,Rk.d,j4i,h];rfl
theorem Cp{ks:List (List Int)}{ds:List D}{k:List Int}{d:D}(h:zp ks ds k=a3 d):O4 (a3 (.v (.e (.dct ks ds)))) (a3 (.v (.e (.tup (k.map D.int)))))=a3 (.v (.e d)):=by simp only[O4,Rk.d,tupI,Jg,h];rfl
theorem jfx:zq .min (a3 (.a [.e (.int i),.e (.int j)]))=a3 (.v (.e (.int (if j<i then j else i)))):=(rfl)
theorem jba:zq .tuple (a3 (.a [.o l]))=a3 (.v (.e (.tup l))):=(rfl)
theorem jb9:zq .tuple (a3 (.a [.w l]))=a3 (.v (.e (.tup l))):=(rfl)
theorem jcp:zq .list (a3 (.a [.e (.lst l)]))=a3 (.v (.o l)):=(rfl)
theorem j1o{bs:List Bool}:boolsOf (bs.map D.bl)=a3 bs:=by
 induction bs with
 |nil=>rfl
 |cons b bs ih=>rw[xr,boolsOf,ih];rfl
theorem jk4{bs:List Bool}:zq .all (a3 (.a [.o (bs.map D.bl)]))=a3 (.v (.e (.bl (bs.all id)))):=by simp only[zq,Zb,Rk.d,j1o];rfl
theorem j2t(h:D.depL l<=90)(h2:d.dep<=90):Mv .count (a3 (.v (.w l))) (a3 (.a [.e d]))=a3 (.v (.e (.int (l.countP λe=>deq e d)))):=by simp[Mv,j3l,Rk.d,h,h2,rkW]
theorem jgk{ts:List String}:Cg (a3 (.v x)) ts=blW (qb x.d ts):=(rfl)
theorem jbi:Ba (a3 (.v (.e (.lst l))))=a3 (.i l):=(rfl)
theorem jbh:Ba (a3 (.v (.e (.tup l))))=a3 (.i l):=(rfl)
theorem jer:Ba (a3 (.v (.o l)))=a3 (.i l):=(rfl)
theorem j7w(h:-4611686018427387904<=i/\i<4611686018427387904):Rn (a3 (.a [.e (.int i)]))=a3 (.i (upto 0 i.toNat)):=if_pos h
theorem qi{is:List Nat}{c e:En->Option W}{z:Bool}{ds l:List D}(hf:Io is ρ=a5)(hl:ds.length<=1000000)(h:J1 (Qx is c e ρ) ds=a3 l)(hz:z=a4\/zg l=a5):j41 is (a3 (.i ds)) c e z ρ=a3 (.v (.o l)):=by simp only[j41,hf,jr,J4 hl,decide_true,and_self,if_true,h,kg];rcases hz with z|z<;>simp[z]
theorem Kc{f:D->Option (Option D)}{g:D->D}:∀{ds:List D},(∀d∈ds,f d=a3 (a3 (g d)))->J1 f ds=a3 (ds.map g)
 |[],_=>rfl
 |d::ds,h=>by rw[J1,h d (xm ..),Kc λd hd=>h d (xg _ hd)];rfl
theorem zc{i:Nat}{c e:En->Option W}(hc:c (ρ.set i (.val d))=a3 (.a [])){d':D}(he:e (ρ.set i (.val d))=a3 (.v (.e d'))):Qx [i] c e ρ d=a3 (a3 d'):=by simp[Qx,qz,hc,he,Rk.st]
theorem Ot{i:Nat}{c e:En->Option W}{b:Bool}{d':D}(hc:c (ρ.set i (.val d))=a3 (.a [.e (.bl b)]))(he:b=a5->e (ρ.set i (.val d))=a3 (.v (.e d'))):Qx [i] c e ρ d=a3 (if b=a5 then a3 d' else a6):=by
 cases b with
 |true=>simp[Qx,qz,hc,he rfl,Rk.st,Rk.d]
 |false=>simp[Qx,qz,hc,Rk.d]
theorem jb8{i j:Nat}{c e:En->Option W}{a b:D}(hc:c ((ρ.set i (.val a)).set j (.val b))=a3 (.a [])){d':D}(he:e ((ρ.set i (.val a)).set j (.val b))=a3 (.v (.e d'))):Qx [i,j] c e ρ (.tup [a,b])=a3 (a3 d'):=by simp[Qx,qz,hc,he,Rk.st]
theorem j7d{i j:Nat}{c e:En->Option W}{a b:D}{k:Bool}{d':D}(hc:c ((ρ.set i (.val a)).set j (.val b))=a3 (.a [.e (.bl k)]))(he:k=a5->e ((ρ.set i (.val a)).set j (.val b))=a3 (.v (.e d'))):Qx [i,j] c e ρ (.tup [a,b])=a3 (if k=a5 then a3 d' else a6):=by
 cases k with
 |true=>simp[Qx,qz,hc,he rfl,Rk.st,Rk.d]
 |false=>simp[Qx,qz,hc,Rk.d]
theorem Q4{α:Type}{xs:List α}{n:Nat}{x:α}(h:xs[n]?=a3 x):atI xs (n:Int)=a3 x:=jdy h
end
section
theorem j8n:qb .non ["list","tuple"]=a3 a4:=by simp[qb,za,D.ty]
theorem j8q {b:Bool}:qb (.bl b) ["list","tuple"]=a3 a4:=by simp[qb,za,D.ty]
theorem jd1 {b:Bool}:qb (.bl b) ["bool"]=a3 a5:=by simp[qb,za,D.ty]
theorem jcw {b:Bool}:qb (.bl b) ["str"]=a3 a4:=by simp[qb,za,D.ty]
theorem j8t {b:Bool}:qb (.bl b) ["int","str"]=a3 a5:=by simp[qb,za,D.ty]
theorem j8p {i:Int}:qb (.int i) ["list","tuple"]=a3 a4:=by simp[qb,za,D.ty]
theorem jd0 {i:Int}:qb (.int i) ["bool"]=a3 a4:=by simp[qb,za,D.ty]
theorem jcv {i:Int}:qb (.int i) ["str"]=a3 a4:=by simp[qb,za,D.ty]
theorem j8s {i:Int}:qb (.int i) ["int","str"]=a3 a5:=by simp[qb,za,D.ty]
theorem j8m {z:ah}:qb (.str z) ["list","tuple"]=a3 a4:=by simp[qb,za,D.ty]
theorem jcz {z:ah}:qb (.str z) ["bool"]=a3 a4:=by simp[qb,za,D.ty]
theorem jcu {z:ah}:qb (.str z) ["str"]=a3 a5:=by simp[qb,za,D.ty]
theorem j8r {z:ah}:qb (.str z) ["int","str"]=a3 a5:=by simp[qb,za,D.ty]
theorem j8l {l:List D}:qb (.tup l) ["list","tuple"]=a3 a5:=by simp[qb,za,D.ty]
theorem jcx {l:List D}:qb (.tup l) ["list"]=a3 a4:=by simp[qb,za,D.ty]
theorem j8o {l:List D}:qb (.lst l) ["list","tuple"]=a3 a5:=by simp[qb,za,D.ty]
theorem jcy {l:List D}:qb (.lst l) ["list"]=a3 a5:=by simp[qb,za,D.ty]
theorem jd3:D.isNon .non=a5:=(rfl)
theorem jd6{b:Bool}:D.isNon (.bl b)=a4:=(rfl)
theorem jd5{i:Int}:D.isNon (.int i)=a4:=(rfl)
theorem jd2{z:ah}:D.isNon (.str z)=a4:=(rfl)
theorem jd4{l:List D}:D.isNon (.lst l)=a4:=(rfl)
end
section
noncomputable abbrev qg(r:List Int):D:=.tup (r.map .int)
noncomputable abbrev qj(rs:List (List Int)):List D:=rs.map qg
theorem qe{α:Type}{f:D->Option (Option D)}{h g:α->D}{L:List α}(q:∀x∈L,f (h x)=a3 (a3 (g x))):J1 f (L.map h)=a3 (L.map g):=by
 induction L with
 |nil=>rfl
 |cons x L ih=>rw[xr,J1,q x (xm ..),ih λy hy=>q y (xg _ hy)];rfl
theorem R8{α:Type}{f:D->Option (Option D)}{h g:α->D}{p:α->Bool}{L:List α}(q:∀x∈L,f (h x)=a3 (if p x=a5 then a3 (g x)else a6)):J1 f (L.map h)=a3 ((L.filter p).map g):=by
 induction L with
 |nil=>rfl
 |cons x L ih =>
  rw[xr,J1,q x (xm ..),ih λy hy=>q y (xg _ hy)];by_cases z:p x=a5
  .rw[if_pos z,Pz z];rfl
  .rw[if_neg z,Pk z]
theorem Wq{f:D->Option (Option D)}:∀{ds:List D},(∀d∈ds,f d=a3 a6)->J1 f ds=a3 []
 |[],_=>rfl
 |d::ds,h=>by rw[J1,h d (xm ..),Wq λd hd=>h d (xg _ hd)]
theorem take_snoc{α:Type}{l:List α}{i:Nat}{x:α}(h:l[i]?=a3 x):l.take (i+1)=l.take i++[x]:=by rw[Tq,h];rfl
theorem Wg{α β:Type}{f:α->β}{l:List α}{i:Nat}{y:β}(h:(l.map f)[i]?=a3 y):∃x,l[i]?=a3 x/\y=f x:=by
 rw[X3]at h;cases e:l[i]? with
 |none=>rw[e]at h;cases h
 |some x=>rw[e]at h;cases h;exact⟨x,rfl,rfl⟩
theorem j8j{α:Type}{c:Prop}[Decidable c]{x:α}:(if c then x else x)=x:=by split<;>rfl
theorem j5s{l:List D}(h:Qg (.tup l)):l.length<=1000/\Zg l:=by simpa [Qg]using h
theorem j5u{l:List D}(h:Qg (.lst l)):l.length<=1000/\Zg l:=by simpa [Qg]using h
end
section
theorem M5(p:List Int):D.depL (p.map D.int)=0:=by
 induction p with
 |nil=>rfl
 |cons t ts ih=>simp[D.depL,D.dep,ih]
end
end L2
end
section
open PySem (Str)
open L2
noncomputable def jjt:=(k8c (k8c (k8c (k8c (k8c (k8c (k8c @jbm (k8c @Ds @jbj)) (k8c @jbn (k8c @j7u @jbk))) (k8c (k8c @j7p (k8c @jbo @j7s)) (k8c @jbs (k8c @jbr @jbl)))) (k8c (k8c (k8c @jdc (k8c @jbq @Bc)) (k8c @K5 (k8c @K4 @j7q))) (k8c (k8c @jbv (k8c @j33 @j18)) (k8c (k8c @jhf @j7r) (k8c @jbw @j99))))) (k8c (k8c (k8c (k8c @jdg (k8c @j98 @j9g)) (k8c @jda (k8c @jl7 @jg8))) (k8c (k8c @jh5 (k8c @jhl @j9b)) (k8c @j9a (k8c @j9u @j9t)))) (k8c (k8c (k8c @jiy (k8c @Bh @j26)) (k8c @Ri (k8c @Et @jjm))) (k8c (k8c @jjn (k8c @j4r @j4s)) (k8c (k8c @jez @j4z) (k8c @jey @jbu)))))) (k8c (k8c (k8c (k8c (k8c @jbt (k8c @jfw @jfv)) (k8c @jgt (k8c @jco @jhu))) (k8c (k8c @jgs (k8c @j2k @j95)) (k8c @jh0 (k8c @jgu @jde)))) (k8c (k8c (k8c @jh7 (k8c @jh4 @jh3)) (k8c @jh8 (k8c @jjw @jgx))) (k8c (k8c @jh1 (k8c @jgy @jdh)) (k8c (k8c @jgv @jgz) (k8c @jjx @jjv))))) (k8c (k8c (k8c (k8c @jdj (k8c @jh6 @jdb)) (k8c @jh2 (k8c @jdi @jgw))) (k8c (k8c @j97 (k8c @je8 @je9)) (k8c (k8c @jd8 @jgn) (k8c @jk1 @jhs)))) (k8c (k8c (k8c @ja4 (k8c @j9z @ja2)) (k8c @j75 (k8c @ja3 @ja1))) (k8c (k8c @ja0 (k8c @jhp @jhn)) (k8c (k8c @jix @jhh) (k8c @d_e @d_o))))))) (k8c (k8c (k8c (k8c (k8c (k8c @d_w (k8c @jhi @j9l)) (k8c @j9o (k8c @j9m @j6r))) (k8c (k8c @j8j (k8c @j6h @j6i)) (k8c @j6j (k8c @j6k @j6l)))) (k8c (k8c (k8c @j6m (k8c @j6n @j6o)) (k8c @j6p (k8c @j6q @j6g))) (k8c (k8c @jgl (k8c @jf0 @jbb)) (k8c (k8c @jhw @jhv) (k8c @jj5 @jft))))) (k8c (k8c (k8c (k8c @jit (k8c @jgi @jgj)) (k8c @jdp (k8c @jed @jec))) (k8c (k8c @jeb (k8c @jg4 @jg3)) (k8c @jg2 (k8c @jg1 @jg0)))) (k8c (k8c (k8c @jea (k8c @j2e @jgf)) (k8c @jge (k8c @jjk @jji))) (k8c (k8c @j9w (k8c @j9v @jai)) (k8c (k8c @jaj @jiz) (k8c @jdv @jdu)))))) (k8c (k8c (k8c (k8c (k8c @jdt (k8c @j9q @jje)) (k8c @jjd (k8c @jjc @jfx))) (k8c (k8c @jba (k8c @jb9 @jcp)) (k8c @jk4 (k8c @jgk @jbi)))) (k8c (k8c (k8c @jbh (k8c @jer @j7w)) (k8c @jdd (k8c @jdf @jem))) (k8c (k8c @jhj (k8c @jjj @jiv)) (k8c (k8c @jho @jjl) (k8c @jaf @jis))))) (k8c (k8c (k8c (k8c @jek (k8c @jdk @j9f)) (k8c @j9e (k8c @j8n @j8q))) (k8c (k8c @jd1 (k8c @jcw @j8t)) (k8c (k8c @j8p @jd0) (k8c @jcv @j8s)))) (k8c (k8c (k8c @j8m (k8c @jcz @jcu)) (k8c @j8r (k8c @j8l @jcx))) (k8c (k8c @j8o (k8c @jcy @jd3)) (k8c (k8c @jd6 @jd5) (k8c @jd2 @jd4))))))))
local macro_rules | `(tactic| walk_at "go")=>`(tactic| try simp (disch:=first | omega | assumption | (simp only [List.length_map,List.length_append,List.length_cons,List.length_nil,List.length_take,List.length_drop,List.length_reverse] <;> omega)) only [jjt,Ys,beq_self_eq_true,frz,Jf,j91,List.getElem?_cons_zero,List.getElem?_cons_succ,List.set_cons_zero,List.set_cons_succ,List.map_cons,List.map_nil,List.cons_append,List.nil_append,List.replicate,List.length_map,List.length_append,List.length_cons,List.length_nil,Bool.not_true,Bool.not_false,bne_self_eq_false,Nat.reduceSub,Nat.reduceAdd,Int.reduceToNat,Int.reducePow])
local macro_rules | `(tactic| ext)=>`(tactic| walk_at "go")
local macro_rules | `(tactic| erw [$r])=>`(tactic| (rw [$r]; ext)) | `(tactic| erw [$r,$rs,*])=>`(tactic| (rw [$r]; ext; erw [$rs,*]))
namespace KL
noncomputable def Z3:Sx:=(.seq (.ret (.call "all_choices" (.cons (.comp [1] (.ite (.cmp .eq (.var 1) (.glob "NOT_TOLD")) (.glob "ANSWERS") (.tup (.cons (.var 1) .nil))) (.seq (.var 0)) .nil) .nil))) .nop)
noncomputable def fP_rows_in:Fi:=⟨1,2,Z3,a4⟩
noncomputable def J6:Sx:=(.seq (.set 1 (.lst (.cons (.tup .nil) .nil))) (.seq (.loop [2] (.seq (.var 0)) (.seq (.set 3 (.lst .nil)) (.seq (.loop [4] (.seq (.var 1)) (.seq (.ext 3 (.comp [5] (.bin .add (.var 4) (.tup (.cons (.var 5) .nil))) (.seq (.var 2)) .nil)) .nop)) (.seq (.mov 1 3) .nop)))) (.seq (.retV 1) .nop)))
noncomputable def fP_all_choices:Fi:=⟨1,6,J6,a4⟩
noncomputable def Yg:Sx:=(.seq (.ife (.cmp .lt (.var 1) (.blt .len (.cons (.var 0) .nil))) (.seq (.ret (.ix (.var 0) (.var 1))) .nop) .nop) (.seq (.set 2 (.bin .add (.lit (.int 70001)) (.bin .mul (.bin .mul (.lit (.int 911)) (.var 1)) (.var 1)))) (.seq (.ife (.cmp .gt (.blt .len (.cons (.var 0) .nil)) (.lit (.int 0))) (.seq (.set 2 (.bin .add (.var 2) (.bin .mul (.bin .mod (.ix (.var 0) (.lit (.int 0))) (.lit (.int 9973))) (.bin .add (.bin .mul (.lit (.int 3)) (.var 1)) (.lit (.int 1)))))) .nop) .nop) (.seq (.retV 2) .nop))))
noncomputable def fL_cell:Fi:=⟨2,3,Yg,a4⟩
noncomputable def Vi:Sx:=(.seq (.ife (.isi (.var 1) ["list","tuple"]) (.seq (.ife (.or (.cmp .ne (.isi (.var 0) ["list"]) (.isi (.var 1) ["list"])) (.not (.isi (.var 0) ["list","tuple"]))) (.seq (.ret (.lit (.bl a4))) .nop) .nop) (.seq (.set 2 (.comp [3] (.var 3) (.range (.cons (.blt .min (.cons (.blt .len (.cons (.var 0) .nil)) (.cons (.blt .len (.cons (.var 1) .nil)) .nil))) .nil)) (.cons (.not (.call "_law_same" (.cons (.ix (.var 0) (.var 3)) (.cons (.ix (.var 1) (.var 3)) .nil)))) .nil))) (.seq (.ret (.and (.cmp .eq (.blt .len (.cons (.var 0) .nil)) (.blt .len (.cons (.var 1) .nil))) (.cmp .eq (.var 2) (.lst .nil)))) .nop))) .nop) (.seq (.ife (.isN (.var 1)) (.seq (.ret (.isN (.var 0))) .nop) .nop) (.seq (.ife (.or (.cmp .ne (.isi (.var 0) ["bool"]) (.isi (.var 1) ["bool"])) (.cmp .ne (.isi (.var 0) ["str"]) (.isi (.var 1) ["str"]))) (.seq (.ret (.lit (.bl a4))) .nop) .nop) (.seq (.ret (.and (.isi (.var 0) ["int","str"]) (.cmp .eq (.var 0) (.var 1)))) .nop))))
noncomputable def fL_same:Fi:=⟨2,4,Vi,a4⟩
section
variable{G:ah->Option D}{T:ah->Option Fi}
noncomputable def jn(ns:List Int)(k:Nat):Int:=match ns[k]? with
 |some v=>v
 |none=>match ns with
  |[]=>70001+911*k*k
  |v::_=>70001+911*k*k+v%9973*(3*k+1)
theorem Ud {fu n:Nat} (hT:T "_law_cell" = a3 fL_cell) {ns:List Int} {k:Nat} (hk:k<=100):evP fu G T (n+1) "_law_cell" [.lst (ns.map .int),.int k]=.val (.int (jn ns k)):=by
 rw[jk (F:=fL_cell) hT rfl];simp only[fL_cell,Yg,enter];by_cases h:k<ns.length
 .have e:atI (ns.map D.int) (k:Int)=a3 (.int ns[k]):=Q4 (by simp[h]);have q:jn ns k=ns[k]:=by simp[jn,h]
  ext;simp only[e,j2e,j4z,j26,Et,j2k,q]
 .cases ns with
  |nil =>ext;simp[jn]
  |cons v r =>
   have e:atI (D.int v::r.map D.int) 0=a3 (.int v):=by simp[atI,ixN]
   have q:jn (v::r) k=70001+911*k*k+v%9973*(3*k+1):=by unfold jn;rw[Xp nofun]
   rw[xr];rw[X8]at h;ext;simp only[e];ext;rw[q]
theorem j7k(f:List Int):step [] f=[]:=rfl
theorem j4o(acc:List (List Int))(a f:List Int):step (acc++[a]) f=step acc f++f.map λx=>a++[x]:=by simp[step]
theorem j0w(fs:List (List Int))(f:List Int):ql (fs++[f])=step (ql fs) f:=by simp[ql]
theorem Ei(acc:List (List Int)){f:List Int}{k:Nat}(h:f.length<=k):(step acc f).length<=acc.length*k:=by
 unfold step;induction acc with
 |nil=>simp
 |cons a acc ih =>rw[List.flatMap_cons,Xb,kj,X8,kW];omega
theorem j1l{fs:List (List Int)}{k:Nat}(h:∀f∈fs,f.length<=k):(ql fs).length<=k^fs.length:=by
 have go:∀(fs acc:List (List Int)),(∀f∈fs,f.length<=k)->(fs.foldl step acc).length<=acc.length*k^fs.length:=by
  intro fs;induction fs with
  |nil=>intro acc _;simp
  |cons f fs ih =>intro acc hf;have h1:=ih (step acc f) λg hg=>hf g (xg _ hg);have h2:=Ei acc (hf f (xm ..));rw[Th,X8,Tj,fm (k^fs.length) k,<-Nat.mul_assoc];exact Xk h1 (Nat.mul_le_mul_right _ h2)
 have:=go fs [[]] h;simpa [ql]using this
theorem j0x{fs:List (List Int)}{r:List Int}(h:r∈ql fs):r.length=fs.length:=by
 have go:∀(fs acc:List (List Int)) (k:Nat),(∀a∈acc,a.length=k)->∀r∈fs.foldl step acc,r.length=k+fs.length:=by
  intro fs;induction fs with
  |nil=>intro acc k ha r hr;exact ha r hr
  |cons f fs ih =>
   intro acc k ha r hr;have:=ih (step acc f) (k+1) (λa hm=>by
    obtain⟨b,hb,hx⟩:=List.mem_flatMap.mp hm
    obtain⟨x,_,rfl⟩:=Xh.mp hx
    rw[Xb,ha b hb];rfl) r hr
   rw[this,X8];omega
 have:=go fs [[]] 0 (λa ha=>by rw[xn.mp ha];rfl) r h;omega
theorem Yv {fu n:Nat} (hT:T "all_choices" = a3 fP_all_choices) {fs:List (List Int)} (hf:∀f∈fs,f.length<=3) (hl:fs.length<=6):evP fu G T (n+1) "all_choices" [.lst (qj fs)]=.fresh (qj (ql fs)):=by
 rw[jk (F:=fP_all_choices) hT rfl];simp only[fP_all_choices,J6,enter];ext;have small:∀i,(ql (fs.take i)).length<=729:=λi=>by
  have h:=j1l (fs:=fs.take i) (k:=3) λf hm=>hf f (List.mem_of_mem_take hm);have h2:(fs.take i).length<=6:=by rw[Xo];omega
  exact Xk h (eB (by decide) h2)
 refine Yj (λi ρ=>∃s2 s4,ρ=[.val (.lst (qj fs)),.own (qj (ql (fs.take i))),s2,.un,s4,.un]) ⟨.un,.un,by simp[ql,qj,qg]⟩ ?_ ?_
 .rintro i d ρ hi ⟨s2,s4,rfl⟩;obtain⟨f,hfi,rfl⟩:=Wg hi;have hf3:f.length<=3:=hf f (Xm hfi);have sm:=small i;simp only[J5];ext;refine Ln (λj ρ=>∃s4,ρ=[.val (.lst (qj fs)),.val (.lst (qj (ql (fs.take i)))),.val (qg f),.own (qj (step ((ql (fs.take i)).take j) f)),s4,.un]) ⟨s4,by simp[j7k]⟩ ?_ ?_
  .rintro j d ρ hj ⟨s4,rfl⟩;obtain⟨a,haj,rfl⟩:=Wg hj;have hs:=Ei ((ql (fs.take i)).take j) hf3;have hs2:((ql (fs.take i)).take j).length<=729:=by rw[Xo];omega
   have ha:a.length<=6:=by have:=j0x (Xm haj);rw[Xo]at this;omega
   simp only[J5];ext;rw[qi (l:=(f.map λx=>qg (a++[x]))) (by rfl) ?_ ?_ (.inl rfl)]
   .ext;refine⟨_,rfl,.val (qg a),?_⟩;rw[take_snoc haj,j4o];simp only[qj,Xf,Xc];rfl
   .simp only[kj];omega
   .refine qe λx _=>zc (by ext) ?_;ext;simp
  .rintro ρ' ⟨s4,rfl⟩;ext;refine⟨_,rfl,.val (qg f),s4,?_⟩;rw[take_snoc hfi,j0w,cC]
 .rintro ρ' ⟨s2,s4,rfl⟩;ext;rw[cC]
theorem j96(t:Int):(Z7 t).length<=3:=by unfold Z7;split<;>simp
theorem Oh {fu n:Nat} (hT:T "rows_in" = a3 fP_rows_in) (hC:T "all_choices" = a3 fP_all_choices) (gNT:G "NOT_TOLD" = a3 (.int 2)) (gAN:G "ANSWERS" = a3 (.tup [.int 0,.int 1])) {p:List Int} (hp:p.length<=6):evP fu G T (n+2) "rows_in" [qg p]=.fresh (qj (ql (p.map Z7))):=by
 rw[jk (F:=fP_rows_in) hT rfl];simp only[fP_rows_in,Z3,enter];ext;rw[qi (l:=qj (p.map Z7)) (by rfl) ?_ ?_ (.inl rfl)]
 .ext;rw[Yv hC (λf hf=>by obtain⟨t,_,rfl⟩:=Xh.mp hf;exact j96 t) (by rw[kj];exact hp)];ext
 .rw[kj];omega
 .rw[qj,Xc];refine qe λt _=>zc (by ext) ?_;by_cases h:t=2
  .ext;simp only[gNT];ext;simp only[gAN];ext;simp[Z7,h]
  .ext;simp only[gNT];ext;simp[Z7,h]
theorem j4w {fu:Nat} (hT:T "_law_same" = a3 fL_same):∀(k:Nat){x:D}{n:Nat},x.dep<=k->Qg x->evP fu G T (n+k+1) "_law_same" [x,x]=.val (.bl a5):=by
 intro k;induction k with
 |zero =>
  intro x n hk hx;rw[jk (F:=fL_same) hT rfl];simp only[fL_same,Vi,enter];cases x with
  |tup l=>simp[D.dep]at hk
  |lst l=>simp[D.dep]at hk
  |dct ks l=>simp[D.dep]at hk
  |sct k=>simp[D.dep]at hk
  |fn x l=>simp[D.dep]at hk
  |non=>ext
  |bl b=>ext
  |int i=>ext
  |str z=>ext
 |succ k ih =>
  intro x n hk hx;have ih':∀{x:D},x.dep<=k->Qg x->evP fu G T (n+(k+1)) "_law_same" [x,x]=.val (.bl a5):=λh1 h2=>ih h1 h2;rw[jk (F:=fL_same) hT rfl];simp only[fL_same,Vi,enter];cases x with
  |dct ks l=>exact aT (by simpa [Qg]using hx)
  |sct k=>exact aT (by simpa [Qg]using hx)
  |fn x l=>exact aT (by simpa [Qg]using hx)
  |tup l =>
   obtain⟨hl,hx⟩:=j5s hx;have hk:D.depL l<=k:=by simp only[D.dep]at hk;omega
   ext;rw[X6,qi (l:=[]) (by rfl) (by rw[jq];omega) ?_ (.inl rfl)]
   .ext
   .refine Wq λd hd=>?_;obtain⟨j,hj,rfl⟩:=j0e hd;have hg:atI l (0+(j:Int))=a3 l[j]:=by rw[Td];exact Q4 (kh hj)
    have hm:l[j]∈l:=Xy hj;refine Ot (b:=a4) (d':=.non) ?_ λz=>by cases z
    ext;simp only[hg];ext;rw[ih' (Xk (D.depL_mem hm) hk) (Wc hx hm)];ext
  |lst l =>
   obtain⟨hl,hx⟩:=j5u hx;have hk:D.depL l<=k:=by simp only[D.dep]at hk;omega
   ext;rw[X6,qi (l:=[]) (by rfl) (by rw[jq];omega) ?_ (.inl rfl)]
   .ext
   .refine Wq λd hd=>?_;obtain⟨j,hj,rfl⟩:=j0e hd;have hg:atI l (0+(j:Int))=a3 l[j]:=by rw[Td];exact Q4 (kh hj)
    have hm:l[j]∈l:=Xy hj;refine Ot (b:=a4) (d':=.non) ?_ λz=>by cases z
    ext;simp only[hg];ext;rw[ih' (Xk (D.depL_mem hm) hk) (Wc hx hm)];ext
  |non=>ext
  |bl b=>ext
  |int i=>ext
  |str z=>ext
theorem j5t{r:List Int}(h:r.length<=1000):Qg (qg r):=by
 simp only[Qg,kj];refine⟨h,K1 λd hd=>?_⟩;obtain⟨i,_,rfl⟩:=Xh.mp hd
 trivial
theorem Qk(n:Nat):upto 0 n=(aw n).map λ(k:Nat)=>D.int (0+(k:Int)):=rfl
theorem j02{m:Nat}(h:m<=6):(1:Int)<=2^m/\(2:Int)^m<=64:=by
 have:m=0\/m=1\/m=2\/m=3\/m=4\/m=5\/m=6:=by omega
 rcases this with e|e|e|e|e|e|e<;>subst e<;>decide
theorem j2j{p:List Int}{k:Nat}(h:k<p.length):atI (p.map D.int) (0+(k:Int))=a3 (.int (p.getD k 0)):=by rw[Td];refine Q4 ?_;rw[X3,kh h,km,kh h];rfl
end
end KL
namespace KV
open PySem
noncomputable def letters:List Nat:=[109,100,107,98,118,113,104,122,99,103,114,110,97,112,120,111,108,115,105,101,102,119,116,121,106,117]
theorem jcl:("mdkbvqhzcgrnapxolsiefwtyju":ah).cps.toList=letters:=by decide +kernel
noncomputable def lt(n:Int):Nat:=letters.getD n.toNat 0
noncomputable def sL(l:List Nat):ah:=⟨l.toArray⟩
theorem Jb{l:List Nat}:(sL l).length=l.length:=by simp[sL,lP]
theorem jet{l m:List Nat}(h:sL l=sL m):l=m:=by have:=congrArg (λz=>z.cps.toList) h;simpa [sL]using this
theorem U3{l m:List Nat}:sL l++sL m=sL (l++m):=by show(⟨l.toArray++m.toArray⟩:ah)=_;simp[sL]
theorem Fg:∀l:List Nat,dX ("":ah) (l.map λc=>(⟨#[c]⟩:ah))=sL l:=by
 intro l;show lQ _ _=_;rw[StrLaws.glued_eq_join];induction l with
 |nil=>rfl
 |cons a r ih =>
  cases r with
  |nil=>rfl
  |cons b r =>
   rw[xr,xr,Str.join,<-xr (f:=λc=>(⟨#[c]⟩:ah)),ih]
   .show(⟨(#[a] ++ #[])++(b::r).toArray⟩:ah)=⟨(a::b::r).toArray⟩
    simp
   .intro z;cases z
theorem jeu{l:List Nat}:(sL l).cps.toList=l:=by simp[sL]
theorem Fp{k n:Nat}:aF a6 (a3 (k:Int)) 1 n=aF (a3 ((0:Nat):Int)) (a3 (k:Int)) 1 n:=by
 have e:max (0:Int) (min 0 (n:Int))=0:=by omega
 simp[aF,e]
theorem Fq{k n:Nat}:aF (a3 (k:Int)) a6 1 n=aF (a3 (k:Int)) (a3 (n:Int)) 1 n:=by
 have e:max (0:Int) (min (n:Int) (n:Int))=n:=by omega
 have e2:¬((n:Int)<0):=by omega
 simp[aF,e,e2]
theorem Em{l:List Nat}{a b:Nat}{lo hi:Option Int}(he:aF lo hi 1 (sL l).length=aF (a3 (a:Int)) (a3 (b:Int)) 1 (sL l).length)(hab:a<=b)(hb:b<=l.length):bJ (sL l) lo hi=sL ((l.drop a).take (b-a)):=by
 have hb':b<=(sL l).length:=by rw[Jb];exact hb
 have q:=StrLaws.sliced_plain (sL l) hab hb';rw[jeu]at q;have e1:=StrLaws.strSliceIndices_plain hab hb';unfold bJ;rw[he];by_cases h:((1:Int)==1&&(aF (a3 (a:Int)) (a3 (b:Int)) 1 (sL l).length).length==(sL l).length)=a5
 .rw[if_pos h];rw[e1,Jb,kj,Xi]at h;have:b-a=l.length:=by simpa using h
  have ha:a=0:=by omega
  subst ha;rw[this,cX,cC]
 .rw[if_neg h,q];rfl
theorem Nq{l:List Nat}{k:Nat}(h:k<=l.length):bJ (sL l) a6 (a3 (k:Int))=sL (l.take k):=by rw[Em (a:=0) (b:=k) Fp (c9 _) h];simp
theorem Nr{l:List Nat}{k:Nat}(h:k<=l.length):bJ (sL l) (a3 (k:Int)) a6=sL (l.drop k):=by rw[Em (a:=k) (b:=l.length) (by rw[Fq,Jb]) h (xx _),t7 (by rw[Tw];omega)]
theorem Rq {l:List Nat} (h:l.length<=100):eY ("":ah) (l.map λc=>(⟨#[c]⟩:ah))=a5:=by
 unfold eY;rw[jB];have e:∀(r:List Nat)(k:Nat),(r.map λc=>(⟨#[c]⟩:ah)).foldl (λ(x:Nat) (y:ah)=>x+y.length+("":ah).length) k=k+r.length:=by
  intro r;induction r with
  |nil=>intro k;rfl
  |cons a r ih =>intro k;rw[xr,Th,ih,X8];show k+1+0+r.length=_;omega
 show cA _=a4;have:=e l 0;rw[List.foldl_toArray];show cA (cW (λ(x:Nat) (y:ah)=>x+y.length+("":ah).length) 0 _)=a4;rw[this];unfold cA;simp;have:=jJ;omega
noncomputable def Y8(c:Int):List Nat:=(aw 8).map λ(k:Nat)=>lt (c/(4+5*(k:Int))%26)
noncomputable def Vk(c:Int)(s:Nat):List Nat:=(aw s).map λ(k:Nat)=>lt ((c/32+3*(k:Int)*(k:Int)+(k:Int))%26)
theorem Qq(c:Int):(Y8 c).length=8:=by simp[Y8]
theorem vh(c:Int)(s:Nat):(Vk c s).length=s:=by simp[Vk]
noncomputable def stN(c:Int)(m:Nat):Nat:=(c/8%(9-(m:Int))).toNat
noncomputable def szN(c:Int):Nat:=(c/4%8).toNat
noncomputable def atN(c:Int):Nat:=(c/512%((szN c:Int)+1)).toNat
noncomputable def wrd(c:Int)(m k:Nat):List Nat :=
 if c%4<2 then(if c%4=0 then(Y8 c).take (stN c m+k+1) else(Y8 c).drop (8-stN c m-k-1))
 else(Vk c (szN c)).take (atN c)++lt ((c/9+7*(k:Int))%26)::(Vk c (szN c)).drop (atN c)
noncomputable def Qj(c:Int)(m:Nat):List ah:=(aw m).map λ(k:Nat)=>sL (wrd c m k)
theorem jfy{a b:Int}(ha:0<=a/\a<26)(hb:0<=b/\b<26)(h:lt a=lt b):a=b:=by
 obtain⟨i,rfl⟩:∃i:Nat,a=(i:Int):=⟨a.toNat,by omega⟩
 obtain⟨j,rfl⟩:∃j:Nat,b=(j:Int):=⟨b.toNat,by omega⟩
 have key:∀i j:Fin 26,letters.getD i.val 0=letters.getD j.val 0->i=j:=by decide +kernel
 have:=key ⟨i,by omega⟩ ⟨j,by omega⟩ h;have:=congrArg Fin.val this;simp at this;omega
theorem jag{c:Int}{m:Nat}(h:m<=6):stN c m+m<=8:=by unfold stN;have h1:=T8 (c/8) (show(9-(m:Int))≠0 by omega);have h2:=sr (c/8) (show(0:Int)<9-(m:Int)by omega);omega
theorem jay(c:Int):atN c<=szN c/\szN c<=7:=by unfold atN;have h1:=T8 (c/512) (show((szN c:Int)+1)≠0 by omega);have h2:=sr (c/512) (show(0:Int)<(szN c:Int)+1 by omega);refine⟨by omega,?_⟩;unfold szN;omega
theorem jb7{c:Int}{m i j:Nat}(hm:m<=6)(hi:i<m)(hj:j<m)(h:wrd c m i=wrd c m j):i=j:=by
 have s:=jag (c:=c) hm;have a:=jay c;have l8:=Qq c;have ls:=vh c (szN c);unfold wrd at h;split at h
 .split at h
  .have:=congrArg cG h;rw[Xo,Xo]at this;omega
  .have:=congrArg cG h;rw[Tw,Tw]at this;omega
 .have h2:=List.append_cancel_left h;have h3:=(List.cons.inj h2).1;have:=jfy nofun nofun h3;omega
theorem Ko(c:Int)(m:Nat):(Qj c m).length=m:=by simp[Qj]
theorem Iw{c:Int}{m:Nat}(hm:m<=6):(Qj c m).Nodup:=by unfold Qj;unfold List.Nodup;rw[jv];exact List.Pairwise.imp_of_mem (λhi hj h e=>h (jb7 hm (Xd.mp hi) (Xd.mp hj) (jet e))) (List.nodup_range (n:=m))
end KV
open PySem (Str)
open L2
namespace KW
open KL KV PySem
noncomputable def W6:Sx:=(.seq (.set 3 (.comp [4] (.var 4) (.range (.cons (.blt .len (.cons (.var 0) .nil)) .nil)) (.cons (.cmp .eq (.bin .mod (.bin .fdiv (.var 2) (.bin .shl (.lit (.int 1)) (.var 4))) (.lit (.int 2))) (.lit (.int 1))) .nil))) (.seq (.set 5 (.blt .sum (.cons (.comp [4] (.bin .shl (.ix (.var 0) (.var 4)) (.var 4)) (.seq (.var 3)) .nil) .nil))) (.seq (.set 6 (.blt .sum (.cons (.comp [4,7] (.bin .shl (.var 7) (.var 4)) (.enum (.var 0)) .nil) .nil))) (.seq (.ife (.cmp .eq (.var 1) (.lit (.int 1))) (.seq (.ret (.blt .int (.cons (.cmp .gt (.blt .sum (.cons (.var 0) .nil)) (.bin .mod (.bin .fdiv (.var 2) (.lit (.int 64))) (.blt .len (.cons (.var 0) .nil)))) .nil))) .nop) .nop) (.seq (.ife (.cmp .eq (.var 1) (.lit (.int 2))) (.seq (.set 8 (.bin .mod (.bin .mul (.bin .add (.var 6) (.lit (.int 1))) (.bin .add (.lit (.int 1)) (.bin .mod (.var 2) (.lit (.int 1000003))))) (.lit (.int 2147483629)))) (.seq (.ret (.blt .int (.cons (.cmp .eq (.bin .mod (.bin .fdiv (.var 8) (.lit (.int 32))) (.lit (.int 5))) (.lit (.int 0))) .nil))) .nop)) .nop) (.seq (.ife (.cmp .eq (.var 1) (.lit (.int 3))) (.seq (.set 8 (.bin .mul (.bin .add (.bin .add (.bin .mul (.var 5) (.var 5)) (.bin .mul (.lit (.int 17)) (.var 5))) (.lit (.int 69621))) (.bin .add (.lit (.int 1)) (.bin .mod (.var 2) (.lit (.int 1000003)))))) (.seq (.ret (.bin .mod (.bin .fdiv (.bin .mod (.var 8) (.lit (.int 2147483647))) (.lit (.int 16))) (.lit (.int 2)))) .nop)) .nop) (.seq (.ife (.cmp .eq (.var 1) (.lit (.int 4))) (.seq (.ret (.bin .mod (.bin .add (.blt .sum (.cons (.comp [4] (.ix (.var 0) (.var 4)) (.seq (.var 3)) .nil) .nil)) (.bin .fdiv (.var 2) (.lit (.int 64)))) (.lit (.int 2)))) .nop) .nop) (.seq (.set 8 (.bin .mul (.bin .add (.bin .mul (.var 6) (.var 6)) (.lit (.int 48271))) (.bin .add (.bin .add (.bin .mod (.var 2) (.lit (.int 1000003))) (.var 6)) (.lit (.int 1))))) (.seq (.ret (.bin .mod (.bin .fdiv (.bin .mod (.var 8) (.lit (.int 2147483647))) (.lit (.int 64))) (.lit (.int 2)))) .nop)))))))))
noncomputable def fL_bit:Fi:=⟨3,9,W6,a4⟩
section
variable{G:ah->Option D}{T:ah->Option Fi}
theorem Ik {n:Int} (h:0<=n/\n<26):atI ("mdkbvqhzcgrnapxolsiefwtyju":ah).cps.toList n=a3 (lt n):=by
 obtain⟨k,rfl⟩:∃k:Nat,n=(k:Int):=⟨n.toNat,by omega⟩
 have hk:k<letters.length:=by show k<26;omega
 rw[jcl];refine Q4 ?_;unfold lt;rw[kh hk,X6,km,kh hk];rfl
theorem jjf:("mdkbvqhzcgrnapxolsiefwtyju":ah).length<=1000000:=by decide +kernel
theorem Eg:∀{l:List Int},(∀x∈l,0<=x/\x<=32)->0<=l.sum/\l.sum<=32*(l.length:Int)
 |[],_=>by simp
 |a::r,h=>by have h1:=h a (xm ..);have h2:=Eg (l:=r) λx hx=>h x (xg _ hx);rw[Tt,X8];omega
theorem p2k{k:Nat}(h:k<=5):0<(2:Int)^k/\(2:Int)^k<=32:=by
 have:k=0\/k=1\/k=2\/k=3\/k=4\/k=5:=by omega
 rcases this with e|e|e|e|e|e<;>subst e<;>decide
noncomputable def Y6(row:List Int)(c:Int):List Nat:=(aw row.length).filter λ(k:Nat)=>decide (c/(1*2^(0+(k:Int)).toNat)%2=1)
noncomputable def Ua(row:List Int)(c:Int):List Int:=(Y6 row c).map λ(k:Nat)=>row.getD k 0*2^(0+(k:Int)).toNat
noncomputable def byL(row:List Int):List Int:=row.zipIdx.map λp=>p.1*2^((p.2:Nat):Int).toNat
theorem t0k(k:Nat):(0+(k:Int)).toNat=k:=by omega
theorem Ir{row:List Int}(h01:∀x∈row,x=0\/x=1)(k:Nat):row.getD k 0=0\/row.getD k 0=1:=by
 rw[km];cases h:row[k]? with
 |none=>exact .inl rfl
 |some v=>exact h01 v (Xm h)
theorem jcs{row:List Int}{c:Int}(h01:∀x∈row,x=0\/x=1)(hl:row.length<=6):0<=(Ua row c).sum/\(Ua row c).sum<=192:=by
 have h:=Eg (l:=Ua row c) λx hx=>by
  obtain⟨k,hk,rfl⟩:=Xh.mp hx;have hk2:=Xd.mp (Xu.mp hk).1;have p:=p2k (k:=k) nofun
  rw[t0k];rcases Ir h01 k with e|e<;>rw[e]<;>omega
 have l:(Ua row c).length<=6:=by unfold Ua Y6;rw[kj];exact Xk (Tf _ _) (by rw[Xi];exact hl)
 omega
theorem jjz{row:List Int}(h01:∀x∈row,x=0\/x=1)(hl:row.length<=6):0<=(byL row).sum/\(byL row).sum<=192:=by
 have h:=Eg (l:=byL row) λx hx=>by
  obtain⟨p,hp,rfl⟩:=Xh.mp hx;obtain⟨a,k⟩:=p;have hm:=jR hp;have p:=p2k (k:=k) nofun
  show 0<=a*2^((k:Nat):Int).toNat/\a*2^((k:Nat):Int).toNat<=32;rw[X6];have:=h01 a (by rw[hm.2.2];exact Xy _);rcases this with e|e<;>rw[e]<;>omega
 have l:(byL row).length<=6:=by unfold byL;rw[kj,cV];exact hl
 omega
theorem jhq {fu n:Nat} (hT:T "_law_bit" = a3 fL_bit) {row:List Int} {kd c:Int} (h01:∀x∈row,x=0\/x=1) (hl:1<=row.length/\row.length<=6):∃b:Int,(b=0\/b=1)/\evP fu G T (n+1) "_law_bit" [.lst (row.map D.int),.int kd,.int c]=.val (.int b):=by
 rw[jk (F:=fL_bit) hT rfl];simp only[fL_bit,W6,enter];have kb:=jcs (c:=c) h01 hl.2;have bb:=jjz h01 hl.2;have sl:(Y6 row c).length<=6:=by unfold Y6;exact Xk (Tf _ _) (by rw[Xi];exact hl.2)
 have get:∀k:Nat,k∈Y6 row c->atI (row.map D.int) (0+(k:Int))=a3 (.int (row.getD k 0)):=λk hk=>j2j (Xd.mp (Xu.mp hk).1);ext;rw[qi (l:=(Y6 row c).map λ(k:Nat)=>D.int (0+(k:Int))) (by rfl) (by rw[jq];omega) ?_ (.inl rfl)];rotate_left
 .rw[X6,Qk,Y6];refine R8 λk hk'=>?_;have hk:=Xd.mp hk';have p:0<(2:Int)^(0+(k:Int)).toNat/\(2:Int)^(0+(k:Int)).toNat<=32:=by rw[t0k];exact p2k nofun
  refine Ot ?_ λ_=>?_
  .ext;simp only[Cu];ext
  .ext
 ext;rw[qi (l:=(Ua row c).map D.int) (by rfl) (by rw[kj];omega) ?_ (.inr (zr _))];rotate_left
 .rw[Ua,Xc];refine qe λk hk'=>zc (by ext) ?_;have b:=Ir h01 k;have hk:=Xd.mp (Xu.mp hk').1;ext;rw[get k hk'];ext;rfl
 ext;rw[qi (l:=(byL row).map D.int) (by rfl) (by simp only[Jh,kj,cV];omega) ?_ (.inl rfl)];rotate_left
 .rw[byL,Xc,Jh,List.zipIdx_map,Xc];refine qe λq hq=>?_;obtain⟨a,k⟩:=q;have hm:=jR hq;have h1:=h01 a (by rw[hm.2.2];exact Xy _);show Qx _ _ _ _ (D.tup [.int (k:Int),.int a])=_;refine jb8 (by ext) ?_;ext;rfl
 ext;generalize (Ua row c).sum=kept at *;generalize (byL row).sum=byr at *;by_cases k1:kd=1
 .refine⟨if decide (c/64%(row.length:Int)<row.sum)=a5 then 1 else 0,by split<;>simp,?_⟩;ext;simp only[jdq];ext
 .by_cases k2:kd=2
  .refine⟨if decide ((byr+1)*(1+c%1000003)%2147483629/32%5=0)=a5 then 1 else 0,by split<;>simp,?_⟩;ext;simp only[Cu];ext
  .by_cases k3:kd=3
   .refine⟨(kept*kept+17*kept+69621)*(1+c%1000003)%2147483647/16%2,by omega,?_⟩;ext
   .by_cases k4:kd=4
    .refine⟨(((Y6 row c).map λ(k:Nat)=>row.getD k 0).sum+c/64)%2,by omega,?_⟩;ext;rw[qi (l:=((Y6 row c).map λ(k:Nat)=>row.getD k 0).map D.int) (by rfl) (by rw[kj];omega) ?_ (.inr (zr _))]
     .ext
     .rw[Xc];refine qe λk hk'=>zc (by ext) ?_;ext;rw[get k hk'];ext;rfl
    .refine⟨(byr*byr+48271)*(c%1000003+byr+1)%2147483647/64%2,by omega,?_⟩;ext
noncomputable def N8(fu:Nat)(G:ah->Option D)(T:ah->Option Fi)(n:Nat)(row:List Int)(kd c:Int):Int:=match evP fu G T (n+1) "_law_bit" [.lst (row.map D.int),.int kd,.int c] with
 |.val (.int b)=>b
 |_=>0
theorem j13 {fu n:Nat} (hT:T "_law_bit" = a3 fL_bit) {row:List Int} {kd c:Int} (h01:∀x∈row,x=0\/x=1) (hl:1<=row.length/\row.length<=6):(N8 fu G T n row kd c=0\/N8 fu G T n row kd c=1)/\evP fu G T (n+1) "_law_bit" [.lst (row.map D.int),.int kd,.int c]=.val (.int (N8 fu G T n row kd c)):=by obtain⟨b,hb,e⟩:=jhq (fu:=fu) (n:=n) (G:=G) hT h01 hl (kd:=kd) (c:=c);unfold N8;rw[e];exact⟨hb,rfl⟩
theorem j3x(m:Nat)(z:Int):∀x∈j6 2 m z,x=0\/x=1:=by
 intro x hx;obtain⟨i,hi⟩:=List.mem_iff_getElem?.mp hx;have hl:i<m:=by have:=(X7.mp hi).1;rw[q9]at this;exact this
 rw[Zr 2 hl]at hi;cases hi;omega
noncomputable def Zy(ns:List Int)(a most:Nat):Nat:=(1+jn ns a%(most:Int)).toNat
theorem Dz{ns:List Int}{a most:Nat}(h:1<=most/\most<=6):1<=Zy ns a most/\Zy ns a most<=most:=by unfold Zy;have h1:=T8 (jn ns a) (show(most:Int)≠0 by omega);have h2:=sr (jn ns a) (show(0:Int)<most by omega);omega
end
end KW
section
namespace K30
open PySem PySem.Spec PyProof.Rows L2
noncomputable def top(i:Nat):aQ:=PySem.Challenge.pw_leastasks_k30_whole_table_cells.main.body.getD i (.Pass ⟨0,0,0,0⟩)
noncomputable def Vr:Sx:=(.seq (.expr (.call "refuse_wrong_size" (.cons (.var 0) .nil))) (.seq (.ret (.call "all_choices" (.cons (.bin .mul (.lst (.cons (.glob "TELLINGS") .nil)) (.var 0)) .nil))) .nop))
noncomputable def Um:Fi:=⟨1,1,Vr,a4⟩
noncomputable def Zj:Sx:=(.seq (.ret (.call "number_of" (.cons (.var 0) (.cons (.blt .len (.cons (.glob "ANSWERS") .nil)) .nil)))) .nop)
noncomputable def Y4:Fi:=⟨1,1,Zj,a4⟩
noncomputable def Z3:Sx:=(.seq (.ret (.call "all_choices" (.cons (.comp [1] (.ite (.cmp .eq (.var 1) (.glob "NOT_TOLD")) (.glob "ANSWERS") (.tup (.cons (.var 1) .nil))) (.seq (.var 0)) .nil) .nil))) .nop)
noncomputable def fP_rows_in:Fi:=⟨1,2,Z3,a4⟩
noncomputable def Vs:Sx:=(.seq (.ret (.call "all_choices" (.cons (.comp [1] (.ite (.cmp .eq (.var 1) (.glob "NOT_TOLD")) (.glob "TELLINGS") (.tup (.cons (.var 1) .nil))) (.seq (.var 0)) .nil) .nil))) .nop)
noncomputable def Uo:Fi:=⟨1,2,Vs,a4⟩
noncomputable def Qh:Sx:=(.seq (.ife (.or (.cmp .lt (.var 1) (.lit (.int 0))) (.or (.cmp .ge (.var 1) (.blt .len (.cons (.var 0) .nil))) (.cmp .ne (.ix (.var 0) (.var 1)) (.glob "NOT_TOLD")))) (.seq .fail .nop) .nop) (.seq (.ret (.bin .add (.bin .add (.sl (.var 0) .nil (.cons (.var 1) .nil)) (.tup (.cons (.var 2) .nil))) (.sl (.var 0) (.cons (.bin .add (.var 1) (.lit (.int 1))) .nil) .nil))) .nop))
noncomputable def V2:Fi:=⟨3,3,Qh,a4⟩
noncomputable def J3:Sx:=(.seq (.ife (.or (.cmp .lt (.var 0) (.glob "FEWEST_PLACES")) (.cmp .gt (.var 0) (.glob "MOST_PLACES"))) (.seq .fail .nop) .nop) .nop)
noncomputable def Q8:Fi:=⟨1,1,J3,a4⟩
noncomputable def J6:Sx:=(.seq (.set 1 (.lst (.cons (.tup .nil) .nil))) (.seq (.loop [2] (.seq (.var 0)) (.seq (.set 3 (.lst .nil)) (.seq (.loop [4] (.seq (.var 1)) (.seq (.ext 3 (.comp [5] (.bin .add (.var 4) (.tup (.cons (.var 5) .nil))) (.seq (.var 2)) .nil)) .nop)) (.seq (.mov 1 3) .nop)))) (.seq (.retV 1) .nop)))
noncomputable def fP_all_choices:Fi:=⟨1,6,J6,a4⟩
noncomputable def V6:Sx:=(.seq (.set 2 (.lit (.int 0))) (.seq (.loop [3] (.seq (.var 0)) (.seq (.set 2 (.bin .add (.bin .mul (.var 2) (.var 1)) (.var 3))) .nop)) (.seq (.retV 2) .nop)))
noncomputable def Yq:Fi:=⟨2,4,V6,a4⟩
noncomputable def V7:Sx:=(.seq (.ret (.ix (.ix (.var 0) (.lit (.int 1))) (.call "row_number" (.cons (.var 1) .nil)))) .nop)
noncomputable def Yr:Fi:=⟨2,2,V7,a4⟩
noncomputable def Zi:Sx:=(.seq (.set 2 (.call "counted_in" (.cons (.var 0) (.cons (.var 1) .nil)))) (.seq (.ife (.cmp .eq (.ix (.var 2) (.lit (.int 1))) (.lit (.int 0))) (.seq (.ret (.lit (.int 0))) .nop) .nop) (.seq (.ife (.cmp .eq (.ix (.var 2) (.lit (.int 0))) (.lit (.int 0))) (.seq (.ret (.lit (.int 1))) .nop) .nop) (.seq (.ret (.lit (.non))) .nop))))
noncomputable def Y0:Fi:=⟨2,3,Zi,a4⟩
noncomputable def Zk:Sx:=(.seq (.set 2 (.comp [3] (.call "answer_to" (.cons (.var 0) (.cons (.var 3) .nil))) (.seq (.call "rows_in" (.cons (.var 1) .nil))) .nil)) (.seq (.ret (.tup (.cons (.meth .count (.var 2) (.cons (.lit (.int 0)) .nil)) (.cons (.meth .count (.var 2) (.cons (.lit (.int 1)) .nil)) .nil)))) .nop))
noncomputable def Y5:Fi:=⟨2,4,Zk,a4⟩
noncomputable def Vt:Sx:=(.seq (.ret (.bin .mul (.tup (.cons (.glob "NOT_TOLD") .nil)) (.blt .len (.cons (.ix (.var 0) (.lit (.int 0))) .nil)))) .nop)
noncomputable def Up:Fi:=⟨1,1,Vt,a4⟩
noncomputable def Qc:Sx:=(.seq (.ret (.bin .add (.call "row_number" (.cons (.bin .mul (.tup (.cons (.lit (.int 1)) .nil)) (.var 0)) .nil)) (.lit (.int 1)))) .nop)
noncomputable def Zq:Fi:=⟨1,1,Qc,a4⟩
noncomputable def Jy:Sx:=(.seq (.ife (.isN (.var 1)) (.seq (.ret (.bin .mul (.lst (.cons (.lit (.int 1)) .nil)) (.var 0))) .nop) .nop) (.seq (.ife (.or (.cmp .ne (.blt .len (.cons (.var 1) .nil)) (.var 0)) (.not (.call "all_between" (.cons (.var 1) (.cons (.glob "LEAST_PRICE") .nil))))) (.seq .fail .nop) .nop) (.seq (.ret (.blt .list (.cons (.var 1) .nil))) .nop)))
noncomputable def Ju:Fi:=⟨2,2,Jy,a4⟩
noncomputable def v6:Sx:=(.seq (.ife (.or (.cmp .ne (.blt .len (.cons (.var 0) .nil)) (.call "count_of_rows" (.cons (.var 1) .nil))) (.not (.call "all_between" (.cons (.var 0) (.cons (.glob "LEAST_WEIGHT") .nil))))) (.seq .fail .nop) .nop) (.seq (.ife (.cmp .eq (.blt .sum (.cons (.var 0) .nil)) (.lit (.int 0))) (.seq .fail .nop) .nop) .nop))
noncomputable def Ja:Fi:=⟨2,2,v6,a4⟩
noncomputable def Z5:Sx:=(.seq (.ret (.blt .all (.cons (.comp [2] (.and (.cmp .ge (.var 2) (.var 1)) (.cmp .le (.var 2) (.glob "GREATEST_NUMBER"))) (.seq (.var 0)) .nil) .nil))) .nop)
noncomputable def Vg:Fi:=⟨2,3,Z5,a4⟩
noncomputable def Z4:Sx:=(.seq (.ret (.dvals (.call "least_numbers" (.cons (.call "all_open" (.cons (.var 0) .nil)) (.cons (.var 0) (.cons (.var 1) .nil)))))) .nop)
noncomputable def Vf:Fi:=⟨2,2,Z4,a4⟩
noncomputable def Qa:Sx:=(.seq (.retC "numbers_within" "least_numbers" (.var 0) (.var 1) [2]) .nop)
noncomputable def Zo:Fi:=⟨3,3,Qa,a4⟩
noncomputable def Jo:Sx:=(.nmake 3 4 5 (.seq (.call "parts_in" (.cons (.var 0) .nil))) (.not (.isN (.call "settled_by" (.cons (.var 1) (.cons (.var 4) .nil))))) (.ite (.var 5) (.lit (.int 0)) (.callV 2 (.cons (.var 3) (.cons (.var 4) .nil)))))
noncomputable def Z8:Fi:=⟨3,6,Jo,a4⟩
noncomputable def Qi:Sx:=(.seq (.ret (.minT (.comp [3,4] (.tup (.cons (.callV 2 (.cons (.var 0) (.cons (.var 1) (.cons (.var 3) .nil)))) (.cons (.var 3) .nil))) (.enum (.var 1)) (.cons (.cmp .eq (.var 4) (.glob "NOT_TOLD")) .nil)))) .nop)
noncomputable def V3:Fi:=⟨3,5,Qi,a4⟩
noncomputable def Jp:Sx:=(.seq (.ret (.comp [3] (.dget (.var 0) (.call "told_further" (.cons (.var 1) (.cons (.var 2) (.cons (.var 3) .nil))))) (.seq (.glob "ANSWERS")) .nil)) .nop)
noncomputable def Z9:Fi:=⟨3,4,Jp,a4⟩
noncomputable def Z2:Sx:=(.seq (.ret (.call "least_table" (.cons (.var 0) (.cons (.call "whole_cost_of_ask" (.cons (.var 0) (.cons (.var 1) (.cons (.var 2) .nil)))) .nil)))) .nop)
noncomputable def Ve:Fi:=⟨3,3,Z2,a4⟩
noncomputable def J2:Sx:=(.seq (.set 3 (.blt .len (.cons (.ix (.var 0) (.lit (.int 0))) .nil))) (.seq (.set 4 (.call "prices_told" (.cons (.var 3) (.cons (.var 2) .nil)))) (.seq (.keep 4) (.seq (.expr (.call "refuse_wrong_weights" (.cons (.var 1) (.cons (.var 3) .nil)))) (.seq (.set 5 (.call "weights_by_part" (.cons (.var 3) (.cons (.var 1) .nil)))) (.seq (.retL "whole_cost_of_ask" [5,4]) .nop))))))
noncomputable def Q7:Fi:=⟨3,6,J2,a4⟩
noncomputable def Jj:Sx:=(.wmake 2 3 (.seq (.call "parts_of" (.cons (.var 0) .nil))) (.blt .sum (.cons (.comp [4] (.ix (.var 1) (.call "row_number" (.cons (.var 4) .nil))) (.seq (.call "rows_in" (.cons (.var 3) .nil))) .nil) .nil)))
noncomputable def Qt:Fi:=⟨2,5,Jj,a4⟩
noncomputable def Yg:Sx:=(.seq (.ife (.cmp .lt (.var 1) (.blt .len (.cons (.var 0) .nil))) (.seq (.ret (.ix (.var 0) (.var 1))) .nop) .nop) (.seq (.set 2 (.bin .add (.lit (.int 70001)) (.bin .mul (.bin .mul (.lit (.int 911)) (.var 1)) (.var 1)))) (.seq (.ife (.cmp .gt (.blt .len (.cons (.var 0) .nil)) (.lit (.int 0))) (.seq (.set 2 (.bin .add (.var 2) (.bin .mul (.bin .mod (.ix (.var 0) (.lit (.int 0))) (.lit (.int 9973))) (.bin .add (.bin .mul (.lit (.int 3)) (.var 1)) (.lit (.int 1)))))) .nop) .nop) (.seq (.retV 2) .nop))))
noncomputable def fL_cell:Fi:=⟨2,3,Yg,a4⟩
noncomputable def Wt:Sx:=(.seq (.set 2 (.lit (.str "mdkbvqhzcgrnapxolsiefwtyju"))) (.seq (.set 3 (.lst .nil)) (.seq (.mov 4 0) (.seq (.loop [5] (.range (.cons (.bin .mul (.var 1) (.blt .int (.cons (.cmp .ge (.var 0) (.bin .pow (.lit (.int 10)) (.lit (.int 18)))) .nil))) .nil)) (.seq (.set 6 (.bin .add (.lit (.int 1)) (.bin .mod (.var 4) (.lit (.int 8))))) (.seq (.set 4 (.bin .fdiv (.var 4) (.lit (.int 8)))) (.seq (.set 7 (.lit (.str ""))) (.seq (.loop [8] (.range (.cons (.var 6) .nil)) (.seq (.set 7 (.bin .add (.var 7) (.ix (.var 2) (.bin .mod (.var 4) (.lit (.int 26)))))) (.seq (.set 4 (.bin .fdiv (.var 4) (.lit (.int 26)))) .nop))) (.seq (.app 3 (.var 7)) .nop)))))) (.seq (.ife (.cmp .eq (.lset (.var 3)) (.var 1)) (.seq (.retV 3) .nop) .nop) (.seq (.ife (.cmp .lt (.bin .mod (.var 0) (.lit (.int 4))) (.lit (.int 2))) (.seq (.fgt 5) (.seq (.set 9 (.join "" (.comp [5] (.ix (.var 2) (.bin .mod (.bin .fdiv (.var 0) (.bin .add (.lit (.int 4)) (.bin .mul (.lit (.int 5)) (.var 5)))) (.lit (.int 26)))) (.range (.cons (.lit (.int 8)) .nil)) .nil))) (.seq (.set 10 (.bin .mod (.bin .fdiv (.var 0) (.lit (.int 8))) (.bin .sub (.lit (.int 9)) (.var 1)))) (.seq (.ife (.cmp .eq (.bin .mod (.var 0) (.lit (.int 4))) (.lit (.int 0))) (.seq (.fgt 5) (.seq (.ret (.comp [5] (.sl (.var 9) .nil (.cons (.bin .add (.bin .add (.var 10) (.var 5)) (.lit (.int 1))) .nil)) (.range (.cons (.var 1) .nil)) .nil)) .nop)) .nop) (.seq (.fgt 5) (.seq (.ret (.comp [5] (.sl (.var 9) (.cons (.bin .sub (.bin .sub (.bin .sub (.lit (.int 8)) (.var 10)) (.var 5)) (.lit (.int 1))) .nil) .nil) (.range (.cons (.var 1) .nil)) .nil)) .nop)))))) .nop) (.seq (.set 6 (.bin .mod (.bin .fdiv (.var 0) (.lit (.int 4))) (.lit (.int 8)))) (.seq (.fgt 5) (.seq (.set 11 (.join "" (.comp [5] (.ix (.var 2) (.bin .mod (.bin .add (.bin .add (.bin .fdiv (.var 0) (.lit (.int 32))) (.bin .mul (.bin .mul (.lit (.int 3)) (.var 5)) (.var 5))) (.var 5)) (.lit (.int 26)))) (.range (.cons (.var 6) .nil)) .nil))) (.seq (.set 12 (.bin .mod (.bin .fdiv (.var 0) (.lit (.int 512))) (.bin .add (.var 6) (.lit (.int 1))))) (.seq (.fgt 5) (.seq (.ret (.comp [5] (.bin .add (.bin .add (.sl (.var 11) .nil (.cons (.var 12) .nil)) (.ix (.var 2) (.bin .mod (.bin .add (.bin .fdiv (.var 0) (.lit (.int 9))) (.bin .mul (.lit (.int 7)) (.var 5))) (.lit (.int 26))))) (.sl (.var 11) (.cons (.var 12) .nil) .nil)) (.range (.cons (.var 1) .nil)) .nil)) .nop))))))))))))
noncomputable def Bq:Fi:=⟨2,13,Wt,a4⟩
noncomputable def W6:Sx:=(.seq (.set 3 (.comp [4] (.var 4) (.range (.cons (.blt .len (.cons (.var 0) .nil)) .nil)) (.cons (.cmp .eq (.bin .mod (.bin .fdiv (.var 2) (.bin .shl (.lit (.int 1)) (.var 4))) (.lit (.int 2))) (.lit (.int 1))) .nil))) (.seq (.set 5 (.blt .sum (.cons (.comp [4] (.bin .shl (.ix (.var 0) (.var 4)) (.var 4)) (.seq (.var 3)) .nil) .nil))) (.seq (.set 6 (.blt .sum (.cons (.comp [4,7] (.bin .shl (.var 7) (.var 4)) (.enum (.var 0)) .nil) .nil))) (.seq (.ife (.cmp .eq (.var 1) (.lit (.int 1))) (.seq (.ret (.blt .int (.cons (.cmp .gt (.blt .sum (.cons (.var 0) .nil)) (.bin .mod (.bin .fdiv (.var 2) (.lit (.int 64))) (.blt .len (.cons (.var 0) .nil)))) .nil))) .nop) .nop) (.seq (.ife (.cmp .eq (.var 1) (.lit (.int 2))) (.seq (.set 8 (.bin .mod (.bin .mul (.bin .add (.var 6) (.lit (.int 1))) (.bin .add (.lit (.int 1)) (.bin .mod (.var 2) (.lit (.int 1000003))))) (.lit (.int 2147483629)))) (.seq (.ret (.blt .int (.cons (.cmp .eq (.bin .mod (.bin .fdiv (.var 8) (.lit (.int 32))) (.lit (.int 5))) (.lit (.int 0))) .nil))) .nop)) .nop) (.seq (.ife (.cmp .eq (.var 1) (.lit (.int 3))) (.seq (.set 8 (.bin .mul (.bin .add (.bin .add (.bin .mul (.var 5) (.var 5)) (.bin .mul (.lit (.int 17)) (.var 5))) (.lit (.int 69621))) (.bin .add (.lit (.int 1)) (.bin .mod (.var 2) (.lit (.int 1000003)))))) (.seq (.ret (.bin .mod (.bin .fdiv (.bin .mod (.var 8) (.lit (.int 2147483647))) (.lit (.int 16))) (.lit (.int 2)))) .nop)) .nop) (.seq (.ife (.cmp .eq (.var 1) (.lit (.int 4))) (.seq (.ret (.bin .mod (.bin .add (.blt .sum (.cons (.comp [4] (.ix (.var 0) (.var 4)) (.seq (.var 3)) .nil) .nil)) (.bin .fdiv (.var 2) (.lit (.int 64)))) (.lit (.int 2)))) .nop) .nop) (.seq (.set 8 (.bin .mul (.bin .add (.bin .mul (.var 6) (.var 6)) (.lit (.int 48271))) (.bin .add (.bin .add (.bin .mod (.var 2) (.lit (.int 1000003))) (.var 6)) (.lit (.int 1))))) (.seq (.ret (.bin .mod (.bin .fdiv (.bin .mod (.var 8) (.lit (.int 2147483647))) (.lit (.int 64))) (.lit (.int 2)))) .nop)))))))))
noncomputable def fL_bit:Fi:=⟨3,9,W6,a4⟩
noncomputable def Vu:Sx:=(.seq (.set 3 (.bin .add (.lit (.int 1)) (.bin .mod (.call "_law_cell" (.cons (.var 0) (.cons (.var 1) .nil))) (.var 2)))) (.seq (.set 4 (.call "_law_words" (.cons (.call "_law_cell" (.cons (.var 0) (.cons (.bin .add (.var 1) (.lit (.int 1))) .nil))) (.cons (.var 3) .nil)))) (.seq (.set 5 (.bin .mod (.bin .fdiv (.call "_law_cell" (.cons (.var 0) (.cons (.var 1) .nil))) (.var 2)) (.lit (.int 5)))) (.seq (.set 6 (.call "_law_cell" (.cons (.var 0) (.cons (.bin .add (.var 1) (.lit (.int 2))) .nil)))) (.seq (.set 7 (.lst .nil)) (.seq (.loop [8] (.range (.cons (.bin .shl (.lit (.int 1)) (.var 3)) .nil)) (.seq (.set 9 (.comp [10] (.bin .mod (.bin .fdiv (.var 8) (.bin .shl (.lit (.int 1)) (.bin .sub (.bin .sub (.var 3) (.var 10)) (.lit (.int 1))))) (.lit (.int 2))) (.range (.cons (.var 3) .nil)) .nil)) (.seq (.app 7 (.ix (.lst (.cons (.call "_law_bit" (.cons (.var 9) (.cons (.var 5) (.cons (.var 6) .nil)))) (.cons (.bin .mod (.bin .fdiv (.var 6) (.bin .shl (.lit (.int 1)) (.var 8))) (.lit (.int 2))) .nil))) (.blt .int (.cons (.cmp .ge (.var 6) (.bin .pow (.lit (.int 10)) (.lit (.int 18)))) .nil)))) .nop))) (.seq (.ret (.tup (.cons (.blt .tuple (.cons (.var 4) .nil)) (.cons (.blt .tuple (.cons (.var 7) .nil)) .nil)))) .nop)))))))
noncomputable def Uq:Fi:=⟨3,11,Vu,a4⟩
noncomputable def Vi:Sx:=(.seq (.ife (.isi (.var 1) ["list","tuple"]) (.seq (.ife (.or (.cmp .ne (.isi (.var 0) ["list"]) (.isi (.var 1) ["list"])) (.not (.isi (.var 0) ["list","tuple"]))) (.seq (.ret (.lit (.bl a4))) .nop) .nop) (.seq (.set 2 (.comp [3] (.var 3) (.range (.cons (.blt .min (.cons (.blt .len (.cons (.var 0) .nil)) (.cons (.blt .len (.cons (.var 1) .nil)) .nil))) .nil)) (.cons (.not (.call "_law_same" (.cons (.ix (.var 0) (.var 3)) (.cons (.ix (.var 1) (.var 3)) .nil)))) .nil))) (.seq (.ret (.and (.cmp .eq (.blt .len (.cons (.var 0) .nil)) (.blt .len (.cons (.var 1) .nil))) (.cmp .eq (.var 2) (.lst .nil)))) .nop))) .nop) (.seq (.ife (.isN (.var 1)) (.seq (.ret (.isN (.var 0))) .nop) .nop) (.seq (.ife (.or (.cmp .ne (.isi (.var 0) ["bool"]) (.isi (.var 1) ["bool"])) (.cmp .ne (.isi (.var 0) ["str"]) (.isi (.var 1) ["str"]))) (.seq (.ret (.lit (.bl a4))) .nop) .nop) (.seq (.ret (.and (.isi (.var 0) ["int","str"]) (.cmp .eq (.var 0) (.var 1)))) .nop))))
noncomputable def fL_same:Fi:=⟨2,4,Vi,a4⟩
noncomputable def Ue:Sx:=(.seq (.set 1 (.lit (.int 1))) (.seq (.loop [2] (.range (.cons (.var 0) .nil)) (.seq (.set 1 (.bin .mul (.lit (.int 3)) (.var 1))) .nop)) (.seq (.retV 1) .nop)))
noncomputable def Rx:Fi:=⟨1,3,Ue,a4⟩
noncomputable def Uh:Sx:=(.seq (.set 2 (.lst .nil)) (.seq (.loop [3] (.range (.cons (.var 0) .nil)) (.seq (.set 2 (.bin .add (.lst (.cons (.bin .mod (.var 1) (.lit (.int 3))) .nil)) (.var 2))) (.seq (.set 1 (.bin .fdiv (.var 1) (.lit (.int 3)))) .nop))) (.seq (.retV 2) .nop)))
noncomputable def Rz:Fi:=⟨2,4,Uh,a4⟩
noncomputable def Wv:Sx:=(.seq (.set 2 (.call "_law_digits" (.cons (.var 0) (.cons (.var 1) .nil)))) (.seq (.set 3 (.lst .nil)) (.seq (.loop [4] (.range (.cons (.var 0) .nil)) (.seq (.ife (.cmp .eq (.ix (.var 2) (.var 4)) (.lit (.int 2))) (.seq (.set 5 (.call "_law_threes" (.cons (.bin .sub (.bin .sub (.var 0) (.lit (.int 1))) (.var 4)) .nil))) (.seq (.app 3 (.tup (.cons (.var 4) (.cons (.bin .sub (.var 1) (.bin .mul (.lit (.int 2)) (.var 5))) (.cons (.bin .sub (.var 1) (.var 5)) .nil))))) .nop)) .nop) .nop)) (.seq (.retV 3) .nop))))
noncomputable def Bs:Fi:=⟨2,6,Wv,a4⟩
noncomputable def O8:Sx:=(.seq (.set 1 (.blt .len (.cons (.ix (.var 0) (.lit (.int 0))) .nil))) (.seq (.set 2 (.lst .nil)) (.seq (.loop [3] (.range (.cons (.call "_law_threes" (.cons (.var 1) .nil)) .nil)) (.seq (.set 4 (.call "_law_steps" (.cons (.var 1) (.cons (.var 3) .nil)))) (.seq (.ife (.cmp .eq (.blt .len (.cons (.var 4) .nil)) (.lit (.int 0))) (.seq (.set 5 (.lit (.int 0))) (.seq (.loop [6] (.seq (.call "_law_digits" (.cons (.var 1) (.cons (.var 3) .nil)))) (.seq (.set 5 (.bin .add (.bin .mul (.lit (.int 2)) (.var 5)) (.var 6))) .nop)) (.seq (.app 2 (.tup (.cons (.ix (.ix (.var 0) (.lit (.int 1))) (.var 5)) (.cons (.lit (.int 1)) .nil)))) .nop))) (.seq (.set 7 (.ix (.var 2) (.ix (.ix (.var 4) (.lit (.int 0))) (.lit (.int 1))))) (.seq (.set 8 (.ix (.var 2) (.ix (.ix (.var 4) (.lit (.int 0))) (.lit (.int 2))))) (.seq (.app 2 (.tup (.cons (.bin .add (.ix (.var 7) (.lit (.int 0))) (.ix (.var 8) (.lit (.int 0)))) (.cons (.bin .add (.ix (.var 7) (.lit (.int 1))) (.ix (.var 8) (.lit (.int 1)))) .nil)))) .nop)))) .nop))) (.seq (.retV 2) .nop))))
noncomputable def Ck:Fi:=⟨1,9,O8,a4⟩
noncomputable def Yb:Sx:=(.seq (.ret (.chn (.lit (.int 0)) (.ix (.var 0) (.lit (.int 0))) (.ix (.var 0) (.lit (.int 1))))) .nop)
noncomputable def Wi:Fi:=⟨1,1,Yb,a4⟩
noncomputable def Ug:Sx:=(.seq (.ife (.cmp .eq (.bin .mod (.var 0) (.lit (.int 4))) (.lit (.int 0))) (.seq (.ret (.lit (.non))) .nop) .nop) (.seq (.set 2 (.bin .mod (.var 0) (.lit (.int 2147483647)))) (.seq (.set 3 (.bin .fdiv (.var 0) (.lit (.int 8)))) (.seq (.set 4 (.lst .nil)) (.seq (.loop [5] (.range (.cons (.var 1) .nil)) (.seq (.set 2 (.bin .mod (.bin .add (.bin .add (.bin .mul (.var 2) (.lit (.int 48271))) (.bin .mul (.lit (.int 13)) (.var 5))) (.lit (.int 5))) (.lit (.int 2147483647)))) (.seq (.app 4 (.ix (.lst (.cons (.bin .add (.lit (.int 1)) (.bin .mod (.bin .fdiv (.var 2) (.lit (.int 16))) (.lit (.int 5)))) (.cons (.bin .add (.lit (.int 1)) (.bin .mod (.bin .fdiv (.var 2) (.lit (.int 16))) (.bin .pow (.lit (.int 10)) (.lit (.int 6))))) .nil))) (.bin .mod (.bin .fdiv (.var 0) (.lit (.int 4))) (.lit (.int 2))))) (.seq (.ife (.cmp .ge (.var 0) (.bin .pow (.lit (.int 10)) (.lit (.int 18)))) (.seq (.put 4 (.var 5) (.bin .add (.lit (.int 1)) (.bin .mod (.var 3) (.bin .pow (.lit (.int 10)) (.lit (.int 6)))))) (.seq (.set 3 (.bin .fdiv (.var 3) (.bin .pow (.lit (.int 10)) (.lit (.int 6))))) .nop)) .nop) .nop)))) (.seq (.retV 4) .nop))))))
noncomputable def Ry:Fi:=⟨2,6,Ug,a4⟩
noncomputable def Wx:Sx:=(.seq (.ife (.isN (.var 0)) (.seq (.ret (.comp [2] (.lit (.int 1)) (.range (.cons (.var 1) .nil)) .nil)) .nop) .nop) (.seq (.retV 0) .nop))
noncomputable def Bu:Fi:=⟨2,3,Wx,a4⟩
noncomputable def Y9:Sx:=(.seq (.set 2 (.bin .mod (.var 0) (.lit (.int 2147483647)))) (.seq (.mov 3 0) (.seq (.set 4 (.lst .nil)) (.seq (.loop [5] (.range (.cons (.bin .shl (.lit (.int 1)) (.var 1)) .nil)) (.seq (.set 2 (.bin .mod (.bin .add (.bin .add (.bin .mul (.var 2) (.lit (.int 48271))) (.bin .mul (.lit (.int 17)) (.var 5))) (.lit (.int 3))) (.lit (.int 2147483647)))) (.seq (.app 4 (.ix (.lst (.cons (.bin .mod (.bin .fdiv (.var 2) (.lit (.int 16))) (.lit (.int 4))) (.cons (.bin .mod (.bin .fdiv (.var 2) (.lit (.int 16))) (.bin .add (.bin .pow (.lit (.int 10)) (.lit (.int 6))) (.lit (.int 1)))) (.cons (.lit (.int 1)) .nil)))) (.bin .mod (.var 0) (.lit (.int 3))))) (.seq (.ife (.cmp .ge (.var 0) (.bin .pow (.lit (.int 10)) (.lit (.int 18)))) (.seq (.put 4 (.var 5) (.bin .mod (.var 3) (.bin .add (.bin .pow (.lit (.int 10)) (.lit (.int 6))) (.lit (.int 1))))) (.seq (.set 3 (.bin .fdiv (.var 3) (.bin .add (.bin .pow (.lit (.int 10)) (.lit (.int 6))) (.lit (.int 1))))) .nop)) .nop) .nop)))) (.seq (.ife (.cmp .eq (.blt .sum (.cons (.var 4) .nil)) (.lit (.int 0))) (.seq (.put 4 (.bin .mod (.bin .fdiv (.var 0) (.lit (.int 3))) (.bin .shl (.lit (.int 1)) (.var 1))) (.lit (.int 1))) .nop) .nop) (.seq (.retV 4) .nop))))))
noncomputable def Wh:Fi:=⟨2,6,Y9,a4⟩
noncomputable def Ww:Sx:=(.seq (.ret (.comp [2] (.ix (.var 2) (.lit (.int 0))) (.seq (.call "_law_ones" (.cons (.tup (.cons (.ix (.var 0) (.lit (.int 0))) (.cons (.var 1) .nil))) .nil))) .nil)) .nop)
noncomputable def Bt:Fi:=⟨2,3,Ww,a4⟩
noncomputable def Wu:Sx:=(.seq (.set 3 (.blt .len (.cons (.ix (.var 0) (.lit (.int 0))) .nil))) (.seq (.set 4 (.call "_law_heavy" (.cons (.var 0) (.cons (.var 1) .nil)))) (.seq (.set 5 (.lst .nil)) (.seq (.loop [6,7] (.enum (.call "_law_ones" (.cons (.var 0) .nil))) (.seq (.set 8 (.lit (.int 0))) (.seq (.ife (.call "_law_is_open" (.cons (.var 7) .nil)) (.seq (.set 9 (.lst .nil)) (.seq (.loop [10,11,12,12] (.seq (.call "_law_steps" (.cons (.var 3) (.cons (.var 6) .nil)))) (.seq (.set 13 (.bin .mul (.ix (.var 2) (.var 10)) (.ix (.var 4) (.var 6)))) (.seq (.app 9 (.bin .add (.bin .add (.var 13) (.ix (.var 5) (.var 11))) (.ix (.var 5) (.var 12)))) .nop))) (.seq (.set 8 (.blt .min (.cons (.var 9) .nil))) .nop))) .nop) (.seq (.app 5 (.var 8)) .nop)))) (.seq (.retV 5) .nop)))))
noncomputable def Br:Fi:=⟨3,14,Wu,a4⟩
noncomputable def j45:Sx:=(.seq (.set 1 (.call "_law_question" (.cons (.var 0) (.cons (.lit (.int 0)) (.cons (.ix (.lst (.cons (.lit (.int 4)) (.cons (.lit (.int 4)) (.cons (.lit (.int 4)) (.cons (.lit (.int 4)) (.cons (.lit (.int 4)) (.cons (.lit (.int 4)) (.cons (.lit (.int 4)) (.cons (.lit (.int 5)) .nil))))))))) (.bin .mod (.call "_law_cell" (.cons (.var 0) (.cons (.lit (.int 39)) .nil))) (.lit (.int 8)))) .nil))))) (.seq (.set 2 (.blt .len (.cons (.ix (.var 1) (.lit (.int 0))) .nil))) (.seq (.set 3 (.call "_law_cell" (.cons (.var 0) (.cons (.lit (.int 3)) .nil)))) (.seq (.set 4 (.call "_law_prices" (.cons (.var 3) (.cons (.var 2) .nil)))) (.seq (.keep 4) (.seq (.set 5 (.call "_law_weights" (.cons (.call "_law_cell" (.cons (.var 0) (.cons (.lit (.int 4)) .nil))) (.cons (.var 2) .nil)))) (.seq (.keep 5) (.lent 6 (.call "_law_prices" (.cons (.var 3) (.cons (.var 2) .nil))) (.blt .list (.cons (.var 5) .nil)) (.seq (.set 7 (.blt .tuple (.cons (.call "_law_whole" (.cons (.var 1) (.cons (.var 5) (.cons (.call "_law_costs" (.cons (.var 4) (.cons (.var 2) .nil))) .nil)))) .nil))) (.seq (.ife (.and (.isN (.var 4)) (.cmp .eq (.bin .mod (.bin .fdiv (.var 3) (.lit (.int 4))) (.lit (.int 2))) (.lit (.int 1)))) (.seq (.set 8 (.callD "whole_table" (.cons (.var 1) (.cons (.ix (.var 6) (.lit (.int 1))) .nil)))) .nop) (.seq (.ife (.cmp .eq (.bin .mod (.bin .fdiv (.var 3) (.lit (.int 8))) (.lit (.int 2))) (.lit (.int 1))) (.seq (.set 8 (.callK "whole_table" (.cons (.var 1) (.cons (.ix (.var 6) (.lit (.int 1))) .nil)) (.ix (.var 6) (.lit (.int 0))))) .nop) (.seq (.set 8 (.call "whole_table" (.cons (.var 1) (.cons (.ix (.var 6) (.lit (.int 1))) (.cons (.ix (.var 6) (.lit (.int 0))) .nil))))) .nop)) .nop)) (.seq (.ife (.or (.not (.call "_law_same" (.cons (.var 8) (.cons (.var 7) .nil)))) (.cmp .ne (.var 6) (.lst (.cons (.var 4) (.cons (.var 5) .nil))))) .fail .nop) (.seq (.set 9 (.tup (.cons (.ix (.var 1) (.lit (.int 0))) (.cons (.blt .tuple (.cons (.comp [10] (.bin .sub (.lit (.int 1)) (.var 10)) (.seq (.ix (.var 1) (.lit (.int 1)))) .nil) .nil)) .nil)))) (.seq (.ife (.not (.call "_law_same" (.cons (.call "whole_table" (.cons (.var 9) (.cons (.var 5) (.cons (.var 4) .nil)))) (.cons (.var 7) .nil)))) .fail .nop) .nop))))) (.seq (.ret (.call "_law_same" (.cons (.call "whole_table" (.cons (.var 1) (.cons (.var 5) (.cons (.var 4) .nil)))) (.cons (.var 7) .nil)))) .nop)))))))))
noncomputable def j3s:Fi:=⟨1,11,j45,a4⟩
noncomputable def Q9:Ex:=(.ix (.call "cheapest_ask" (.cons (.var 1) (.cons (.var 2) (.cons (.var 0) .nil)))) (.lit (.int 0)))
noncomputable def Zn:Fi:=⟨3,3,.ret Q9,a5⟩
noncomputable def J0:Ex:=(.bin .add (.bin .mul (.ix (.var 1) (.var 4)) (.dget (.var 0) (.var 3))) (.blt .sum (.cons (.call "numbers_behind" (.cons (.var 2) (.cons (.var 3) (.cons (.var 4) .nil)))) .nil)))
noncomputable def Q6:Fi:=⟨5,5,.ret J0,a5⟩
noncomputable def tbl:List (ah×Fi):=("parts_of",Um)::("row_number",Y4)::("rows_in",fP_rows_in)::("parts_in",Uo)::("told_further",V2)::("refuse_wrong_size",Q8)::("all_choices",fP_all_choices)::("number_of",Yq)::("answer_to",Yr)::("settled_by",Y0)::("counted_in",Y5)::("all_open",Up)::("count_of_rows",Zq)::("prices_told",Ju)::("refuse_wrong_weights",Ja)::("all_between",Vg)::("least_table",Vf)::("least_numbers",Zo)::("numbers_within",Z8)::("cheapest_ask",V3)::("numbers_behind",Z9)::("whole_table",Ve)::("whole_cost_of_ask",Q7)::("weights_by_part",Qt)::("_law_cell",fL_cell)::("_law_words",Bq)::("_law_bit",fL_bit)::("_law_question",Uq)::("_law_same",fL_same)::("_law_threes",Rx)::("_law_digits",Rz)::("_law_steps",Bs)::("_law_ones",Ck)::("_law_is_open",Wi)::("_law_prices",Ry)::("_law_costs",Bu)::("_law_weights",Wh)::("_law_heavy",Bt)::("_law_whole",Br)::("law",j3s)::("least_numbers.<locals>.<lambda>",Zn)::("whole_cost_of_ask.<locals>.<lambda>",Q6)::[]
noncomputable def T(x:ah):Option Fi:=tbl.lookup x
noncomputable def gs:List (ah×D):=[("FEWEST_PLACES",.int 1),("MOST_PLACES",.int 6),("ANSWERS",.tup [.int 0,.int 1]),("NOT_TOLD",.int 2),("TELLINGS",.tup [.int 0,.int 1,.int 2]),("LEAST_PRICE",.int 1),("LEAST_WEIGHT",.int 0),("GREATEST_NUMBER",.int 1000000)]
noncomputable def xs:List (ah×List D):=[]
noncomputable def qs:List ah:=[]
noncomputable abbrev G:ah->Option D:=Gof gs a4 xs qs
end K30
end
section
open PySem PySem.Spec PyProof.Rows L2
local macro_rules | `(tactic| walk_at "vis")=>`(tactic| first | exact Or.inl rfl | exact Or.inr (Or.inl rfl) | exact Or.inr (Or.inr rfl))
local macro_rules | `(tactic| walk_at "loc")=>`(tactic| first | exact Or.inl rfl | exact Or.inr rfl)
local macro_rules | `(tactic| walk_at "cap")=>`(tactic| repeat (first | exact rfl | refine ⟨_,_,rfl,by rfl,by rfl,by rfl,by rfl,?_⟩))
local macro_rules | `(tactic| walk_at "ts")=>`(tactic| first
 |exact Tr.int|exact Tr.bl|exact Tr.non|exact Tr.str
 |exact Tr.var (by rfl) (by walk_at "vis") (by decide) (by decide)|exact Tr.glob (by rfl) (by decide) (by decide)
 |refine Tr.bin ?_ ?_|refine Tr.cmp (by rfl) ?_ ?_|refine Tr.bcmp (by rfl) ?_ ?_|refine Tr.isN ?_|refine Tr.bisN ?_|refine Tr.isNN ?_|refine Tr.bisNN ?_
 |refine Tr.and ?_ ?_|refine Tr.or ?_ ?_|refine Tr.one ?_|refine Tr.not ?_
 |refine Tr.wand ?_ ?_|refine Tr.wor ?_ ?_|refine Tr.wand1 ?_|refine Tr.wor1 ?_|refine Tr.bw ?_|refine Tr.bnot ?_
 |refine Tr.ite ?_ ?_ ?_|exact Tr.nil|refine Tr.cons (by rfl) ?_ ?_|refine Tr.tup ?_|refine Tr.lst ?_
 |refine Tr.ix (by intro _ _;rfl) ?_ ?_|exact Tr.oN|refine Tr.oS ?_|refine Tr.sl ?_ ?_ ?_
 |refine Tr.chn (by with_unfolding_all rfl) ?_ ?_ ?_|refine Tr.bchn (by with_unfolding_all rfl) ?_ ?_ ?_
 |refine Tr.callK (by decide) (by rfl) (by decide) (by rfl) (by rfl) (by rfl) (by rfl) ?_ ?_|refine Tr.callD (by decide) (by rfl) (by decide) (by rfl) (by rfl) ?_
 |refine Tr.call (by rfl) (by decide) (by rfl) (by rfl) ?_
 |refine Tr.callV (by rfl) (by walk_at "vis") (by decide) (by decide) (by rfl) (by rfl) ?_|refine Tr.dget (by intro _ _;rfl) ?_ ?_|refine Tr.dvals (by rfl) (by rfl) (by rfl) (by rfl) (by rfl) ?_|refine Tr.minT (by rfl) (by rfl) (by rfl) ?_
 |refine Tr.min1 (by rfl) (by rfl) ?_
 |refine Tr.lset (by rfl) (by rfl) (by rfl) (by rfl) (by rfl) ?_|refine Tr.len (by rfl) ?_|refine Tr.all (by rfl) (by rfl) ?_|refine Tr.tuple (by rfl) ?_|refine Tr.list (by rfl) ?_|refine Tr.min (by rfl) (by rfl) ?_
 |refine Tr.sum (by rfl) (by rfl) ?_|refine Tr.intc (by rfl) ?_|refine Tr.join (by rfl) (by rfl) (by rfl) (by rfl) ?_|refine Tr.lset (by rfl) (by rfl) (by rfl) (by rfl) (by rfl) ?_|refine Tr.enum (by rfl) (by rfl) ?_
 |refine Tr.count (by rfl) (by rfl) (by rfl) ?_ ?_
 |refine Tr.isi1 (by decide) (by decide +kernel) (by rfl) (by rfl) (by decide) (by decide) (by rfl) ?_
 |refine Tr.isi2 (by decide) (by decide) (by decide +kernel) (by decide +kernel) (by rfl) (by rfl) (by rfl) (by decide) (by decide) (by decide) (by decide) (by rfl) ?_
 |exact Tr.c0|refine Tr.c1 ?_
 |refine Tr.comp1 (by rfl) (by rfl) (by rfl) (by rfl) (by rfl) (by intro _;rfl) ?_ ?_ ?_
 |refine Tr.comp2 (by rfl) (by decide) (by rfl) (by rfl) (by rfl) (by rfl) (by rfl) (by rfl) (by intro _;rfl) ?_ ?_ ?_
 |refine Tr.seq ?_|refine Tr.range (by rfl) ?_
 |refine Tr.bval (by intro _;rfl) ?_
 |refine Ts.wmake (by rfl) (by rfl) (by rfl) (by walk_at "loc") (by walk_at "loc") (by exact aV rfl) (by exact aV rfl) (by decide) (by decide) (by decide) (by decide) (by rfl) (by rfl) (by intro _;rfl) ?_ ?_
 |refine Ts.nmake (by rfl) (by rfl) (by rfl) (by rfl) (by walk_at "loc") (by walk_at "loc") (by walk_at "loc") (by exact aV rfl) (by exact aV rfl) (by exact aV rfl) (by decide) (by decide) (by decide) (by decide) (by rfl) (by rfl) (by rfl) (by intro _;rfl) ?_ ?_ ?_
 |exact Ts.retL (by decide) (by rfl) (by rfl) (by rfl) (Eq.trans (by assumption) rfl) (by rfl) (by decide +kernel) (by walk_at "cap")
 |refine Ts.retC (by decide) (by rfl) (by rfl) (by rfl) (Eq.trans (by assumption) rfl) (by rfl) (by decide +kernel) (by walk_at "cap") (by rfl) (by decide) (by rfl) (by rfl) (by rfl) (by rfl) ?_ ?_
 |refine' Ts.lent (by rfl) (by walk_at "loc") (by walk_at "vis") (by exact aV rfl) (by decide) (by decide) (by rfl) (by rfl) (by rfl) ?_ ?_ ?_ ?_ ?_|refine TMt.set (by rfl) (by walk_at "loc") (by rfl) (by exact aV rfl) ?_ ?_|refine TMt.ife ?_ ?_ ?_ ?_|exact TMt.nil|exact TMs.nil|exact TMs.fail|refine TMs.set (by rfl) (by walk_at "loc") (by rfl) (by exact aV rfl) ?_ ?_|refine TMs.ife ?_ ?_ ?_ ?_|exact⟨rfl,rfl,rfl,λ_ _=>rfl⟩
 |exact Ts.nil|refine Ts.fgt ?_|refine Ts.keep ?_|refine Ts.cons ?_ ?_|exact Ts.pass|exact Ts.doc|exact Ts.fail
 |exact Ts.mov (by rfl) (by rfl) (by walk_at "loc") (by exact aV rfl) (by walk_at "vis") (by decide) (by decide)
 |refine Ts.setC1 (by rfl) (by rfl) (by walk_at "loc") (by exact aV rfl) (by rfl) (by rfl) (by rfl) (by rfl) (by rfl) (by intro _;rfl) ?_ ?_ ?_
 |refine Ts.setC2 (by rfl) (by rfl) (by walk_at "loc") (by exact aV rfl) (by rfl) (by decide) (by rfl) (by rfl) (by rfl) (by rfl) (by rfl) (by rfl) (by intro _;rfl) ?_ ?_ ?_
 |refine Ts.set (by rfl) (by walk_at "loc") (by rfl) (by exact aV rfl) ?_
 |exact Ts.retV (by rfl) (by walk_at "vis") (by decide) (by decide)|refine Ts.ret ?_
 |refine Ts.ife ?_ ?_ ?_|refine Ts.for1 (by rfl) (by rfl) (by walk_at "loc") (by exact aV rfl) (by intro _;rfl) ?_ ?_
 |refine Ts.for2 (by rfl) (by decide) (by rfl) (by rfl) (by walk_at "loc") (by walk_at "loc") (by exact aV rfl) (by exact aV rfl) (by intro _;rfl) ?_ ?_
 |refine Ts.for3f (by rfl) (by rfl) (by rfl) (by rfl) (by walk_at "loc") (by walk_at "loc") (by walk_at "loc") (by exact aV rfl) (by exact aV rfl) (by exact aV rfl) (by intro _;rfl) ?_ ?_
 |refine Ts.app (by rfl) (by walk_at "vis") (by decide) (by decide) (by rfl) (by rfl) (by rfl) (by rfl) ?_
 |refine Ts.ext (by rfl) (by walk_at "vis") (by decide) (by decide) (by rfl) (by rfl) (by rfl) (by rfl) ?_
 |refine Ts.put (by rfl) (by walk_at "vis") (by decide) (by decide) (by intro _;rfl) (by rfl) (by rfl) ?_ ?_
 |refine Ts.expr (by rfl) ?_
 |intro C s H fp pn
 |intro pn xe)
local macro_rules | `(tactic| walk_at "bnd")=>`(tactic| (intro _ _ _ _ _ _ us hl; first | (obtain ⟨_,e⟩:=us1 hl; subst e; rfl) | (obtain ⟨_,_,e⟩:=us2 hl; subst e; rfl) | (obtain ⟨_,_,_,e⟩:=us3 hl; subst e; rfl)))
local macro_rules | `(tactic| walk_at "bnk")=>`(tactic| (intro _ _ _ _ _ _ _ _ _ _ hK td; refine ⟨fun us hl=>?_,fun us hl=>?_,fun us v hl=>?_⟩; (first | (obtain ⟨_,_,e⟩:=us2 hl; subst e; exact PySem.W.binds_K hK rfl td rfl rfl rfl) | (obtain ⟨_,_,_,e⟩:=us3 hl; subst e; exact PySem.W.binds_K hK rfl td rfl rfl rfl)); (first | (obtain ⟨_,_,e⟩:=us2 (Nat.succ.inj hl); subst e; exact PySem.W.binds_K hK rfl td rfl rfl rfl) | (obtain ⟨_,_,_,e⟩:=us3 (Nat.succ.inj hl); subst e; exact PySem.W.binds_K hK rfl td rfl rfl rfl)); (first | (obtain ⟨_,_,e⟩:=us2 (Nat.succ.inj hl); subst e; exact PySem.W.binds_K hK rfl td rfl rfl rfl) | (obtain ⟨_,_,_,e⟩:=us3 (Nat.succ.inj hl); subst e; exact PySem.W.binds_K hK rfl td rfl rfl rfl))))
local macro_rules | `(tactic| walk_at "sc")=>`(tactic| exact ⟨rfl,rfl,rfl,by decide +kernel,rfl,by decide +kernel,by decide +kernel⟩)
local macro_rules | `(tactic| walk_at "lk")=>`(tactic| first | walk_at "sc" | walk_at "bnd" | decide)
local macro_rules | `(tactic| walk_at "scl")=>`(tactic| exact ⟨rfl,rfl,rfl,by decide +kernel,rfl,by decide +kernel,by decide +kernel,by decide +kernel,jcr⟩)
local macro_rules | `(tactic| walk_at "bndl")=>`(tactic| (intro _ _ _ _ us hl; first | (obtain ⟨_,_,e⟩:=us2 hl; subst e; rfl) | (obtain ⟨_,_,_,e⟩:=us3 hl; subst e; rfl)))
namespace K30
section
variable{P:au}{w:az}{K:k8d}{mg:k8g}{base:aD}
theorem Eb:TrT P w K mg base "parts_of" ["many"] (top 12) Vr:=by
 intro f cdv A outer s H E xe;unfold Vr
 repeat' (walk_at "ts")
theorem Dn:TrT P w K mg base "row_number" ["row"] (top 13) Zj:=by
 intro f cdv A outer s H E xe;unfold Zj
 repeat' (walk_at "ts")
theorem j19:TrT P w K mg base "rows_in" ["part","told"] (top 14) Z3:=by
 intro f cdv A outer s H E xe;unfold Z3
 repeat' (walk_at "ts")
theorem Ec:TrT P w K mg base "parts_in" ["part","told"] (top 15) Vs:=by
 intro f cdv A outer s H E xe;unfold Vs
 repeat' (walk_at "ts")
theorem Ou:TrT P w K mg base "told_further" ["part","spot","answer"] (top 16) Qh:=by
 intro f cdv A outer s H E xe;unfold Qh
 repeat' (walk_at "ts")
theorem Uu:TrT P w K mg base "refuse_wrong_size" ["many"] (top 17) J3:=by
 intro f cdv A outer s H E xe;unfold J3
 repeat' (walk_at "ts")
theorem Nh:TrT P w K mg base "all_choices" ["figures_by_spot","chosen","figures","longer","ahead","figure"] (top 18) J6:=by
 intro f cdv A outer s H E xe;unfold J6
 repeat' (walk_at "ts")
theorem Kr:TrT P w K mg base "number_of" ["figures","base","number","figure"] (top 19) V6:=by
 intro f cdv A outer s H E xe;unfold V6
 repeat' (walk_at "ts")
theorem Ks:TrT P w K mg base "answer_to" ["question","row"] (top 21) V7:=by
 intro f cdv A outer s H E xe;unfold V7
 repeat' (walk_at "ts")
theorem Dm:TrT P w K mg base "settled_by" ["question","part","counted"] (top 22) Zi:=by
 intro f cdv A outer s H E xe;unfold Zi
 repeat' (walk_at "ts")
theorem Do:TrT P w K mg base "counted_in" ["question","part","answers","row"] (top 23) Zk:=by
 intro f cdv A outer s H E xe;unfold Zk
 repeat' (walk_at "ts")
theorem Ed:TrT P w K mg base "all_open" ["question"] (top 24) Vt:=by
 intro f cdv A outer s H E xe;unfold Vt
 repeat' (walk_at "ts")
theorem Od:TrT P w K mg base "count_of_rows" ["many"] (top 25) Qc:=by
 intro f cdv A outer s H E xe;unfold Qc
 repeat' (walk_at "ts")
theorem Nf:TrT P w K mg base "prices_told" ["many","prices"] (top 30) Jy:=by
 intro f cdv A outer s H E xe;unfold Jy
 repeat' (walk_at "ts")
theorem Yi:TrT P w K mg base "refuse_wrong_weights" ["weights","many"] (top 31) v6:=by
 intro f cdv A outer s H E xe;unfold v6
 repeat' (walk_at "ts")
theorem Ni:TrT P w K mg base "all_between" ["numbers","least","number"] (top 32) Z5:=by
 intro f cdv A outer s H E xe;unfold Z5
 repeat' (walk_at "ts")
theorem Ng:TrT P w K mg base "least_table" ["question","cost_of_ask"] (top 34) Z4:=by
 intro f cdv A outer s H E xe;unfold Z4
 repeat' (walk_at "ts")
theorem Oc (hl:Qz K "least_numbers" = Bl (jt (top 35))):TrT P w K mg base "least_numbers" ["whole_part","question","cost_of_ask"] (top 35) Qa:=by
 intro f cdv A outer s H E xe;unfold Qa
 repeat' (walk_at "ts")
theorem Ra:TrT P w K mg base "numbers_within" ["whole_part","question","number_unsettled","numbers","part","settled"] (top 36) Jo:=by
 intro f cdv A outer s H E xe;unfold Jo
 repeat' (walk_at "ts")
theorem Ov:TrT P w K mg base "cheapest_ask" ["numbers","part","cost_of_ask","spot","told"] (top 37) Qi:=by
 intro f cdv A outer s H E xe;unfold Qi
 repeat' (walk_at "ts")
theorem Rb:TrT P w K mg base "numbers_behind" ["numbers","part","spot","answer"] (top 38) Jp:=by
 intro f cdv A outer s H E xe;unfold Jp
 repeat' (walk_at "ts")
theorem Nb:TrT P w K mg base "whole_table" ["question","weights","prices"] (top 40) Z2:=by
 intro f cdv A outer s H E xe;unfold Z2
 repeat' (walk_at "ts")
theorem Ut (hl:Qz K "whole_cost_of_ask" = Bl (jt (top 41))):TrT P w K mg base "whole_cost_of_ask" ["question","weights","prices","many","price_at","weight_of"] (top 41) J2:=by
 intro f cdv A outer s H E xe;unfold J2
 repeat' (walk_at "ts")
theorem R9:TrT P w K mg base "weights_by_part" ["many","weights","weight_of","part","row"] (top 42) Jj:=by
 intro f cdv A outer s H E xe;unfold Jj
 repeat' (walk_at "ts")
theorem j7i:TrT P w K mg base "_law_cell" ["_law_script","_law_k","_law_spare"] (top 44) Yg:=by
 intro f cdv A outer s H E xe;unfold Yg
 repeat' (walk_at "ts")
theorem j4j:TrT P w K mg base "_law_words" ["_law_cell_here","_law_many","_law_letters","_law_names","_law_rest","_law_k","_law_size","_law_name","_law_turn","_law_long","_law_start","_law_stem","_law_at"] (top 45) Wt:=by
 intro f cdv A outer s H E xe;unfold Wt
 repeat' (walk_at "ts")
theorem jbc:TrT P w K mg base "_law_bit" ["_law_row","_law_kind","_law_cell_here","_law_some","_law_k","_law_kept","_law_by_row","_law_one","_law_mixed"] (top 46) W6:=by
 intro f cdv A outer s H E xe;unfold W6
 repeat' (walk_at "ts")
theorem Ef:TrT P w K mg base "_law_question" ["_law_script","_law_at","_law_most","_law_many","_law_places","_law_kind","_law_cell_here","_law_answers","_law_number","_law_row","_law_k"] (top 47) Vu:=by
 intro f cdv A outer s H E xe;unfold Vu
 repeat' (walk_at "ts")
theorem j7g:TrT P w K mg base "_law_same" ["_law_found","_law_due","_law_unlike","_law_k"] (top 48) Vi:=by
 intro f cdv A outer s H E xe;unfold Vi
 repeat' (walk_at "ts")
theorem j37:TrT P w K mg base "_law_threes" ["_law_many","_law_power","_law_k"] (top 49) Ue:=by
 intro f cdv A outer s H E xe;unfold Ue
 repeat' (walk_at "ts")
theorem j39:TrT P w K mg base "_law_digits" ["_law_many","_law_index","_law_digits_here","_law_k"] (top 50) Uh:=by
 intro f cdv A outer s H E xe;unfold Uh
 repeat' (walk_at "ts")
theorem j4l:TrT P w K mg base "_law_steps" ["_law_many","_law_index","_law_digits_here","_law_steps_here","_law_k","_law_power"] (top 51) Wv:=by
 intro f cdv A outer s H E xe;unfold Wv
 repeat' (walk_at "ts")
theorem j7h:TrT P w K mg base "_law_ones" ["_law_question_here","_law_many","_law_found","_law_index","_law_steps_here","_law_number","_law_digit","_law_if_no","_law_if_yes"] (top 52) O8:=by
 intro f cdv A outer s H E xe;unfold O8
 repeat' (walk_at "ts")
theorem j1b:TrT P w K mg base "_law_is_open" ["_law_counts"] (top 53) Yb:=by
 intro f cdv A outer s H E xe;unfold Yb
 repeat' (walk_at "ts")
theorem j38:TrT P w K mg base "_law_prices" ["_law_cell_here","_law_many","_law_draw","_law_left","_law_fees","_law_k"] (top 54) Ug:=by
 intro f cdv A outer s H E xe;unfold Ug
 repeat' (walk_at "ts")
theorem j4n:TrT P w K mg base "_law_costs" ["_law_fees","_law_many","_law_k"] (top 55) Wx:=by
 intro f cdv A outer s H E xe;unfold Wx
 repeat' (walk_at "ts")
theorem j1a:TrT P w K mg base "_law_weights" ["_law_cell_here","_law_many","_law_draw","_law_left","_law_weights_here","_law_k"] (top 56) Y9:=by
 intro f cdv A outer s H E xe;unfold Y9
 repeat' (walk_at "ts")
theorem j4m:TrT P w K mg base "_law_heavy" ["_law_question_here","_law_weights_here","_law_counts"] (top 57) Ww:=by
 intro f cdv A outer s H E xe;unfold Ww
 repeat' (walk_at "ts")
theorem j4k:TrT P w K mg base "_law_whole" ["_law_question_here","_law_weights_here","_law_costs_here","_law_many","_law_heavy_here","_law_table","_law_index","_law_counts","_law_number","_law_some","_law_k","_law_one","_law_two","_law_paid"] (top 58) Wu:=by
 intro f cdv A outer s H E xe;unfold Wu
 repeat' (walk_at "ts")
theorem jad:TrT P w K mg base "law" ["_law_script","_law_question_here","_law_many","_law_cell_here","_law_fees","_law_weights_here","_law_handed","_law_due","_law_found","_law_other","_law_answer"] (top 59) j45:=by
 intro f cdv A outer s H E xe;unfold j45
 repeat' (walk_at "ts")
theorem Oe:TrL P w K mg base "least_numbers" ["cost_of_ask","numbers","part"] (lamT (top 35)) Q9:=by
 intro a c cl A outer s H;unfold Q9
 repeat' (walk_at "ts")
theorem Uv:TrL P w K mg base "whole_cost_of_ask" ["weight_of","price_at","numbers","part","spot"] (lamT (top 41)) J0:=by
 intro a c cl A outer s H;unfold J0
 repeat' (walk_at "ts")
end
set_option maxHeartbeats 0 in
theorem head {l:df} {w:az} {K:k8d} {h:aD} {mg:k8g} {fa:aa} (X:K.In h) (Gn:h.Ns aq mg) (hfa:mg "law" = a3 (.ref fa))
  (h0:Lf K "parts_of" (top 12))
  (h1:Lf K "row_number" (top 13))
  (h2:Lf K "rows_in" (top 14))
  (h3:Lf K "parts_in" (top 15))
  (h4:Lf K "told_further" (top 16))
  (h5:Lf K "refuse_wrong_size" (top 17))
  (h6:Lf K "all_choices" (top 18))
  (h7:Lf K "number_of" (top 19))
  (h8:Lf K "answer_to" (top 21))
  (h9:Lf K "settled_by" (top 22))
  (h10:Lf K "counted_in" (top 23))
  (h11:Lf K "all_open" (top 24))
  (h12:Lf K "count_of_rows" (top 25))
  (h13:Lf K "prices_told" (top 30))
  (h14:Lf K "refuse_wrong_weights" (top 31))
  (h15:Lf K "all_between" (top 32))
  (h16:Lf K "least_table" (top 34))
  (h17:Lf K "least_numbers" (top 35))
  (h18:Lf K "numbers_within" (top 36))
  (h19:Lf K "cheapest_ask" (top 37))
  (h20:Lf K "numbers_behind" (top 38))
  (h21:Lfd K "whole_table" (top 40))
  (h22:Lf K "whole_cost_of_ask" (top 41))
  (h23:Lf K "weights_by_part" (top 42))
  (h24:Lf K "_law_cell" (top 44))
  (h25:Lf K "_law_words" (top 45))
  (h26:Lf K "_law_bit" (top 46))
  (h27:Lf K "_law_question" (top 47))
  (h28:Lf K "_law_same" (top 48))
  (h29:Lf K "_law_threes" (top 49))
  (h30:Lf K "_law_digits" (top 50))
  (h31:Lf K "_law_steps" (top 51))
  (h32:Lf K "_law_ones" (top 52))
  (h33:Lf K "_law_is_open" (top 53))
  (h34:Lf K "_law_prices" (top 54))
  (h35:Lf K "_law_costs" (top 55))
  (h36:Lf K "_law_weights" (top 56))
  (h37:Lf K "_law_heavy" (top 57))
  (h38:Lf K "_law_whole" (top 58))
  (h39:Lf K "law" (top 59))
  (bz:bOk K=a5) {ts:List aa} (tz:tOk K ts=a5)
  {gt0:gL} {gt1:gL} {gt3:gL} {gt4:gL} {ga2:aa} {ga2n:Nat} {ga2s:Array (Option a9)} {gt5:gL} {gt7:gL} {gt8:gL} {gt9:gL} {ga6:aa} {ga6n:Nat} {ga6s:Array (Option a9)} {gt10:gL} {gt11:gL} {gt12:gL}
  (gn0:bG K aq "FEWEST_PLACES" = a3 (a3 (.int 1 gt0))) (gn1:bG K aq "MOST_PLACES" = a3 (a3 (.int 6 gt1))) (ga2l:K.lookup ga2=a3 ⟨.type "tuple",a6,.seq #[.int 0 gt3,.int 1 gt4] ga2n,ga2s⟩) (gn2:bG K aq "ANSWERS" = a3 (a3 (.ref ga2))) (gn3:bG K aq "NOT_TOLD" = a3 (a3 (.int 2 gt5))) (ga6l:K.lookup ga6=a3 ⟨.type "tuple",a6,.seq #[.int 0 gt7,.int 1 gt8,.int 2 gt9] ga6n,ga6s⟩) (gn4:bG K aq "TELLINGS" = a3 (a3 (.ref ga6))) (gn5:bG K aq "LEAST_PRICE" = a3 (a3 (.int 1 gt10))) (gn6:bG K aq "LEAST_WEIGHT" = a3 (a3 (.int 0 gt11))) (gn7:bG K aq "GREATEST_NUMBER" = a3 (a3 (.int 1000000 gt12)))
  (exa:Ip K=a5)
  {fu n:Nat} (hlaw:∀ns:List Int,ns.length<=63->evP fu G T (n+1) "law" [.lst (ns.map D.int)]=.val (.bl a5)) :
  ∃fd:aL,(∀(s:af)(v:a9),d9 s fd ⟨[v],[]⟩ [("_law_script",v)])/\∀base:aD,K.In base->base.Ns aq mg->FnOk l.prog w K mg base CX0 (lv (n+1)) fa fd ["_law_script"] (Ie K):=by
 have hL:=h39;obtain⟨f,oc,od,kV,dc,pm,an,cd,ct,sl,a,lk,c,k⟩:=hL;have e:=hfa.symm.trans (Tu X Gn a);cases e;refine⟨PySem.W.fnOf "law" "law" (v9 (top 59)) (jt (top 59)) (jb (top 59)) .none kV dc pm an cd ct,λs v=>.of_eq rfl,λbase hKb hNb=>?_⟩;have hT:∀x F,T x=a3 F->LkF l.prog w K mg base x F:=λx F hx=>by
  have all:∀p∈tbl,LkF l.prog w K mg base p.1 p.2:=by
   intro p hp;simp only[tbl,xq,fA,or_false]at hp;rcases hp with rfl|rfl|rfl|rfl|rfl|rfl|rfl|rfl|rfl|rfl|rfl|rfl|rfl|rfl|rfl|rfl|rfl|rfl|rfl|rfl|rfl|rfl|rfl|rfl|rfl|rfl|rfl|rfl|rfl|rfl|rfl|rfl|rfl|rfl|rfl|rfl|rfl|rfl|rfl|rfl|rfl|rfl
   .refine lkF (jy h0 X Gn Eb ["many"] ?_ rfl rfl ?_ ?_) rfl ?_<;>walk_at "lk"
   .refine lkF (jy h1 X Gn Dn ["row"] ?_ rfl rfl ?_ ?_) rfl ?_<;>walk_at "lk"
   .refine lkF (jy h2 X Gn j19 ["part"] ?_ rfl rfl ?_ ?_) rfl ?_<;>walk_at "lk"
   .refine lkF (jy h3 X Gn Ec ["part"] ?_ rfl rfl ?_ ?_) rfl ?_<;>walk_at "lk"
   .refine lkF (jy h4 X Gn Ou ["part","spot","answer"] ?_ rfl rfl ?_ ?_) rfl ?_<;>walk_at "lk"
   .refine lkF (jy h5 X Gn Uu ["many"] ?_ rfl rfl ?_ ?_) rfl ?_<;>walk_at "lk"
   .refine lkF (jy h6 X Gn Nh ["figures_by_spot"] ?_ rfl rfl ?_ ?_) rfl ?_<;>walk_at "lk"
   .refine lkF (jy h7 X Gn Kr ["figures","base"] ?_ rfl rfl ?_ ?_) rfl ?_<;>walk_at "lk"
   .refine lkF (jy h8 X Gn Ks ["question","row"] ?_ rfl rfl ?_ ?_) rfl ?_<;>walk_at "lk"
   .refine lkF (jy h9 X Gn Dm ["question","part"] ?_ rfl rfl ?_ ?_) rfl ?_<;>walk_at "lk"
   .refine lkF (jy h10 X Gn Do ["question","part"] ?_ rfl rfl ?_ ?_) rfl ?_<;>walk_at "lk"
   .refine lkF (jy h11 X Gn Ed ["question"] ?_ rfl rfl ?_ ?_) rfl ?_<;>walk_at "lk"
   .refine lkF (jy h12 X Gn Od ["many"] ?_ rfl rfl ?_ ?_) rfl ?_<;>walk_at "lk"
   .refine lkF (jy h13 X Gn Nf ["many","prices"] ?_ rfl rfl ?_ ?_) rfl ?_<;>walk_at "lk"
   .refine lkF (jy h14 X Gn Yi ["weights","many"] ?_ rfl rfl ?_ ?_) rfl ?_<;>walk_at "lk"
   .refine lkF (jy h15 X Gn Ni ["numbers","least"] ?_ rfl rfl ?_ ?_) rfl ?_<;>walk_at "lk"
   .refine lkF (jy h16 X Gn Ng ["question","cost_of_ask"] ?_ rfl rfl ?_ ?_) rfl ?_<;>walk_at "lk"
   .refine lkF (jy h17 X Gn (Oc (Wd h17)) ["whole_part","question","cost_of_ask"] ?_ rfl rfl ?_ ?_) rfl ?_<;>walk_at "lk"
   .refine lkF (jy h18 X Gn Ra ["whole_part","question","number_unsettled"] ?_ rfl rfl ?_ ?_) rfl ?_<;>walk_at "lk"
   .refine lkF (jy h19 X Gn Ov ["numbers","part","cost_of_ask"] ?_ rfl rfl ?_ ?_) rfl ?_<;>walk_at "lk"
   .refine lkF (jy h20 X Gn Rb ["numbers","part","spot"] ?_ rfl rfl ?_ ?_) rfl ?_<;>walk_at "lk"
   .exact lkF (jg5 h21 X Gn Nb ["question","weights","prices"] (by walk_at "sc") rfl rfl (by decide) (by walk_at "bnk")) rfl (by decide)
   .refine lkF (jy h22 X Gn (Ut (Wd h22)) ["question","weights","prices"] ?_ rfl rfl ?_ ?_) rfl ?_<;>walk_at "lk"
   .refine lkF (jy h23 X Gn R9 ["many","weights"] ?_ rfl rfl ?_ ?_) rfl ?_<;>walk_at "lk"
   .refine lkF (jy h24 X Gn j7i ["_law_script","_law_k"] ?_ rfl rfl ?_ ?_) rfl ?_<;>walk_at "lk"
   .refine lkF (jy h25 X Gn j4j ["_law_cell_here","_law_many"] ?_ rfl rfl ?_ ?_) rfl ?_<;>walk_at "lk"
   .refine lkF (jy h26 X Gn jbc ["_law_row","_law_kind","_law_cell_here"] ?_ rfl rfl ?_ ?_) rfl ?_<;>walk_at "lk"
   .refine lkF (jy h27 X Gn Ef ["_law_script","_law_at","_law_most"] ?_ rfl rfl ?_ ?_) rfl ?_<;>walk_at "lk"
   .refine lkF (jy h28 X Gn j7g ["_law_found","_law_due"] ?_ rfl rfl ?_ ?_) rfl ?_<;>walk_at "lk"
   .refine lkF (jy h29 X Gn j37 ["_law_many"] ?_ rfl rfl ?_ ?_) rfl ?_<;>walk_at "lk"
   .refine lkF (jy h30 X Gn j39 ["_law_many","_law_index"] ?_ rfl rfl ?_ ?_) rfl ?_<;>walk_at "lk"
   .refine lkF (jy h31 X Gn j4l ["_law_many","_law_index"] ?_ rfl rfl ?_ ?_) rfl ?_<;>walk_at "lk"
   .refine lkF (jy h32 X Gn j7h ["_law_question_here"] ?_ rfl rfl ?_ ?_) rfl ?_<;>walk_at "lk"
   .refine lkF (jy h33 X Gn j1b ["_law_counts"] ?_ rfl rfl ?_ ?_) rfl ?_<;>walk_at "lk"
   .refine lkF (jy h34 X Gn j38 ["_law_cell_here","_law_many"] ?_ rfl rfl ?_ ?_) rfl ?_<;>walk_at "lk"
   .refine lkF (jy h35 X Gn j4n ["_law_fees","_law_many"] ?_ rfl rfl ?_ ?_) rfl ?_<;>walk_at "lk"
   .refine lkF (jy h36 X Gn j1a ["_law_cell_here","_law_many"] ?_ rfl rfl ?_ ?_) rfl ?_<;>walk_at "lk"
   .refine lkF (jy h37 X Gn j4m ["_law_question_here","_law_weights_here"] ?_ rfl rfl ?_ ?_) rfl ?_<;>walk_at "lk"
   .refine lkF (jy h38 X Gn j4k ["_law_question_here","_law_weights_here","_law_costs_here"] ?_ rfl rfl ?_ ?_) rfl ?_<;>walk_at "lk"
   .refine lkF (jy h39 X Gn jad ["_law_script"] ?_ rfl rfl ?_ ?_) rfl ?_<;>walk_at "lk"
   .exact j5r (by decide +kernel) (Wd h17) rfl Oe ["numbers","part"] (by walk_at "scl") rfl rfl rfl rfl (by walk_at "bndl")
   .exact j5r (by decide +kernel) (Wd h22) rfl Uv ["numbers","part","spot"] (by walk_at "scl") rfl rfl rfl rfl (by walk_at "bndl")
  exact all (x,F) (lookup_mem hx)
 have bt:=jk0 X Gn bz;have gl:∀x d,gs.lookup x=a3 d->∃u v,mg x=a3 u/\RelV v u/\∀H,Enc K H d v:=by
  intro x d hx;have hm:=lookup_mem hx;simp only[gs,xq,fA,or_false,Prod.mk.injEq]at hm;rcases hm with ⟨e1,e2⟩|⟨e1,e2⟩|⟨e1,e2⟩|⟨e1,e2⟩|⟨e1,e2⟩|⟨e1,e2⟩|⟨e1,e2⟩|⟨e1,e2⟩
  .subst e1 e2;exact⟨.int 1 gt0,.int 1,Tu X Gn gn0,⟨_,rfl⟩,λ_=>rfl⟩
  .subst e1 e2;exact⟨.int 6 gt1,.int 6,Tu X Gn gn1,⟨_,rfl⟩,λ_=>rfl⟩
  .subst e1 e2;exact⟨.ref ga2,.ref ga2,Tu X Gn gn2,rfl,λH=>⟨ga2,[.int 0,.int 1],rfl,.inr ⟨_,_,_,ga2l,rfl,rfl,rfl,(by show 2<=ak;decide),(.cons ⟨_,rfl⟩ (.cons ⟨_,rfl⟩ .nil))⟩,⟨_,_,rfl,rfl,⟨_,_,rfl,rfl,rfl⟩⟩⟩⟩
  .subst e1 e2;exact⟨.int 2 gt5,.int 2,Tu X Gn gn3,⟨_,rfl⟩,λ_=>rfl⟩
  .subst e1 e2;exact⟨.ref ga6,.ref ga6,Tu X Gn gn4,rfl,λH=>⟨ga6,[.int 0,.int 1,.int 2],rfl,.inr ⟨_,_,_,ga6l,rfl,rfl,rfl,(by show 3<=ak;decide),(.cons ⟨_,rfl⟩ (.cons ⟨_,rfl⟩ (.cons ⟨_,rfl⟩ .nil)))⟩,⟨_,_,rfl,rfl,⟨_,_,rfl,rfl,⟨_,_,rfl,rfl,rfl⟩⟩⟩⟩⟩
  .subst e1 e2;exact⟨.int 1 gt10,.int 1,Tu X Gn gn5,⟨_,rfl⟩,λ_=>rfl⟩
  .subst e1 e2;exact⟨.int 0 gt11,.int 0,Tu X Gn gn6,⟨_,rfl⟩,λ_=>rfl⟩
  .subst e1 e2;exact⟨.int 1000000 gt12,.int 1000000,Tu X Gn gn7,⟨_,rfl⟩,λ_=>rfl⟩
 have qn:∀f∈qs,∃fa,mg f=a3 (.ref fa)/\PySem.W.keepIn K (.ref fa)=a5:=by exact λf hf=>nomatch hf
 have tb:Tb l.prog w K mg base G:=jik bt gl exa (λp hp=>nomatch hp) (λz=>by cases z) hKb hNb qn (λp hp=>nomatch hp) (jjb tz X Gn);exact jg6 hT tb (F:=j3s) (by rfl) rfl hfa (Ft lk c k) _ (by walk_at "sc") rfl rfl (jad _) hlaw
end K30
end
open PySem (Str sizeLine argBest)
open L2
namespace K30
open KL KW KV
theorem Il:T "_law_cell" = a3 KL.fL_cell:=by rfl
theorem jjs:T "_law_same" = a3 KL.fL_same:=by rfl
theorem Wf:T "all_choices" = a3 KL.fP_all_choices:=by rfl
theorem j2h:T "rows_in" = a3 KL.fP_rows_in:=by rfl
theorem jgq:T "_law_bit" = a3 KW.fL_bit:=by rfl
theorem gN:G "NOT_TOLD" = a3 (.int 2):=by rfl
theorem gA:G "ANSWERS" = a3 (.tup [.int 0,.int 1]):=by rfl
theorem gT:G "TELLINGS" = a3 (.tup [.int 0,.int 1,.int 2]):=by rfl
theorem Zr{b:Int}:∀{m i:Nat}{z:Int},i<m->(j6 b m z)[i]?=a3 (z/b^(m-1-i)%b)
 |m+1,0,z,_=>by rw[j6,List.getElem?_cons_zero];simp
 |m+1,i+1,z,h=>by rw[j6,dz,Zr nofun];congr 3;congr 1;omega
theorem j1g {fu n m:Nat} {z b:Int} (hm:m<=6) (hb:b=2\/b=3) (hz:0<=z/\z<b^m):evP fu G T (n+1) "number_of" [.tup ((j6 b m z).map .int),.int b]=.val (.int z):=by
 rw[jk (F:=Yq) (by rfl) rfl];simp only[Yq,V6,enter];ext;have z0:z/b^m=0:=Tc hz.1 hz.2;refine Yj (λi ρ=>∃s3,ρ=[.val (.tup ((j6 b m z).map .int)),.val (.int b),.val (.int (z/b^(m-i))),s3]) ⟨.un,by rw[i5,z0]⟩ ?_ ?_
 .rintro i d ρ hi ⟨s3,rfl⟩;obtain⟨v,hv,rfl⟩:=Wg hi;have hlt:i<m:=by have:=(X7.mp hv).1;rw[q9]at this;exact this
  rw[Zr hlt]at hv;cases hv;simp only[J5];ext;refine⟨_,rfl,?_⟩;have e1:m-i=(m-1-i)+1:=by omega
  have e2:m-(i+1)=m-1-i:=by omega
  have e3:z/b^(m-i)*b+z/b^(m-1-i)%b=z/b^(m-(i+1)):=by rw[e1,e2,<-Bw z b nofun,dM];exact iq _ _
  rw[e3];exact⟨_,rfl⟩
 .rintro ρ' ⟨s3,rfl⟩;ext;simp[q9]
theorem Rj {n m:Nat} {z:Int} (h:1<=m/\m<=6) (hz:0<=z/\z<2^m):evP 1000 G T (n+2) "row_number" [qg (j6 2 m z)]=.val (.int z):=by
 rw[jk (F:=Y4) (by rfl) rfl];simp only[Y4,Zj,enter];ext;simp only[gA];ext;have e:evP 1000 G T (n+1) "number_of" [qg (j6 2 m z),.int 2]=.val (.int z):=j1g h.2 (.inl rfl) hz;have e2:(((0+1+1:Nat):Int))=2:=rfl
 first|rw[e]|(rw[e2,e])
 ext
noncomputable def qD(ws:List ah)(a:List Int):D:=.tup [.tup (ws.map D.str),.tup (a.map D.int)]
theorem Rv{p:List Int}{k:Nat}(h:k<p.length):atI (p.map D.int) (k:Int)=a3 (.int (p.getD k 0)):=by
 have:=j2j h
 rwa [Td]at this
theorem j1s {n m k:Nat} {ws:List ah} {a:List Int} (hm:1<=m/\m<=6) (ha:a.length=2^m) (hk:k<2^m):evP 1000 G T (n+3) "answer_to" [qD ws a,qg (j6 2 m (k:Int))]=.val (.int (a.getD k 0)):=by
 rw[jk (F:=Yr) (by rfl) rfl];simp only[Yr,V7,enter,qD];have pc:((2^m:Nat):Int)=(2:Int)^m:=by simp
 have i1:atI [D.tup (ws.map D.str),.tup (a.map D.int)] 1=a3 (.tup (a.map D.int)):=rfl;ext;erw[i1,Rj (n:=n) hm nofun,Rv nofun]
theorem jhe{l:List D}{k:Nat}(h:k<=l.length):cutD l a6 (a3 (k:Int))=l.take k:=by unfold cutD;rw[HT.sIx_none,HT.sIx_nat,cX,i5,k0 h]
theorem jhd{l:List D}{k:Nat}(h:k<=l.length):cutD l (a3 (k:Int)) a6=l.drop k:=by unfold cutD;rw[HT.sIx_none,HT.sIx_nat,k0 h,t7 (by rw[Tw];omega)]
noncomputable def inL(p:List Int)(m:Nat):List Nat:=(aw (2^m)).filter λ(k:Nat)=>fits p (j6 2 m (k:Int))
noncomputable def cnt(a p:List Int)(m:Nat)(v:Int):Nat:=(inL p m).countP λ(k:Nat)=>a.getD k 0==v
theorem Yp{p:List Int}{m:Nat}(hp:p.length=m)(hp3:∀t∈p,0<=t/\t<3):ql (p.map Z7)=(inL p m).map λ(k:Nat)=>j6 2 m (k:Int):=by rw[Ji,<-Rw hp3,hp,<-Ey,jT];rfl
theorem j2g{p:List Int}{m:Nat}(hp:p.length=m)(hp3:∀t∈p,0<=t/\t<3):1<=(inL p m).length/\(inL p m).length<=2^m:=by
 have h1:=congrArg cG (Yp hp hp3);rw[Ji,Yl,kj]at h1;constructor
 .rw[<-h1];exact iZ
 .unfold inL;exact Xk (Tf _ _) (by rw[Xi];exact xx _)
theorem j2u{a:List Int}(h01:∀x∈a,x=0\/x=1):∀L:List Nat,(L.countP λ(k:Nat)=>a.getD k 0==0)+(L.countP λ(k:Nat)=>a.getD k 0==1)=L.length
 |[]=>rfl
 |k::L=>by
  have ih:=j2u h01 L;rw[Pq,Pq,X8]
  try dsimp only
  rcases Ir h01 k with e|e
  .rw[e,if_pos (by decide),if_neg (by decide)];omega
  .rw[e,if_neg (by decide),if_pos (by decide)];omega
theorem j0t {n m:Nat} {ws:List ah} {a p:List Int} (hm:1<=m/\m<=6) (ha:a.length=2^m) (hp:p.length=m) (hp3:∀t∈p,0<=t/\t<3):evP 1000 G T (n+4) "counted_in" [qD ws a,qg p]=.val (.tup [.int (cnt a p m 0),.int (cnt a p m 1)]):=by
 rw[jk (F:=Y5) (by rfl) rfl];simp only[Y5,Zk,enter];have ri:evP 1000 G T (n+3) "rows_in" [qg p]=.fresh (qj (ql (p.map Z7))):=Oh (n:=n+1) j2h Wf gN gA nofun
 have as1:∀k:Nat,k<2^m->evP 1000 G T (n+3) "answer_to" [qD ws a,qg (j6 2 m (k:Int))]=.val (.int (a.getD k 0)):=λk hk=>j1s hm ha hk;have l:=j2g hp hp3;have p2:=j02 hm.2;have pc:((2^m:Nat):Int)=(2:Int)^m:=by simp
 have cn:∀v:Int,(((inL p m).map λ(k:Nat)=>D.int (a.getD k 0)).countP λe=>deq e (.int v))=cnt a p m v:=λv=>by rw[jU];rfl
 have dp:D.depL ((inL p m).map λ(k:Nat)=>D.int (a.getD k 0))<=90:=by
  have:=D.depL_of (ds:=(inL p m).map λ(k:Nat)=>D.int (a.getD k 0)) (n:=0) λd hd=>by obtain⟨x,_,rfl⟩:=Xh.mp hd;simp[D.dep]
  omega
 ext;rw[ri,Yp hp hp3];ext;rw[qi (l:=(inL p m).map λ(k:Nat)=>D.int (a.getD k 0)) (by rfl) (by simp only[qj,kj];omega) ?_ (.inl rfl)];rotate_left
 .rw[qj,Xc];refine qe λk hk'=>zc (by ext) ?_;have hk:=Xd.mp (Xu.mp hk').1;ext;rw[cy,as1 k hk];ext
 ext;rw[j2t dp (by simp[D.dep]),j2t dp (by simp[D.dep]),cn,cn];ext
theorem Er {n m:Nat} {ws:List ah} {a p:List Int} (hm:1<=m/\m<=6) (ha:a.length=2^m) (hp:p.length=m) (hp3:∀t∈p,0<=t/\t<3):evP 1000 G T (n+5) "settled_by" [qD ws a,qg p]=.val (if cnt a p m 1=0 then .int 0 else if cnt a p m 0=0 then .int 1 else .non):=by
 rw[jk (F:=Y0) (by rfl) rfl];simp only[Y0,Zi,enter];have i0:∀x y:D,atI [x,y] 0=a3 x:=λ_ _=>rfl;have i1:∀x y:D,atI [x,y] 1=a3 y:=λ_ _=>rfl;have c:=j0t (n:=n) (ws:=ws) hm ha hp hp3;ext;rw[c];ext;rw[i1];by_cases h1:cnt a p m 1=0
 .ext;rw[if_pos h1]
 .rw[if_neg h1];ext;rw[i0];by_cases h0:cnt a p m 0=0
  .ext;rw[if_pos h0]
  .ext;rw[if_neg h0]
noncomputable def Es(c0 c1:Nat):D:=if c1=0 then .int 0 else if c0=0 then .int 1 else .non
theorem j4t {n m:Nat} {ws:List ah} {a p:List Int} (hm:1<=m/\m<=6) (ha:a.length=2^m) (hp:p.length=m) (hp3:∀t∈p,0<=t/\t<3):evP 1000 G T (n+5) "settled_by" [.tup [.tup (ws.map D.str),.tup (a.map D.int)],qg p]=.val (Es (cnt a p m 0) (cnt a p m 1)):=Er hm ha hp hp3
noncomputable def Vw(m:Nat):List (List Int):=(aw (3^m)).map λn=>j6 3 m ((n:Nat):Int)
theorem j1e(m:Nat):Vw (m+1)=(Vw m).map (0 :: ·)++(Vw m).map (1 :: ·)++(Vw m).map (2 :: ·):=by
 have e:3^(m+1)=3^m+3^m+3^m:=by rw[Tj];omega
 have pc:((3^m:Nat):Int)=(3:Int)^m:=by simp
 have hp:(3:Int)^m≠0:=fq (bO (by decide));have key:∀(c n:Nat),c<3->n<3^m->j6 3 (m+1) (((n:Nat):Int)+3^m*(c:Int))=(c:Int)::j6 3 m (n:Int):=λc n hc hn=>by
  rw[j6,Wm (by decide) _ _ (xx m)];congr 1;have h0:(n:Int)/3^m=0:=Tc nofun (by rw[<-pc];omega)
  rw[cD _ _ hp,h0,Td];omega
 unfold Vw;rw[e,fX,fX,Xf,Xf,Xc,Xc,Xc,Xc,Xc];congr 1
 .congr 1
  .apply tu;intro n hn;have:=key 0 n (by decide) (Xd.mp hn);simpa using this
  .apply tu;intro n hn;have:=key 1 n (by decide) (Xd.mp hn);show j6 3 (m+1) ((3^m+n:Nat):Int)=1::j6 3 m (n:Int);rw[show((3^m+n:Nat):Int)=(n:Int)+3^m*((1:Nat):Int)by rw[cO,pc];omega,this];rfl
 .apply tu;intro n hn;have:=key 2 n (by decide) (Xd.mp hn);show j6 3 (m+1) ((3^m+3^m+n:Nat):Int)=2::j6 3 m (n:Int);rw[show((3^m+3^m+n:Nat):Int)=(n:Int)+3^m*((2:Nat):Int)by rw[cO,cO,pc];omega,this];rfl
theorem Du{m:Nat}(h:m<=6):1<=3^m/\3^m<=729:=by
 have:m=0\/m=1\/m=2\/m=3\/m=4\/m=5\/m=6:=by omega
 rcases this with e|e|e|e|e|e|e<;>subst e<;>decide
theorem j67(p:List Int):Jh (p.map D.int)=(aw p.length).map λ(s:Nat)=>D.tup [.int (s:Int),.int (p.getD s 0)]:=by
 refine Tp λi=>?_;rw[K7,X3,X3];by_cases h:i<p.length
 .rw[Pj h,kh h];simp[h]
 .rw[Xp nofun,Xp (by simp;omega)];rfl
noncomputable def stD(a p:List Int)(m:Nat):D:=Es (cnt a p m 0) (cnt a p m 1)
theorem j88(c:Int):∃most:Nat,(most=4\/most=5)/\atI [D.int 4,.int 4,.int 4,.int 4,.int 4,.int 4,.int 4,.int 5] (c%8)=a3 (.int (most:Int)):=by
 have h1:=T8 c (show(8:Int)≠0 by decide);have h2:=sr c (show(0:Int)<8 by decide);have:c%8=0\/c%8=1\/c%8=2\/c%8=3\/c%8=4\/c%8=5\/c%8=6\/c%8=7:=by omega
 rcases this with e|e|e|e|e|e|e|e<;>rw[e]
 .exact⟨4,.inl rfl,rfl⟩
 .exact⟨4,.inl rfl,rfl⟩
 .exact⟨4,.inl rfl,rfl⟩
 .exact⟨4,.inl rfl,rfl⟩
 .exact⟨4,.inl rfl,rfl⟩
 .exact⟨4,.inl rfl,rfl⟩
 .exact⟨4,.inl rfl,rfl⟩
 .exact⟨5,.inr rfl,rfl⟩
theorem Li {n s:Nat} {p:List Int} {v:Int} (hl:p.length<=6) (hs:s<p.length) (h2:p.getD s 0=2):evP 1000 G T (n+1) "told_further" [qg p,.int s,.int v]=.val (qg (p.set s v)):=by
 rw[jk (F:=V2) (by rfl) rfl];simp only[V2,Qh,enter];have gi:=Rv hs;rw[h2]at gi;have lp:(p.map D.int).length=p.length:=kj ..;have w1:¬(HT.sIx (p.map D.int).length 0 a6=0/\HT.sIx (p.map D.int).length (p.map D.int).length (a3 (s:Int))=(p.map D.int).length):=by rw[HT.sIx_nat,lp];omega
 have e1:(s:Int)+1=((s+1:Nat):Int):=by omega
 have w2:¬(HT.sIx (p.map D.int).length 0 (a3 ((s+1:Nat):Int))=0/\HT.sIx (p.map D.int).length (p.map D.int).length a6=(p.map D.int).length):=by rw[HT.sIx_nat,lp];omega
 ext;rw[gi];ext;simp only[gN];ext;rw[j4p w1,e1,j4p w2,jhe nofun,jhd nofun];ext;rw[qg,fb,if_pos hs];simp
theorem Bp:∀{p r:List Int}{s:Nat}{x:Int},p.length=r.length->s<p.length->p.getD s 0=2->x≠2->fits (p.set s x) r=(fits p r&&decide (x=r.getD s 0))
 |[],_,s,x,_,hs,_,_=>by simp at hs
 |_::_,[],_,_,h,_,_,_=>by simp at h
 |t::ts,y::ys,0,x,h,_,h2,hx=>by
  have:t=2:=by simpa using h2
  subst this;simp only[Xx,fits,cM];by_cases e:x=y
  .subst e;simp[hx]
  .simp[hx,e]
 |t::ts,y::ys,s+1,x,h,hs,h2,hx=>by have ih:=Bp (p:=ts) (r:=ys) (s:=s) (x:=x) (by simpa using h) (by simpa using hs) (by simpa using h2) hx;simp only[Xr,fits,eK,ih,Bool.and_assoc]
theorem jeq{p:List Int}{m s:Nat}{v:Int}(hp:p.length=m)(hp3:∀t∈p,0<=t/\t<3)(hv:v=0\/v=1):(p.set s v).length=m/\∀t∈p.set s v,0<=t/\t<3:=by
 refine⟨by rw[Tg];exact hp,λt ht=>?_⟩;rcases gk ht with h|h
 .exact hp3 t h
 .rw[h];omega
theorem j2v{a p:List Int}{m:Nat}(h01:∀x∈a,x=0\/x=1)(hp:p.length=m)(hp3:∀t∈p,0<=t/\t<3):cnt a p m 0+cnt a p m 1=2^(p.countP λt=>t==2):=by have h:=j2u h01 (inL p m);have h1:=congrArg cG (Yp hp hp3);rw[Ji,Yl,kj]at h1;unfold cnt;omega
theorem Lq:∀{p:List Int},(p.countP λt=>t==2)=0->J9 (p.map Z7)=[p]
 |[],_=>rfl
 |t::ts,h=>by
  rw[Pq]at h;have h1:(ts.countP λt=>t==2)=0:=by omega
  have h2:t≠2:=λz=>by subst z;simp at h
  rw[xr,J9,Lq h1];simp[Z7,h2]
theorem j7j{p:List Int}{m:Nat}(hp:p.length=m)(hp3:∀t∈p,0<=t/\t<3)(h0:(p.countP λt=>t==2)=0):∃k:Nat,k<2^m/\p=j6 2 m (k:Int)/\inL p m=[k]:=by
 have h:=Yp hp hp3;rw[Ji,Lq h0]at h;cases e:inL p m with
 |nil=>rw[e]at h;cases h
 |cons k r =>
  rw[e]at h;cases r with
  |cons j r=>simp at h
  |nil =>
   simp only[xr,cu,List.cons.injEq,and_true]at h;have hk:k∈inL p m:=by rw[e];exact xm ..
   exact⟨k,Xd.mp (Xu.mp hk).1,h,rfl⟩
theorem K9{p:List Int}{s:Nat}{v:Int}(hs:s<p.length)(h2:p.getD s 0=2)(hv:v=0\/v=1):((p.set s v).countP λt=>t==2)+1=p.countP λt=>t==2:=by
 have g:p[s]=2:=by rw[km,kh hs]at h2;exact h2
 have e:p=p.take s++2::p.drop (s+1):=by have:=dQ s p;rw[T4 hs,g]at this;exact this.symm
 rw[fb,if_pos hs]
 conv=>rhs;rw[e]
 rw[iN,iN,Pq,Pq];have hv2:(v==2)=a4:=by rcases hv with h|h<;>subst h<;>rfl
 simp[hv2]
 try omega
noncomputable def qt(p:List Int)(m:Nat):List Nat:=(aw m).filter λ(k:Nat)=>decide (p.getD k 0=2)
theorem j06:∀(p:List Int),(qt p p.length).length=p.countP λt=>t==2:=by
 intro p;unfold qt;rw[<-List.countP_eq_length_filter];have:∀(p:List Int),(aw p.length).countP (λ(k:Nat)=>decide (p.getD k 0=2))=p.countP λt=>t==2:=by
  intro p;induction p with
  |nil=>rfl
  |cons t ts ih =>
   rw[X8,cq,Pq,jU,Pq,<-ih];congr 1
   try simp only[cM]
   try (by_cases h:t=2<;>simp[h])
 exact this p
noncomputable def vz(t:Int):List Int:=if t=2 then[0,1,2] else[t]
theorem j05 {n:Nat} {p:List Int} (hp:p.length<=6):evP 1000 G T (n+2) "parts_in" [qg p]=.fresh (qj (ql (p.map vz))):=by
 rw[jk (F:=Uo) (by rfl) rfl];simp only[Uo,Vs,enter];ext;rw[qi (l:=qj (p.map vz)) (by rfl) ?_ ?_ (.inl rfl)]
 .ext;rw[Yv Wf (λf hf=>by obtain⟨t,_,rfl⟩:=Xh.mp hf;unfold vz;split<;>simp) (by rw[kj];exact hp)];ext
 .rw[kj];omega
 .rw[qj,Xc];refine qe λt _=>zc (by ext) ?_;by_cases h:t=2
  .ext;simp only[gN];ext;simp only[gT];ext;simp[vz,h]
  .ext;simp only[gN];ext;simp[vz,h]
theorem j5h(m:Nat):ql ((ae m (2:Int)).map vz)=Vw m:=by
 rw[Ji];induction m with
 |zero=>rfl
 |succ k ih=>rw[Ph,xr,J9,ih,j1e];simp[vz]
theorem gF:G "FEWEST_PLACES" = a3 (.int 1):=by rfl
theorem gM:G "MOST_PLACES" = a3 (.int 6):=by rfl
theorem j50 {fu n:Nat} {m:Int} (h:1<=m/\m<=6):evP fu G T (n+1) "refuse_wrong_size" [.int m]=.val .non:=by rw[jk (F:=Q8) (by rfl) rfl];simp only[Q8,J3,enter];ext;simp only[gF];ext;simp only[gM];ext
theorem j1p{n s:Nat}{p:List Int}{ks:List (List Int)}{ns:List Int}{x y:Int}(hl:p.length<=6)(hs:s<p.length)(h2:p.getD s 0=2)(hx:zp ks (ns.map D.int) (p.set s 0)=a3 (.int x))(hy:zp ks (ns.map D.int) (p.set s 1)=a3 (.int y)) :
  evP 1000 G T (n+2) "numbers_behind" [.dct ks (ns.map D.int),qg p,.int s]=.fresh ([x,y].map D.int):=by
 have t0:=Li (n:=n) (v:=0) hl hs h2;have t1:=Li (n:=n) (v:=1) hl hs h2;simp only[qg]at t0 t1 ⊢;rw[jk (F:=Z9) (by rfl) rfl];simp only[Z9,Jp,enter];ext;simp only[gA];ext;rw[qi (l:=[x,y].map D.int) (by rfl) (by decide) ?_ (.inr (zr _))]
 .ext
 .rw[J1,zc (d':=.int x) (by ext) (by ext;rw[t0];ext;rw[Cp hx])];rw[J1,zc (d':=.int y) (by ext) (by ext;rw[t1];ext;rw[Cp hy])];rfl
theorem j1r(l:List (List Int))(h:∀k∈l,k.length=2):∀k,k<l.length->aU (Jm l) k<=k/\∀j,j<=k->(l.getD (aU (Jm l) k) []).getD 0 0<=(l.getD j []).getD 0 0:=by
 have two:∀i,i<l.length->∃a b,l.getD i []=[a,b]:=λi hi=>by
  have e:l.getD i []=l[i]:=by rw[km,kh hi];rfl
  have hm:=h _ (Xy hi);rw[e]
  match l[i],hm with|[a,b],_=>exact⟨a,b,rfl⟩
 intro k;induction k with
 |zero=>exact λ_=>⟨xx _,λj hj=>by rw[Nat.le_zero.mp hj];exact fN _⟩
 |succ k ih =>
  intro hk;obtain⟨h1,h2⟩:=ih nofun
  obtain⟨a,b,e1⟩:=two (k+1) hk;obtain⟨c,d,e2⟩:=two (aU (Jm l) k) nofun
  rw[aU];cases z:Jm l (k+1) (aU (Jm l) k) with
  |true =>
   rw[if_pos rfl];refine⟨xx _,λj hj=>?_⟩;have z:HT.lexLt (l.getD (k+1) []) (l.getD (aU (Jm l) k) [])=a5:=z;rw[e1,e2]at z;have z:a<=c:=by
    rw[HT.lexLt]at z;by_cases q:a=c
    .omega
    .rw[if_neg q]at z;have:=of_decide_eq_true z;omega
   rcases i6 j (k+1)with q|q
   .have:=h2 j nofun
    rw[e2]at this;rw[e1];exact Int.le_trans z this
   .rw[show j=k+1 by omega];exact fN _
  |false =>
   rw[if_neg xf];refine⟨by omega,λj hj=>?_⟩;have z:HT.lexLt (l.getD (k+1) []) (l.getD (aU (Jm l) k) [])=a4:=z;rw[e1,e2]at z;have z:c<=a:=by
    rw[HT.lexLt]at z;by_cases q:a=c
    .omega
    .rw[if_neg q]at z;have:=of_decide_eq_false z;omega
   rcases i6 j (k+1)with q|q
   .exact h2 j nofun
   .rw[show j=k+1 by omega,e1,e2];exact z
def Mg(pr:List Int):Prop:=∀s,s<pr.length->0<=pr.getD s 0/\pr.getD s 0<=1000000
theorem j6f{n s:Nat}{p pr:List Int}{ks wk:List (List Int)}{ns wv:List Int}{w x y:Int}(hw:Mg pr/\zp wk (wv.map D.int) p=a3 (.int w))(hl:p.length<=6)(hs:s<p.length)(hr:s<pr.length)(h2:p.getD s 0=2)(hx:zp ks (ns.map D.int) (p.set s 0)=a3 (.int x))(hy:zp ks (ns.map D.int) (p.set s 1)=a3 (.int y)) :
  evP 1000 G T (n+3) (jx "whole_cost_of_ask") [.dct wk (wv.map D.int),.lst (pr.map D.int),.dct ks (ns.map D.int),qg p,.int s]=.lval (.int (pr.getD s 0*w+(x+y))):=by
 have b:=j1p (n:=n) hl hs h2 hx hy;have g:=Rv hr;have hb:=hw.1 s hr;rw[j2m (F:=Q6) (by rfl) rfl];simp only[Q6,J0,enter];simp only[qg]at b ⊢;ext;rw[g,Cp hw.2,b];ext;rw[show([D.int x,D.int y]:List D)=[x,y].map D.int from rfl,jaf];ext;rw[show[x,y].sum=x+y by simp]
theorem W9:∀l:List Int,Jc (l.map D.int)=a5
 |[]=>rfl
 |_::l=>by rw[xr,Jc,W9 l];rfl
theorem Bj(ks:List (List Int))(ns:List Int):noFn (.dct ks (ns.map D.int))=a5:=by rw[noFn,W9]
theorem j0c(l:List Int):noFn (.tup (l.map D.int))=a5:=by rw[noFn,W9]
theorem at0(a b:D):atI [a,b] 0=a3 a:=rfl
theorem at1(a b:D):atI [a,b] 1=a3 b:=rfl
theorem Kz{n:Nat}{p pr:List Int}{ks:List (List Int)}{ns:List Int}{wk:List (List Int)}{wv:List Int}{w:Int}{V0 V1:Nat->Int}(hw:Mg pr/\zp wk (wv.map D.int) p=a3 (.int w))(hl:p.length<=6)(hr:pr.length=p.length)(ho:qt p p.length≠[])
  (hx:∀s,s<p.length->p.getD s 0=2->zp ks (ns.map D.int) (p.set s 0)=a3 (.int (V0 s))/\zp ks (ns.map D.int) (p.set s 1)=a3 (.int (V1 s))) :
  ∃s:Nat,s∈qt p p.length/\Qn ((qt p p.length).map λs=>pr.getD s 0*w+(V0 s+V1 s))=pr.getD s 0*w+(V0 s+V1 s)/\evP 1000 G T (n+4) "cheapest_ask" [.dct ks (ns.map D.int),qg p,.fn "whole_cost_of_ask" [.dct wk (wv.map D.int),.lst (pr.map D.int)]]=.val (.tup [.int (Qn ((qt p p.length).map λs=>pr.getD s 0*w+(V0 s+V1 s))),.int (s:Int)]):=by
 let kk:List (List Int):=(qt p p.length).map λ(s:Nat)=>[pr.getD s 0*w+(V0 s+V1 s),(s:Int)]
 have kl:kk.length=(qt p p.length).length:=kj ..;have kp:0<(qt p p.length).length:=List.length_pos_iff.mpr ho;obtain⟨b1,b2⟩:=j1r kk (λk hk=>by obtain⟨s,_,e⟩:=Xh.mp hk;rw[<-e];rfl) (kk.length-1) nofun
 have hi:aU (Jm kk) (kk.length-1)<kk.length:=by omega
 have hk:kk[aU (Jm kk) (kk.length-1)]?=a3 (kk.getD (aU (Jm kk) (kk.length-1)) []):=by rw[km,kh hi];rfl
 obtain⟨s0,hs0,e0⟩:=Xh.mp (Xm hk);have at':∀{t:Nat},t∈qt p p.length->t<p.length/\p.getD t 0=2:=λ{t} ht=>by obtain⟨h1,h2⟩:=Xu.mp ht;exact⟨Xd.mp h1,of_decide_eq_true h2⟩
 have mn:Qn ((qt p p.length).map λs=>pr.getD s 0*w+(V0 s+V1 s))=pr.getD s0 0*w+(V0 s0+V1 s0):=by
  refine j29 (Xh.mpr ⟨s0,hs0,rfl⟩) λc hc=>?_;obtain⟨t,ht,rfl⟩:=Xh.mp hc;obtain⟨j,hj,ej⟩:=Ti.mp ht;have q:=b2 j nofun
  rw[<-e0]at q;have e1:kk.getD j []=[pr.getD t 0*w+(V0 t+V1 t),(t:Int)]:=by rw[km,X3,kh hj,ej];rfl
  rw[e1]at q;exact q
 refine⟨s0,hs0,mn,?_⟩;rw[mn,jk (F:=V3) (by rfl) rfl];simp only[V3,Qi,enter,qg];ext;rw[qi (l:=kk.map λk=>D.tup (k.map D.int)) (by rfl) (by unfold Jh;rw[kj,cV,kj];omega) ?_ (.inl rfl)];rotate_left
 .rw[j67,Xc];refine R8 λs hs'=>?_;have hs:=Xd.mp hs';refine j7d ?_ λhb=>?_
  .ext;simp only[gN];ext;simp only[Cu];ext
  .have h2:p.getD s 0=2:=of_decide_eq_true hb;obtain⟨h0,h1⟩:=hx s hs h2;have c:=j6f (n:=n) (pr:=pr) hw hl hs nofun h2 h0 h1;simp only[qg]at c;ext;rw[j9r (by rw[Jc,Bj,Jc,j0c];rfl)];simp only[dA,cJ];rw[c];ext;rfl
 ext;rw[jcj hk,<-e0];ext
theorem j5w{n:Nat}{p pr:List Int}{ks:List (List Int)}{ns:List Int}{wk:List (List Int)}{wv:List Int}{w:Int}{V0 V1:Nat->Int}(hw:Mg pr/\zp wk (wv.map D.int) p=a3 (.int w))(hl:p.length<=6)(hr:pr.length=p.length)(ho:qt p p.length≠[])
  (hx:∀s,s<p.length->p.getD s 0=2->zp ks (ns.map D.int) (p.set s 0)=a3 (.int (V0 s))/\zp ks (ns.map D.int) (p.set s 1)=a3 (.int (V1 s))) :
  evP 1000 G T (n+5) (jx "least_numbers") [.fn "whole_cost_of_ask" [.dct wk (wv.map D.int),.lst (pr.map D.int)],.dct ks (ns.map D.int),qg p]=.lval (.int (Qn ((qt p p.length).map λs=>pr.getD s 0*w+(V0 s+V1 s)))):=by
 obtain⟨s,_,_,e⟩:=Kz (n:=n) hw hl hr ho hx;rw[j2m (F:=Zn) (by rfl) rfl];simp only[Zn,Q9,enter];ext;erw[e,at0]
noncomputable def qx:List Int->Int
 |[]=>0
 |d::ds=>d*3^ds.length+qx ds
theorem Us:∀{p:List Int},(∀t∈p,0<=t/\t<3)->0<=qx p/\qx p<3^p.length
 |[],_=>⟨by decide,by decide⟩
 |d::ds,h=>by
  obtain⟨h1,h2⟩:=Us (p:=ds) λt ht=>h t (xg _ ht);have hd:=h d xm;have hp:(0:Int)<3^ds.length:=bO (by decide);rw[qx,X8,i8];have:d=0\/d=1\/d=2:=by omega
  rcases this with e|e|e<;>subst e<;>exact⟨by omega,by omega⟩
theorem Bx:∀{p:List Int},(∀t∈p,0<=t/\t<3)->j6 3 p.length (qx p)=p
 |[],_=>rfl
 |d::ds,h=>by have h':∀t∈ds,0<=t/\t<3:=λt ht=>h t (xg _ ht);obtain⟨h1,h2⟩:=Us h';have hd:=h d xm;have hp:(3:Int)^ds.length≠0:=fq (bO (by decide));rw[qx,X8,show d*3^ds.length+qx ds=qx ds+3^ds.length*d by rw[dM,i9],j6,Wm (by decide) _ _ (xx _),Bx h'];congr 1;rw[cD _ _ hp,Tc h1 h2,Td];omega
theorem W7(i:Nat):∀m:Nat,qx (j6 3 m (i:Int))=((i%3^m:Nat):Int)
 |0=>by rw[Nat.pow_zero,Nat.mod_one];rfl
 |m+1=>by
  have pc:((3^m:Nat):Int)=(3:Int)^m:=by simp
  have e:((i/3^m%3:Nat):Int)=(i:Int)/3^m%3:=by rw[Int.natCast_emod,Int.natCast_ediv,pc];rfl
  rw[j6,qx,q9,W7 i m,Tj,Nat.mod_mul,cO,cN,e,pc,dM,i9]
theorem Dk:∀{p:List Int}{s:Nat}{c:Int},s<p.length->qx (p.set s c)=qx p+(c-p.getD s 0)*3^(p.length-1-s)
 |d::ds,0,c,_=>by rw[Xx,qx,qx,X8,cM,show ds.length+1-1-0=ds.length by omega,Int.sub_mul];omega
 |d::ds,s+1,c,h=>by have:=Dk (p:=ds) (s:=s) (c:=c) (by simpa using h);rw[Xr,qx,qx,Tg,X8,eK,this,show ds.length+1-1-(s+1)=ds.length-1-s by omega];omega
theorem Vb{m i s:Nat}{c:Nat}(hi:i<3^m)(hs:s<m)(h2:(j6 3 m (i:Int)).getD s 0=2)(hc:c=0\/c=1):(2-c)*3^(m-1-s)<=i/\(j6 3 m (i:Int)).set s (c:Int)=j6 3 m ((i-(2-c)*3^(m-1-s):Nat):Int):=by
 have hl:(j6 3 m (i:Int)).length=m:=q9 3 m _;have h3:∀t∈(j6 3 m (i:Int)).set s (c:Int),0<=t/\t<3:=(jeq hl (λt ht=>V4 (by decide) ht) nofun).2;have l2:((j6 3 m (i:Int)).set s (c:Int)).length=m:=by rw[Tg];exact hl
 have v:=Dk (p:=j6 3 m (i:Int)) (c:=(c:Int)) (hl▸hs);rw[W7,fK hi,h2,hl]at v;obtain⟨b1,b2⟩:=Us h3;have d:=Bx h3;rw[l2]at d;have pc:((3^(m-1-s):Nat):Int)=(3:Int)^(m-1-s):=by simp
 have le:(2-c)*3^(m-1-s)<=i:=by
  have:(((2-c)*3^(m-1-s):Nat):Int)=(2-(c:Int))*3^(m-1-s):=by rw[cN,pc];congr 1;omega
  have e2:((c:Int)-2)*3^(m-1-s) = -((2-(c:Int))*3^(m-1-s)):=by rw[<-lM];congr 1;omega
  omega
 refine⟨le,?_⟩;rw[<-d,v];congr 1;rw[Int.natCast_sub le,cN,pc];have e2:((c:Int)-2)*3^(m-1-s) = -((2-(c:Int))*3^(m-1-s)):=by rw[<-lM];congr 1;omega
 have e3:((2-c:Nat):Int)=2-(c:Int):=by omega
 rw[e2,e3];omega
noncomputable def stepV(pr:List Int)(wt:List Int->Int)(m:Nat)(t:List Int)(i:Nat):Int:=Qn ((qt (j6 3 m (i:Int)) m).map λs=>pr.getD s 0*wt (j6 3 m (i:Int))+(t.getD (i-2*3^(m-1-s)) 0+t.getD (i-1*3^(m-1-s)) 0))
noncomputable def v8(pr:List Int)(wt:List Int->Int)(m:Nat)(op:List Int->Bool):Nat->List Int
 |0=>[]
 |i+1=>v8 pr wt m op i++[if op (j6 3 m (i:Int))=a5 then stepV pr wt m (v8 pr wt m op i) i else 0]
theorem Zm(pr:List Int)(wt:List Int->Int)(m:Nat)(op:List Int->Bool):∀i,(v8 pr wt m op i).length=i
 |0=>rfl
 |i+1=>by rw[v8,Xb,Zm pr wt m op i];rfl
noncomputable def opB(a:List Int)(m:Nat)(p:List Int):Bool:=(stD a p m).isNon
theorem j27{a p:List Int}{m:Nat}(h01:∀x∈a,x=0\/x=1)(hp:p.length=m)(hp3:∀t∈p,0<=t/\t<3)(h:opB a m p=a5):qt p m≠[]:=λe=>by
 subst hp;have o:=j06 p;rw[e]at o;have c:=j2v (a:=a) h01 rfl hp3;rw[<-o]at c;unfold opB stD Es at h;have c:cnt a p p.length 0+cnt a p p.length 1=1:=c;split at h
 .cases h
 .split at h
  .cases h
  .omega
theorem gGN:G "GREATEST_NUMBER" = a3 (.int 1000000):=by rfl
theorem gLP:G "LEAST_PRICE" = a3 (.int 1):=by rfl
theorem gLW:G "LEAST_WEIGHT" = a3 (.int 0):=by rfl
noncomputable def btw(least x:Int):Bool:=decide (least<=x)&&decide (x<=1000000)
theorem M9 {n:Nat} {l:List Int} {least:Int} (hl:l.length<=1000):evP 1000 G T (n+1) "all_between" [.lst (l.map D.int),.int least]=.val (.bl (l.all (btw least))):=by
 rw[jk (F:=Vg) (by rfl) rfl];simp only[Vg,Z5,enter];ext;rw[qi (l:=(l.map (btw least)).map D.bl) (by rfl) (by rw[kj];omega) ?_ (.inl rfl)]
 .ext;rw[gP];rfl
 .rw[Xc];refine qe λx _=>zc (by ext) ?_;by_cases h1:least<=x
  .by_cases h2:x<=1000000
   .ext;simp only[gGN];ext;simp[btw,h1,h2]
   .ext;simp only[gGN];ext;simp[btw,h1,h2]
  .ext;simp[btw,h1]
theorem rep1(k:Nat):(ae k [D.int 1]).flatten=(ae k (1:Int)).map D.int:=by
 induction k with
 |zero=>rfl
 |succ k ih=>rw[Ph,T6,ih];rfl
theorem j51 {n m:Nat} (hm:m<=6):evP 1000 G T (n+1) "prices_told" [.int m,.non]=.fresh ((ae m (1:Int)).map D.int):=by rw[jk (F:=Ju) (by rfl) rfl];simp only[Ju,Jy,enter];ext;rw[X6,rep1]
theorem j7z {n m:Nat} {pr:List Int} (hl:pr.length=m) (hm:m<=6) (h:pr.all (btw 1)=a5):evP 1000 G T (n+2) "prices_told" [.int m,.lst (pr.map D.int)]=.fresh (pr.map D.int):=by rw[jk (F:=Ju) (by rfl) rfl];simp only[Ju,Jy,enter];ext;simp only[gLP];ext;rw[M9 nofun,h];ext
theorem ones{m:Nat}(hm:1<=m/\m<=6):ae ((m:Nat):Int).toNat (D.int 1)=(j6 2 m (2^m-1)).map D.int:=by
 rw[X6];obtain rfl|rfl|rfl|rfl|rfl|rfl:m=1\/m=2\/m=3\/m=4\/m=5\/m=6:=by omega
 all_goals rfl
theorem j3z {n m:Nat} (hm:1<=m/\m<=6):evP 1000 G T (n+3) "count_of_rows" [.int m]=.val (.int ((2^m:Nat):Int)):=by
 rw[jk (F:=Zq) (by rfl) rfl];simp only[Zq,Qc,enter];have pc:((2^m:Nat):Int)=(2:Int)^m:=by simp
 have p2:=j02 (m:=m) nofun
 ext;rw[ones hm,Rj (n:=n) nofun nofun];ext;rw[pc];congr 2;omega
theorem p64{m:Nat}(h:m<=6):2^m<=64:=eB (n:=2) (j:=6) (by decide) h
theorem jbz {n m:Nat} {wt:List Int} (hm:1<=m/\m<=6) (hl:wt.length=2^m) (ha:wt.all (btw 0)=a5) (hs:wt.sum≠0):evP 1000 G T (n+4) "refuse_wrong_weights" [.lst (wt.map D.int),.int m]=.val .non:=by
 rw[jk (F:=Ja) (by rfl) rfl];simp only[Ja,v6,enter];have p6:=p64 hm.2;have hl':wt.length<=1000:=by omega
 ext;rw[j3z hm];ext;simp only[gLW];ext;rw[M9 hl',ha];ext
theorem j15 {n m:Nat} {ws:List ah} {a:List Int} (hm:1<=m/\m<=6) (hw:ws.length=m):evP 1000 G T (n+1) "all_open" [qD ws a]=.val (qg (ae m 2)):=by
 rw[jk (F:=Up) (by rfl) rfl];simp only[Up,Vt,enter,qD];ext;simp only[gN];ext;rw[at0];ext;rw[hw]
 first|rfl|simp[qg]
noncomputable def tab(pr:List Int)(wt:List Int->Int)(a:List Int)(m:Nat):List Int:=v8 pr wt m (opB a m) (3^m)
noncomputable def prD(d:Option (List Int))(m:Nat):List Int:=d.getD (ae m 1)
noncomputable def feD(d:Option (List Int)):D:=match d with
 |none=>.non
 |some l=>.lst (l.map D.int)
theorem j90{l l':List Int}{j:Nat}(h:j<l.length):(l++l').getD j 0=l.getD j 0:=by rw[km,km,Pr h]
theorem Ow{wt:List Int->Int}{pr:List Int}{m:Nat}{op:List Int->Bool}{i j:Nat}(hj:j<i):∀{N:Nat},i<=N->(v8 pr wt m op N).getD j 0=(v8 pr wt m op i).getD j 0:=by
 intro N hN;induction N with
 |zero=>omega
 |succ N ih =>
  by_cases e:i=N+1
  .rw[e]
  .rw[v8,j90 (by rw[Zm];omega)];exact ih nofun
theorem j1v{wt:List Int->Int}{pr:List Int}{m:Nat}{op:List Int->Bool}{j N:Nat}(hN:N<=3^m)(h:j<N):(v8 pr wt m op N).getD j 0=if op (j6 3 m (j:Int))=a5 then stepV pr wt m (v8 pr wt m op N) j else 0:=by
 rw[Ow (i:=j+1) nofun nofun,v8,km,bM (by rw[Zm];exact xx _),Zm,fj];show(if _ then _ else _)=_;have e:stepV pr wt m (v8 pr wt m op j) j=stepV pr wt m (v8 pr wt m op N) j:=by unfold stepV;congr 1;apply tu;intro s hs;obtain⟨q1,q2⟩:=Xu.mp hs;have hs':=Xd.mp q1;have h2:(j6 3 m (j:Int)).getD s 0=2:=of_decide_eq_true q2;obtain⟨l0,_⟩:=Vb (c:=0) (by omega:j<3^m) hs' h2 (.inl rfl);obtain⟨l1,_⟩:=Vb (c:=1) (by omega:j<3^m) hs' h2 (.inr rfl);have w:0<3^(m-1-s):=f9 (by simp);rw[Ow (i:=j) (j:=j-2*3^(m-1-s)) (N:=N) nofun nofun,Ow (i:=j) (j:=j-1*3^(m-1-s)) (N:=N) nofun nofun]
 rw[e]
noncomputable def Zx(p:List Int):Nat:=p.countP λt=>t==2
noncomputable def Wp(pr:List Int)(wt:List Int->Int)(a:List Int)(m:Nat)(p:List Int):Int:=(tab pr wt a m).getD (qx p).toNat 0
theorem j3q{p:List Int}{m:Nat}(hp:p.length=m)(hp3:∀t∈p,0<=t/\t<3):(qx p).toNat<3^m/\p=j6 3 m ((qx p).toNat:Int):=by
 obtain⟨b1,b2⟩:=Us hp3;have pc:((3^m:Nat):Int)=(3:Int)^m:=by simp
 rw[hp,<-pc]at b2;refine⟨by omega,?_⟩;rw[iO b1,<-hp];exact(Bx hp3).symm
theorem jaz{wt:List Int->Int}{p pr a:List Int}{m s c:Nat}(hp:p.length=m)(hp3:∀t∈p,0<=t/\t<3)(hs:s<m)(h2:p.getD s 0=2)(hc:c=0\/c=1):Wp pr wt a m (p.set s (c:Int))=(tab pr wt a m).getD ((qx p).toNat-(2-c)*3^(m-1-s)) 0:=by obtain⟨h1,e⟩:=j3q hp hp3;have t:=Vb (m:=m) (i:=(qx p).toNat) (s:=s) (c:=c) h1 hs (by rw[<-e];exact h2) hc;rw[<-e]at t;unfold Wp;rw[t.2,W7,X6,fK nofun]
theorem jhx{wt:List Int->Int}{p pr a:List Int}{m:Nat}(hp:p.length=m)(hp3:∀t∈p,0<=t/\t<3)(ho:opB a m p=a5):Wp pr wt a m p=Qn ((qt p m).map λs=>pr.getD s 0*wt p+(Wp pr wt a m (p.set s 0)+Wp pr wt a m (p.set s 1))):=by obtain⟨h1,e⟩:=j3q hp hp3;have t:=j1v (pr:=pr) (wt:=wt) (op:=opB a m) (xx (3^m)) h1;rw[<-e,if_pos ho]at t;refine Eq.trans t ?_;unfold stepV;rw[<-e];congr 1;apply tu;intro s hs;obtain⟨q1,q2⟩:=Xu.mp hs;have hs':=Xd.mp q1;have h2:p.getD s 0=2:=of_decide_eq_true q2;have w0:=jaz (pr:=pr) (wt:=wt) (a:=a) (c:=0) hp hp3 hs' h2 (.inl rfl);have w1:=jaz (pr:=pr) (wt:=wt) (a:=a) (c:=1) hp hp3 hs' h2 (.inr rfl);have w0:Wp pr wt a m (p.set s 0)=_:=w0;have w1:Wp pr wt a m (p.set s 1)=_:=w1;rw[w0,w1];rfl
theorem ja9{wt:List Int->Int}{p pr a:List Int}{m:Nat}(hp:p.length=m)(hp3:∀t∈p,0<=t/\t<3)(ho:opB a m p=a4):Wp pr wt a m p=0:=by obtain⟨h1,e⟩:=j3q hp hp3;have t:=j1v (pr:=pr) (wt:=wt) (op:=opB a m) (xx (3^m)) h1;rw[<-e,ho,if_neg xf]at t;exact t
noncomputable def PK(p:List Int):List (List Int):=J9 (p.map vz)
theorem Vd{t:Int}{p q:List Int}:q∈PK (t::p) ↔ ∃x∈vz t,∃r∈PK p,q=x::r:=by
 unfold PK;rw[xr,J9,List.mem_flatMap];constructor
 .rintro⟨x,hx,h⟩;obtain⟨r,hr,e⟩:=Xh.mp h;exact⟨x,hx,r,hr,e.symm⟩
 .rintro⟨x,hx,r,hr,e⟩;exact⟨x,hx,Xh.mpr ⟨r,hr,e.symm⟩⟩
theorem j2l{t x:Int}(h:x∈vz t):(t=2/\(x=0\/x=1\/x=2))\/(t≠2/\x=t):=by
 unfold vz at h;split at h
 .rename_i e;simp only[xq,fA,or_false]at h;exact .inl ⟨e,h⟩
 .rename_i e;exact .inr ⟨e,xn.mp h⟩
theorem Ii:∀{p q:List Int},(∀t∈p,0<=t/\t<3)->q∈PK p->q.length=p.length/\∀t∈q,0<=t/\t<3
 |[],q,_,h=>by have e:q=[]:=xn.mp h;rw[e];exact⟨rfl,λt ht=>nomatch ht⟩
 |t::p,q,h3,h=>by
  obtain⟨x,hx,r,hr,e⟩:=Vd.mp h;obtain⟨h1,h2⟩:=Ii (λt ht=>h3 t (xg _ ht)) hr;have ht:=h3 t xm;subst e;refine⟨by rw[X8,X8,h1],λy hy=>?_⟩;rcases xq.mp hy with q|q
  .subst q;rcases j2l hx with ⟨_,z⟩|⟨_,z⟩<;>omega
  .exact h2 y q
theorem j54:∀{p q:List Int}{s:Nat}{c:Int},q∈PK p->q.getD s 0=2->(c=0\/c=1)->q.set s c∈PK p
 |[],q,s,c,h,h2,_=>by have e:q=[]:=xn.mp h;rw[e]at h2;simp at h2
 |t::p,q,s,c,h,h2,hc=>by
  obtain⟨x,hx,r,hr,e⟩:=Vd.mp h;subst e;cases s with
  |zero =>
   rw[cM]at h2;rw[Xx];refine Vd.mpr ⟨c,?_,r,hr,rfl⟩;rcases j2l hx with ⟨z,_⟩|⟨z,z2⟩
   .rw[z];unfold vz;rw[if_pos rfl];rcases hc with q|q<;>rw[q]<;>simp
   .exact absurd (z2▸h2) z
  |succ s =>rw[eK]at h2;rw[Xr];exact Vd.mpr ⟨x,hx,_,j54 hr h2 hc,rfl⟩
theorem Ro:∀{p:List Int},(∀t∈p,0<=t/\t<3)->(PK p).Pairwise λx y=>qx x<qx y
 |[],_=>List.pairwise_singleton _ _
 |t::p,h3=>by
  have h3':∀t∈p,0<=t/\t<3:=λt ht=>h3 t (xg _ ht);have ih:=Ro h3';have bd:∀r∈PK p,0<=qx r/\qx r<3^p.length/\r.length=p.length:=λr hr=>by obtain⟨h1,h2⟩:=Ii h3' hr;obtain⟨b1,b2⟩:=Us h2;rw[h1]at b2;exact⟨b1,b2,h1⟩
  have one:∀c:Int,((PK p).map (c :: ·)).Pairwise λx y=>qx x<qx y:=λc=>by rw[jv];refine ih.imp_of_mem λ{x y} hx hy h=>?_;rw[qx,qx,(bd x hx).2.2,(bd y hy).2.2];omega
  have two:∀{c d:Int},c<d->∀x∈(PK p).map (c :: ·),∀y∈(PK p).map (d :: ·),qx x<qx y:=λ{c d} hcd x hx y hy=>by
   obtain⟨r,hr,rfl⟩:=Xh.mp hx;obtain⟨r',hr',rfl⟩:=Xh.mp hy;obtain⟨b1,b2,b3⟩:=bd r hr;obtain⟨d1,d2,d3⟩:=bd r' hr';show c*3^r.length+qx r<d*3^r'.length+qx r';rw[b3,d3];have:c*3^p.length+3^p.length<=d*3^p.length:=by have h:=Int.mul_le_mul_of_nonneg_right (show c+1<=d by omega) (show(0:Int)<=3^p.length by exact kZ (bO (by decide)));rw[Int.add_mul,eC]at h;exact h
   omega
  by_cases e:t=2
  .have ek:PK (t::p)=(PK p).map (0 :: ·)++((PK p).map (1 :: ·)++(PK p).map (2 :: ·)):=by unfold PK;rw[xr,J9,e];simp[vz]
   rw[ek];refine List.pairwise_append.mpr ⟨one 0,List.pairwise_append.mpr ⟨one 1,one 2,two (by decide)⟩,λx hx y hy=>?_⟩;rcases pq.mp hy with q|q
   .exact two (by decide) x hx y q
   .exact two (by decide) x hx y q
  .have ek:PK (t::p)=(PK p).map (t :: ·):=by unfold PK;rw[xr,J9];simp[vz,e]
   rw[ek];exact one t
theorem j03{p:List Int}(h3:∀t∈p,0<=t/\t<3):(PK p).Nodup:=(Ro h3).imp λh e=>by rw[e]at h;omega
theorem j80{p r:List Int}{i:Nat}(h3:∀t∈p,0<=t/\t<3)(hi:i<(PK p).length)(hr:r∈PK p)(hv:qx r<qx (PK p)[i]):r∈(PK p).take i:=by
 obtain⟨j,hj,rfl⟩:=Ti.mp hr;have hs:=List.pairwise_iff_getElem.mp (Ro h3);have:j<i:=by
  rcases i6 j i with q|q
  .exact q
  .rcases Nat.eq_or_lt_of_le q with q|q
   .subst q;omega
   .have:=hs i j hi hj q;omega
 exact Ti.mpr ⟨j,by rw[Xo];omega,List.getElem_take⟩
theorem By{f:List Int->D}:∀{ks:List (List Int)} {q:List Int},q∈ks->zp ks (ks.map f) q=a3 (f q)
 |k::ks,q,h=>by
  rw[xr,zp];by_cases e:k=q
  .rw[if_pos e,e]
  .rw[if_neg e];exact By ((xq.mp h).resolve_left λz=>e z.symm)
theorem j04:∀{p:List Int},(PK p).length<=3^p.length
 |[]=>xx _
 |t::p=>by
  have ih:=j04 (p:=p);by_cases e:t=2
  .have ek:PK (t::p)=(PK p).map (0 :: ·)++((PK p).map (1 :: ·)++(PK p).map (2 :: ·)):=by unfold PK;rw[xr,J9,e];simp[vz]
   rw[ek,Xb,Xb,kj,kj,kj,X8,Tj];omega
  .have ek:PK (t::p)=(PK p).map (t :: ·):=by unfold PK;rw[xr,J9];simp[vz,e]
   rw[ek,kj,X8,Tj];omega
theorem j55:∀{m:Nat}{q:List Int},q.length=m->(∀t∈q,0<=t/\t<3)->q∈PK (ae m 2)
 |0,q,h,_=>by rw[List.length_eq_zero_iff.mp h];exact xn.mpr rfl
 |m+1,[],h,_=>by cases h
 |m+1,x::q,h,h3=>by
  have hx:=h3 x xm;refine Vd.mpr ⟨x,?_,q,j55 (by simpa using h) (λt ht=>h3 t (xg _ ht)),rfl⟩;have:x=0\/x=1\/x=2:=by omega
  unfold vz;rw[if_pos rfl];rcases this with e|e|e<;>rw[e]<;>simp
theorem jhb{f:List Int->Int}{p:List Int}{m:Nat}(hp:p.length=m)(hp3:∀t∈p,0<=t/\t<3):zp (PK (ae m 2)) (((PK (ae m 2)).map f).map D.int) p=a3 (.int (f p)):=by rw[Xc];exact By (f:=λq=>D.int (f q)) (j55 hp hp3)
theorem j5m{f1 f2:En->Option D}{A B C:D}{L:List (List Int)}{W:List Int->Int}{op:List Int->Bool}(hm:L.length<=1000000)(nd:L.Nodup)
  (h1:∀(q:List Int)(s5:Sv),q∈L->f1 [.val A,.val B,.val C,.un,.val (.tup (q.map D.int)),s5]=a3 (.bl (!op q)))
  (h2:∀(i:Nat)(hi:i<L.length),f2 [.val A,.val B,.val C,.val (.dct (L.take i) (((L.take i).map W).map D.int)),.val (.tup (L[i].map D.int)),.val (.bl (!op L[i]))]=a3 (.int (W L[i]))) :
  ∀(r i:Nat)(s4 s5:Sv),i+r=L.length->Vp f1 f2 3 4 5 (qj (L.drop i)) [.val A,.val B,.val C,.un,s4,s5] (L.take i) ((L.take i).map W)=a3 (L,L.map W):=by
 intro r;induction r with
 |zero =>intro i s4 s5 e;rw[kY]at e;rw[gO nofun,t7 nofun];rfl
 |succ r ih =>
  intro i s4 s5 e;have hi:i<L.length:=by omega
  have ed:L.drop i=L[i]::L.drop (i+1):=T4 hi;have et:L.take (i+1)=L.take i++[L[i]]:=by rw[Tq,kh hi];rfl
  have nc:(L.take i).contains L[i]=a4:=by
   have nd:=nd;rw[<-dQ i L,ed]at nd;have:=(List.nodup_append.mp nd).2.2;cases z:(L.take i).contains L[i] with
   |false=>rfl
   |true=>exact absurd rfl (this _ (by simpa using z) _ xm)
  have ll:(L.take i).length<ak:=lt_size (by rw[Xo];omega);have g:=ih (i+1) (.val (.tup (L[i].map D.int))) (.val (.bl (!op L[i]))) nofun
  rw[et,Xf,xr,cu]at g;rw[ed,qj,xr,<-qj,Vp];simp only[qg,Jg,Xx,Xr,h1 _ _ (Xy hi),h2 i hi];rw[if_pos ⟨nc,ll⟩];exact g
theorem j32{wt:List Int->Int}{wk:List (List Int)}{wv:List Int}{n m:Nat}{ws:List ah}{a pr p:List Int}(hw:ws.length=m)(hm:1<=m/\m<=6)(ha:a.length=2^m)(h01:∀x∈a,x=0\/x=1)(hr:pr.length=m)(hp:p.length=m)(hp3:∀t∈p,0<=t/\t<3)(hW:∀q:List Int,q.length=m->(∀t∈q,0<=t/\t<3)->Mg pr/\zp wk (wv.map D.int) q=a3 (.int (wt q))) :
  evP 1000 G T (n+6) "numbers_within" [qg p,qD ws a,.fn "least_numbers" [.fn "whole_cost_of_ask" [.dct wk (wv.map D.int),.lst (pr.map D.int)]]]=.val (.dct (PK p) (((PK p).map (Wp pr wt a m)).map D.int)):=by
 rw[jk (F:=Z8) (by rfl) rfl];simp only[Z8,Jo,enter];have pk:evP 1000 G T (n+5) "parts_in" [qg p]=.fresh (qj (PK p)):=by rw[j05 (n:=n+3) nofun,Ji];rfl
 have p3:=Du hm.2;have pl:=j04 (p:=p);rw[hp]at pl;have pok:∀q∈PK p,q.length=m/\∀t∈q,0<=t/\t<3:=λq hq=>by rw[<-hp];exact Ii hp3 hq
 have hd:=j5m (f1:=λρ=>stOf (ev (evP 1000 G T (n+5)) G (.not (.isN (.call "settled_by" (.cons (.var 1) (.cons (.var 4) .nil))))) ρ))
  (f2:=λρ=>stOf (ev (evP 1000 G T (n+5)) G (.ite (.var 5) (.lit (.int 0)) (.callV 2 (.cons (.var 3) (.cons (.var 4) .nil)))) ρ))
  (A:=qg p) (B:=qD ws a) (C:=.fn "least_numbers" [.fn "whole_cost_of_ask" [.dct wk (wv.map D.int),.lst (pr.map D.int)]]) (L:=PK p) (W:=Wp pr wt a m) (op:=opB a m) nofun (j03 hp3)
  (λq s5 hq=>by
   have sp:evP 1000 G T (n+5) "settled_by" [.tup [.tup (ws.map D.str),.tup (a.map D.int)],qg q]=.val (stD a q m):=j4t (n:=n) hm ha (pok q hq).1 (pok q hq).2
   simp only[qg]at sp
   simp only[qD]
   ext
   rw[sp]
   ext
   simp only[opB])
  (λi hi=>by
   have hq:=Xy hi
   obtain⟨q1,q2⟩:=pok _ hq
   cases z:opB a m (PK p)[i] with
   |false =>
    simp only[Bool.not_false]
    ext
    rw[ja9 q1 q2 z]
   |true =>
    simp only[Bool.not_true]
    have sub:∀(s:Nat)(c:Int),s<(PK p)[i].length->(PK p)[i].getD s 0=2->(c=0\/c=1)->zp ((PK p).take i) (((((PK p).take i).map (Wp pr wt a m))).map D.int) ((PK p)[i].set s c)=a3 (.int (Wp pr wt a m ((PK p)[i].set s c))):=λs c hs h2 hc=>by
     rw[Xc]
     refine By (f:=λq=>D.int (Wp pr wt a m q)) (j80 hp3 hi (j54 hq h2 hc) ?_)
     rw[Dk hs,h2]
     have:(0:Int)<3^((PK p)[i].length-1-s):=bO (by decide)
     rcases hc with e|e<;>subst e<;>omega
    have L:=j5w (n:=n) (p:=(PK p)[i]) (pr:=pr) (ks:=(PK p).take i) (ns:=((PK p).take i).map (Wp pr wt a m)) (V0:=λs=>Wp pr wt a m ((PK p)[i].set s 0)) (V1:=λs=>Wp pr wt a m ((PK p)[i].set s 1))
     (hW _ q1 q2) nofun nofun (by rw[q1];exact j27 h01 q1 q2 z) (λs hs h2=>⟨sub s 0 hs h2 (.inl rfl),sub s 1 hs h2 (.inr rfl)⟩)
    have wo:=jhx (pr:=pr) (wt:=wt) q1 q2 z
    rw[q1,<-wo]at L
    simp only[qg]at L
    ext
    rw[j9s (by rw[Jc,Bj,Jc,j0c];rfl)]
    simp only[dA,cJ]
    rw[L]
    ext)
  (PK p).length 0 .un .un (Pg _)
 have hi:ev (evP 1000 G T (n+5)) G (.seq (.call "parts_in" (.cons (.var 0) .nil))) [.val (qg p),.val (qD ws a),.val (.fn "least_numbers" [.fn "whole_cost_of_ask" [.dct wk (wv.map D.int),.lst (pr.map D.int)]]),.un,.un,.un]=a3 (.i (qj (PK p))):=by ext;rw[pk];ext
 have ru:=j4y (fu:=1000) (Γ:=evP 1000 G T (n+5)) (G:=G) (ρ:=[.val (qg p),.val (qD ws a),.val (.fn "least_numbers" [.fn "whole_cost_of_ask" [.dct wk (wv.map D.int),.lst (pr.map D.int)]]),.un,.un,.un]) (x:=3) (t:=4) (y:=5) ⟨by simp,by simp,by simp,by decide,by decide,by decide⟩ hi hd;exact congrArg fin ru
theorem j1f{wt:List Int->Int}{wk:List (List Int)}{wv:List Int}{n m:Nat}{ws:List ah}{a pr p:List Int}(hw:ws.length=m)(hm:1<=m/\m<=6)(ha:a.length=2^m)(h01:∀x∈a,x=0\/x=1)(hr:pr.length=m)(hp:p.length=m)(hp3:∀t∈p,0<=t/\t<3)(hW:∀q:List Int,q.length=m->(∀t∈q,0<=t/\t<3)->Mg pr/\zp wk (wv.map D.int) q=a3 (.int (wt q))) :
  evP 1000 G T (n+7) "least_numbers" [qg p,qD ws a,.fn "whole_cost_of_ask" [.dct wk (wv.map D.int),.lst (pr.map D.int)]]=.val (.dct (PK p) (((PK p).map (Wp pr wt a m)).map D.int)):=by
 rw[jk (F:=Zo) (by rfl) rfl];simp only[Zo,Qa,enter];ext;rw[j32 (n:=n) hw hm ha h01 hr hp hp3 hW,jbx (Bj ..)];ext
theorem Lb(m:Nat):∀t∈ae m (2:Int),0<=t/\t<3:=λt ht=>by rw[(List.mem_replicate.mp ht).2];decide
noncomputable def wsum(w:List Int)(m:Nat)(p:List Int):Int:=((inL p m).map λ(k:Nat)=>w.getD k 0).sum
theorem ja8(m:Nat):(ae m [D.tup [.int 0,.int 1,.int 2]]).flatten=qj ((ae m (2:Int)).map vz):=by
 induction m with
 |zero=>rfl
 |succ k ih=>rw[Ph,T6,ih];rfl
theorem j85 {n m:Nat} (h:1<=m/\m<=6):evP 1000 G T (n+2) "parts_of" [.int m]=.fresh (qj (PK (ae m 2))):=by rw[jk (F:=Um) (by rfl) rfl];simp only[Um,Vr,enter];ext;rw[j50 (n:=n) nofun];ext;simp only[gT];ext;rw[X6,ja8,Yv Wf (λf hf=>by obtain⟨t,_,rfl⟩:=Xh.mp hf;unfold vz;split<;>simp) (by rw[kj,Px];omega)];ext;rw[Ji];rfl
theorem j4d{f2:En->Option D}{A B:D}{L:List (List Int)}{W:List Int->Int}(hm:L.length<=1000000)(nd:L.Nodup)
  (h2:∀(q:List Int)(d:D),q∈L->f2 [.val A,.val B,.val d,.val (.tup (q.map D.int)),.un]=a3 (.int (W q))) :
  ∀(r i:Nat)(s3:Sv),i+r=L.length->Vj f2 2 3 (qj (L.drop i)) [.val A,.val B,.un,s3,.un] (L.take i) ((L.take i).map W)=a3 (L,L.map W):=by
 intro r;induction r with
 |zero =>intro i s3 e;rw[kY]at e;rw[gO nofun,t7 nofun];rfl
 |succ r ih =>
  intro i s3 e;have hi:i<L.length:=by omega
  have ed:L.drop i=L[i]::L.drop (i+1):=T4 hi;have et:L.take (i+1)=L.take i++[L[i]]:=by rw[Tq,kh hi];rfl
  have nc:(L.take i).contains L[i]=a4:=by
   have nd:=nd;rw[<-dQ i L,ed]at nd;have:=(List.nodup_append.mp nd).2.2;cases z:(L.take i).contains L[i] with
   |false=>rfl
   |true=>exact absurd rfl (this _ (by simpa using z) _ xm)
  have ll:(L.take i).length<ak:=lt_size (by rw[Xo];omega);have g:=ih (i+1) (.val (.tup (L[i].map D.int))) nofun
  rw[et,Xf,xr,cu]at g;rw[ed,qj,xr,<-qj,Vj];simp only[qg,Jg,Xx,Xr,h2 _ _ (Xy hi)];rw[if_pos ⟨nc,ll⟩];exact g
theorem j12{n m:Nat}{w:List Int}(hm:1<=m/\m<=6)(hl:w.length=2^m) :
  evP 1000 G T (n+4) "weights_by_part" [.int m,.lst (w.map D.int)]=.val (.dct (PK (ae m 2)) (((PK (ae m 2)).map (wsum w m)).map D.int)):=by
 rw[jk (F:=Qt) (by rfl) rfl];simp only[Qt,Jj,enter];have pk:=j85 (n:=n+1) hm;have p3:=Du hm.2;have p2:=j02 hm.2;have pc:((2^m:Nat):Int)=(2:Int)^m:=by simp
 have pl:=j04 (p:=ae m 2);rw[Px]at pl;have pok:∀q∈PK (ae m 2),q.length=m/\∀t∈q,0<=t/\t<3:=λq hq=>by have:=Ii (Lb m) hq;rw[Px]at this;exact this
 have hd:=j4d (f2:=λρ=>stOf (ev (evP 1000 G T (n+3)) G (.blt .sum (.cons (.comp [4] (.ix (.var 1) (.call "row_number" (.cons (.var 4) .nil))) (.seq (.call "rows_in" (.cons (.var 3) .nil))) .nil) .nil)) ρ))
  (A:=.int m) (B:=.lst (w.map D.int)) (L:=PK (ae m 2)) (W:=wsum w m) nofun (j03 (Lb m))
  (λq d hq=>by
   obtain⟨q1,q2⟩:=pok q hq
   have ri:evP 1000 G T (n+3) "rows_in" [qg q]=.fresh (qj (ql (q.map Z7))):=Oh (n:=n+1) j2h Wf gN gA nofun
   rw[Yp q1 q2]at ri
   have l:=j2g q1 q2
   simp only[qg]at ri
   ext
   rw[ri]
   ext
   rw[qi (l:=((inL q m).map λ(k:Nat)=>w.getD k 0).map D.int) (by rfl) (by simp only[qj,kj];omega) ?_ (.inl rfl)]
   .ext
    rfl
   .rw[qj,Xc,Xc]
    refine qe λk hk'=>zc (by ext) ?_
    have hk:=Xd.mp (Xu.mp hk').1
    have rn:=Rj (n:=n+1) (z:=(k:Int)) hm nofun
    have g:=Rv (p:=w) (k:=k) nofun
    simp only[cy]
    ext
    rw[rn]
    ext
    rw[g]
    ext)
  (PK (ae m 2)).length 0 .un (Pg _)
 have hi:ev (evP 1000 G T (n+3)) G (.seq (.call "parts_of" (.cons (.var 0) .nil))) [.val (.int m),.val (.lst (w.map D.int)),.un,.un,.un]=a3 (.i (qj (PK (ae m 2)))):=by ext;rw[pk];ext
 have ru:=j4x (fu:=1000) (Γ:=evP 1000 G T (n+3)) (G:=G) (ρ:=[.val (.int m),.val (.lst (w.map D.int)),.un,.un,.un]) (x:=2) (t:=3) ⟨by simp,by simp,by decide⟩ hi hd;exact congrArg fin ru
noncomputable def wfn(pr w:List Int)(m:Nat):D:=.fn "whole_cost_of_ask" [.dct (PK (ae m 2)) (((PK (ae m 2)).map (wsum w m)).map D.int),.lst (pr.map D.int)]
theorem j7b {n m:Nat} {ws:List ah} {a pr w:List Int} {d:D} (hw:ws.length=m) (hm:1<=m/\m<=6) (hl:w.length=2^m) (h0:w.all (btw 0)=a5) (hs:w.sum≠0) (hp:evP 1000 G T (n+4) "prices_told" [.int m,d]=.fresh (pr.map D.int)) :
  evP 1000 G T (n+5) "whole_cost_of_ask" [qD ws a,.lst (w.map D.int),d]=.val (wfn pr w m):=by
 have rf:=jbz (n:=n) hm hl h0 hs;have bp:=j12 (n:=n) hm hl;rw[jk (F:=Q7) (by rfl) rfl];simp only[Q7,J2,enter,qD];ext;rw[at0];ext;rw[hw,hp];ext;erw[rf,bp];rfl
theorem Lg {n m:Nat} {ws:List ah} {a pr w:List Int} {d:D} (hw:ws.length=m) (hm:1<=m/\m<=6) (ha:a.length=2^m) (h01:∀x∈a,x=0\/x=1) (hr:pr.length=m) (hq:Mg pr) (hl:w.length=2^m) (h0:w.all (btw 0)=a5) (hs:w.sum≠0) (hp:evP 1000 G T (n+7) "prices_told" [.int m,d]=.fresh (pr.map D.int)) :
  evP 1000 G T (n+9) "whole_table" [qD ws a,.lst (w.map D.int),d]=.val (.tup (((PK (ae m 2)).map (Wp pr (wsum w m) a m)).map D.int)):=by
 have wc:=j7b (n:=n+3) (a:=a) hw hm hl h0 hs hp;have nm:=j1f (n:=n) hw hm ha h01 hr (Px ..) (Lb m) (λq q1 q2=>⟨hq,jhb (f:=wsum w m) q1 q2⟩);have ao:=j15 (n:=n+6) (a:=a) hm hw;have tb:evP 1000 G T (n+8) "least_table" [qD ws a,wfn pr w m]=.val (.tup (((PK (ae m 2)).map (Wp pr (wsum w m) a m)).map D.int)):=by rw[jk (F:=Vf) (by rfl) rfl];simp only[Vf,Z4,enter,wfn];ext;erw[ao,nm]
 rw[jk (F:=Ve) (by rfl) rfl];simp only[Ve,Z2,enter];ext;erw[wc,tb]
theorem Og {n k:Nat} (hk:k<=6):evP 1000 G T (n+1) "_law_threes" [.int k]=.val (.int ((3^k:Nat):Int)):=by
 rw[jk (F:=Rx) (by rfl) rfl];simp only[Rx,Ue,enter];ext;rw[Bk (λi=>[.val (.int k),.val (.int ((3^i:Nat):Int)),if i=0 then .un else .val (.int ((i:Int)-1))]) (by simp)]
 .ext;rw[jq];simp
 .intro i d hi;obtain⟨h1,rfl⟩:=Va hi;simp only[J5];ext;have e:(3:Int)*((3^i:Nat):Int)=((3^(i+1):Nat):Int):=by rw[Tj,cN,dM];rfl
  rw[e];simp
theorem Ol {n m:Nat} {z:Int} (hm:m<=6):evP 1000 G T (n+1) "_law_digits" [.int m,.int z]=.fresh ((j6 3 m z).map D.int):=by
 rw[jk (F:=Rz) (by rfl) rfl];simp only[Rz,Uh,enter];ext;rw[Bk (λi=>[.val (.int m),.val (.int (z/3^i)),.own ((j6 3 i z).map .int),if i=0 then .un else .val (.int ((i:Int)-1))]) (by simp[j6])]
 .ext;rw[jq];simp
 .intro i d hi;obtain⟨h1,rfl⟩:=Va hi;have hl:(j6 3 i z).length=i:=q9 3 i z;simp only[J5];ext;rw[Bw z 3 (by decide),j6];simp
noncomputable def stp(m i s:Nat):D:=.tup [.int (s:Int),.int ((i:Int)-2*((3^(m-1-s):Nat):Int)),.int ((i:Int)-((3^(m-1-s):Nat):Int))]
noncomputable def opU(p:List Int)(j:Nat):List Nat:=(aw j).filter λ(k:Nat)=>decide (p.getD k 0=2)
theorem jfs{p:List Int}{j:Nat}(h:p.getD j 0=2):opU p (j+1)=opU p j++[j]:=by rw[opU,opU,dG,bZ];congr 1;exact Pz (decide_eq_true h)
theorem jcd{p:List Int}{j:Nat}(h:¬p.getD j 0=2):opU p (j+1)=opU p j:=by rw[opU,opU,dG,bZ];have e:[j].filter (λ(k:Nat)=>decide (p.getD k 0=2))=[]:=Pk (λz=>h (of_decide_eq_true z));rw[e,Xv]
theorem jce(p:List Int)(j:Nat):(opU p j).length<=j:=Xk (Tf _ _) (by rw[Xi];exact xx _)
theorem Np {n m i:Nat} (hm:m<=6):evP 1000 G T (n+2) "_law_steps" [.int m,.int i]=.fresh ((qt (j6 3 m (i:Int)) m).map (stp m i)):=by
 rw[jk (F:=Bs) (by rfl) rfl];simp only[Bs,Wv,enter];ext;rw[Ol (n:=n) hm];ext;have hl:(j6 3 m (i:Int)).length=m:=q9 3 m _;refine Yj (λj ρ=>∃s4 s5,ρ=[.val (.int m),.val (.int i),.own ((j6 3 m (i:Int)).map D.int),.own ((opU (j6 3 m (i:Int)) j).map (stp m i)),s4,s5]) ⟨_,_,rfl⟩ ?_ ?_
 .rintro j d ρ hj ⟨s4,s5,rfl⟩;obtain⟨h1,rfl⟩:=Va hj;have h1:j<m:=by omega
  have g:=Rv (p:=j6 3 m (i:Int)) (k:=j) nofun
  have ol:=jce (j6 3 m (i:Int)) j;simp only[J5];ext;rw[Td,g];by_cases h2:(j6 3 m (i:Int)).getD j 0=2
  .have t:=Og (n:=n) (k:=m-1-j) nofun
   have e:(m:Int)-1-(j:Int)=((m-1-j:Nat):Int):=by omega
   ext;rw[e,t];ext;refine⟨_,rfl,.val (.int (j:Int)),.val (.int ((3^(m-1-j):Nat):Int)),?_⟩;rw[jfs h2,Xf];rfl
  .ext;refine⟨_,rfl,.val (.int (j:Int)),s5,?_⟩;rw[jcd h2]
 .rintro ρ ⟨s4,s5,rfl⟩;ext;rw[jq];simp[opU,qt]
theorem Nk{P P0 P1:Nat->Bool}{f:Nat->Int}:∀{L:List Nat},(∀k∈L,(P0 k=a5->P1 k=a4)/\(P k=(P0 k || P1 k)))->((L.filter P).map f).sum=((L.filter P0).map f).sum+((L.filter P1).map f).sum
 |[],_=>rfl
 |k::L,q=>by
  have ih:=Nk (P:=P) (P0:=P0) (P1:=P1) (f:=f) (L:=L) λj hj=>q j (xg _ hj);obtain⟨q1,q2⟩:=q k (xm ..);cases e1:P0 k with
  |true =>have e2:=q1 e1;rw[e1,e2]at q2;rw[Pz (by rw[q2];rfl),Pz e1,Pk (by rw[e2];exact xf),xr,xr,Tt,Tt,ih];omega
  |false =>
   cases e2:P1 k with
   |true =>rw[e1,e2]at q2;rw[Pz (by rw[q2];rfl),Pz e2,Pk (by rw[e1];exact xf),xr,xr,Tt,Tt,ih];omega
   |false =>rw[e1,e2]at q2;rw[Pk (by rw[q2];exact xf),Pk (by rw[e1];exact xf),Pk (by rw[e2];exact xf),ih]
theorem j8y{p:List Int}{m s:Nat}{f:Nat->Int}(hp:p.length=m)(hs:s<m)(h2:p.getD s 0=2):((inL p m).map f).sum=((inL (p.set s 0) m).map f).sum+((inL (p.set s 1) m).map f).sum:=by unfold inL;refine Nk λk hk=>?_;have l:=q9 2 m (k:Int);have b:=Ir (j3x m (k:Int)) s;rw[Bp nofun nofun h2 (by decide),Bp nofun nofun h2 (by decide)];rcases b with e|e<;>rw[e]<;>cases fits p (j6 2 m (k:Int))<;>simp
theorem j31{w p:List Int}{m s:Nat}(hp:p.length=m)(hs:s<m)(h2:p.getD s 0=2):wsum w m p=wsum w m (p.set s 0)+wsum w m (p.set s 1):=j8y hp hs h2
theorem j9j{a p:List Int}{m:Nat}(h01:∀x∈a,x=0\/x=1):((cnt a p m 1:Nat):Int)=wsum a m p:=by
 unfold cnt wsum;have g:∀k:Nat,a.getD k 0=0\/a.getD k 0=1:=λk=>by
  rw[km];cases z:a[k]? with
  |none=>exact .inl rfl
  |some x=>exact h01 x (Xm z)
 induction inL p m with
 |nil=>rfl
 |cons k l ih =>rw[Pq,xr,Tt,<-ih];rcases g k with e|e<;>rw[e]<;>simp<;>omega
noncomputable def onW(x:List Int)(m j:Nat):D:=.tup [.int (wsum x m (j6 3 m (j:Int))),.int ((2^Zx (j6 3 m (j:Int)):Nat):Int)]
theorem j2i{x:List Int}{m i j:Nat}(h:j<i):atI ((aw i).map (onW x m)) (j:Int)=a3 (onW x m j):=Q4 (by rw[X3,Pj h];rfl)
theorem jln(x y z:D):atI [x,y,z] 1=a3 y:=rfl
theorem jlm(x y z:D):atI [x,y,z] 2=a3 z:=rfl
theorem jht(x:D)(l:List D):atI (x::l) 0=a3 x:=by have:=Q4 (xs:=x::l) (n:=0) rfl;exact this
theorem j07 {n m:Nat} {ws:List ah} {a:List Int} {d:D} (hd:d=.tup (a.map D.int)\/d=.lst (a.map D.int)) (hw:ws.length=m) (hm:1<=m/\m<=6) (ha:a.length=2^m):evP 1000 G T (n+3) "_law_ones" [.tup [.tup (ws.map D.str),d]]=.fresh ((aw (3^m)).map (onW a m)):=by
 rw[jk (F:=Ck) (by rfl) rfl];simp only[Ck,O8,enter];ext;erw[at0,hw];rw[Og (n:=n+1) hm.2];have p3:=Du hm.2;ext;refine Yj (λi ρ=>∃s3 s4 s5 s6 s7 s8,ρ=[.val (.tup [.tup (ws.map D.str),d]),.val (.int m),.own ((aw i).map (onW a m)),s3,s4,s5,s6,s7,s8]) ⟨_,_,_,_,_,_,rfl⟩ ?_ ?_
 .rintro i dd ρ hi ⟨s3,s4,s5,s6,s7,s8,rfl⟩;obtain⟨h1,rfl⟩:=Va hi;have hi:i<3^m:=by rw[X6]at h1;exact h1
  have hl:(j6 3 m (i:Int)).length=m:=q9 3 m _;have h3:∀t∈j6 3 m (i:Int),0<=t/\t<3:=λt ht=>V4 (by decide) ht;have ol:(qt (j6 3 m (i:Int)) m).length=Zx (j6 3 m (i:Int)):=by have:=j06 (j6 3 m (i:Int));rw[hl]at this;exact this
  have rl:(aw i).length=i:=Xi;simp only[J5];ext;rw[Td,Np (n:=n) hm.2];ext;cases z:qt (j6 3 m (i:Int)) m with
  |nil =>
   rw[z]at ol;obtain⟨k,hk,ek,ik⟩:=j7j hl h3 ol.symm;have dg:=Ol (n:=n+1) (z:=(i:Int)) hm.2;ext;rw[dg];ext;have k2:(k:Int)<2^m:=by
    have:((2^m:Nat):Int)=2^m:=by simp
    rw[<-this];omega
   have z0:(k:Int)/2^m=0:=Tc nofun k2;obtain⟨ρ',el,s6',hρ⟩:=Qp (f:=O7 [6] (run 1000 (evP 1000 G T (n+2)) G (.seq (.set 5 (.bin .add (.bin .mul (.lit (.int 2)) (.var 5)) (.var 6))) .nop)))
    (λj ρ=>∃s6,ρ=[.val (.tup [.tup (ws.map D.str),d]),.val (.int m),.own ((aw i).map (onW a m)),.val (.int (i:Int)),.own [],.val (.int ((k:Int)/2^(m-j))),s6,s7,s8]) (k:=0) (ds:=(j6 3 m (i:Int)).map D.int)
    (ρ:=[.val (.tup [.tup (ws.map D.str),d]),.val (.int m),.own ((aw i).map (onW a m)),.val (.int (i:Int)),.own [],.val (.int 0),s6,s7,s8]) ⟨s6,by rw[i5,z0]⟩ (by
    rintro j d ρ hj ⟨s6,rfl⟩
    rw[Pg]
    obtain⟨v,hv,rfl⟩:=Wg hj
    rw[ek]at hv
    have hlt:j<m:=by
     have:=(X7.mp hv).1
     rw[q9]at this;exact this
    rw[Zr hlt]at hv
    cases hv
    simp only[J5]
    ext
    refine⟨_,rfl,?_⟩
    have e1:m-j=(m-1-j)+1:=by omega
    have e2:m-(j+1)=m-1-j:=by omega
    have e3:2*((k:Int)/2^(m-j))+(k:Int)/2^(m-1-j)%2=(k:Int)/2^(m-(j+1)):=by
     rw[e1,e2,<-Bw (k:Int) 2 nofun]
     exact iq _ _
    rw[e3]
    exact⟨_,rfl⟩)
   have e:(k:Int)/2^(m-(0+((j6 3 m (i:Int)).map D.int).length))=(k:Int):=by rw[kj,hl,Pg,fj];simp
   rw[e]at hρ;subst hρ;have g:=Rv (p:=a) (k:=k) nofun
   rw[el];ext;rw[at1];have gd:ixW (O3 (a3 d)) (a3 (.v (.e (.int (k:Int)))))=a3 (.v (.e (.int (a.getD k 0)))):=by
    rcases hd with e|e<;>subst e
    .ext;rw[g];ext
    .ext;rw[g];ext
   rw[gd];ext;refine⟨_,rfl,.val (.int (i:Int)),.own [],.val (.int (k:Int)),s6',s7,s8,?_⟩;have c1:wsum a m (j6 3 m (i:Int))=a.getD k 0:=by unfold wsum;rw[ik];simp
   have t0:Zx (j6 3 m (i:Int))=0:=ol.symm;rw[dG,Xf];show _=[_,_,Sv.own (_++[onW a m i]),_,_,_,_,_,_]
   rw[onW,c1,t0];rfl
  |cons s L =>
   have hs:s<m/\(j6 3 m (i:Int)).getD s 0=2:=by
    have:s∈qt (j6 3 m (i:Int)) m:=by rw[z];exact xm
    obtain⟨h1,h2⟩:=Xu.mp this;exact⟨Xd.mp h1,of_decide_eq_true h2⟩
   obtain⟨l0,e0⟩:=Vb (c:=0) hi hs.1 hs.2 (.inl rfl);obtain⟨l1,e1⟩:=Vb (c:=1) hi hs.1 hs.2 (.inr rfl);have w:0<3^(m-1-s):=f9 (by simp);have i0:(i:Int)-2*((3^(m-1-s):Nat):Int)=((i-(2-0)*3^(m-1-s):Nat):Int):=by omega
   have i1:(i:Int)-((3^(m-1-s):Nat):Int)=((i-(2-1)*3^(m-1-s):Nat):Int):=by omega
   have g0:=j2i (x:=a) (m:=m) (i:=i) (j:=i-(2-0)*3^(m-1-s)) nofun
   have g1:=j2i (x:=a) (m:=m) (i:=i) (j:=i-(2-1)*3^(m-1-s)) nofun
   have cs:=j31 (w:=a) hl hs.1 hs.2;have c0:=K9 (v:=0) (by rw[hl];exact hs.1) hs.2 (.inl rfl);have c1:=K9 (v:=1) (by rw[hl];exact hs.1) hs.2 (.inr rfl);rw[show((0:Nat):Int)=0 from rfl]at e0;rw[show((1:Nat):Int)=1 from rfl]at e1;rw[e0,e1]at cs;rw[e0]at c0;rw[e1]at c1;have k1:wsum a m (j6 3 m ((i-(2-0)*3^(m-1-s):Nat):Int))+wsum a m (j6 3 m ((i-(2-1)*3^(m-1-s):Nat):Int))=wsum a m (j6 3 m (i:Int)):=cs.symm;have k2:((2^Zx (j6 3 m ((i-(2-0)*3^(m-1-s):Nat):Int)):Nat):Int)+((2^Zx (j6 3 m ((i-(2-1)*3^(m-1-s):Nat):Int)):Nat):Int)=((2^Zx (j6 3 m (i:Int)):Nat):Int):=by have c0:Zx (j6 3 m ((i-(2-0)*3^(m-1-s):Nat):Int))+1=Zx (j6 3 m (i:Int)):=c0;have c1:Zx (j6 3 m ((i-(2-1)*3^(m-1-s):Nat):Int))+1=Zx (j6 3 m (i:Int)):=c1;rw[show Zx (j6 3 m ((i-(2-1)*3^(m-1-s):Nat):Int))=Zx (j6 3 m ((i-(2-0)*3^(m-1-s):Nat):Int))by omega,<-c0,Tj];omega
   rw[onW]at g0 g1;have er:(aw (i+1)).map (onW a m)=(aw i).map (onW a m)++[onW a m i]:=by rw[dG,Xf];rfl
   rw[er,onW,<-k1,<-k2];ext;rw[stp,jht];ext;rw[jln];ext;rw[i0,g0];ext;erw[jht,jlm];rw[i1,g1];ext;rw[at0,at0,at1,at1];ext;exact⟨_,rfl,_,_,_,_,_,_,rfl⟩
 .rintro ρ ⟨s3,s4,s5,s6,s7,s8,rfl⟩;ext;rw[jq,X6]
noncomputable def rcO(d:Option (List Int)):Rc:=match d with
 |none=>.val .non
 |some l=>.fresh (l.map D.int)
theorem Ul{f:D->En->So}{ds:List D}{ρ:En}{g:En->So}{Q:Rc->Prop}(W:Nat->En->Prop)(h0:W 0 ρ)(hs:∀i d ρ,ds[i]?=a3 d->W i ρ->∃ρ',f d ρ=.next ρ'/\W (i+1) ρ')(hk:∀ρ',W ds.length ρ'->Q (fin (g ρ'))):Q (fin (Uk (Jl f ds ρ) g)):=by
 obtain⟨ρ',e,w⟩:=Qp (f:=f) W (k:=0) (ds:=ds) (ρ:=ρ) h0 λi d ρ hi w=>by rw[Pg]at w ⊢;exact hs i d ρ hi w
 rw[e];rw[Pg]at w;exact hk ρ' w
theorem j1d {n m:Nat} {c:Int} (hm:m<=6):∃d:Option (List Int),evP 1000 G T (n+1) "_law_prices" [.int c,.int m]=rcO d/\∀l,d=a3 l->l.length=m/\l.all (btw 1)=a5:=by
 rw[jk (F:=Ry) (by rfl) rfl];simp only[Ry,Ug,enter];by_cases h:c%4=0
 .refine⟨a6,?_,λl e=>nomatch e⟩;ext;rfl
 ext;refine Ul (Q:=λr=>∃d:Option (List Int),r=rcO d/\∀l,d=a3 l->l.length=m/\l.all (btw 1)=a5) (λj ρ=>∃(dr lf:Int)(l:List Int)(s5:Sv),l.length=j/\l.all (btw 1)=a5/\ρ=[.val (.int c),.val (.int m),.val (.int dr),.val (.int lf),.own (l.map D.int),s5]) ⟨_,_,[],_,rfl,rfl,rfl⟩ ?_ ?_
 .rintro j d ρ hj ⟨dr,lf,l,s5,hl,hall,rfl⟩;obtain⟨h1,rfl⟩:=Va hj;have h1:j<m:=by rw[X6]at h1;exact h1
  have fin:∀(v:Int),1<=v/\v<=1000000->(l++[v]).length=j+1/\(l++[v]).all (btw 1)=a5:=λv hv=>by refine⟨by rw[Xb,hl];rfl,?_⟩;rw[jV,hall];simp only[bX,kD,btw,gz,dk];rw[decide_eq_true hv.1,decide_eq_true hv.2];rfl
  simp only[J5];ext;generalize hdr:(dr*48271+13*(0+(j:Int))+5)%2147483647=dr2;have hc:∃v:Int,(1<=v/\v<=1000000)/\atI [D.int (1+dr2/16%5),D.int (1+dr2/16%1000000)] (c/4%2)=a3 (.int v):=by
   have:c/4%2=0\/c/4%2=1:=by omega
   rcases this with e|e
   .exact⟨1+dr2/16%5,by omega,by rw[e,at0]⟩
   .exact⟨1+dr2/16%1000000,by omega,by rw[e,at1]⟩
  obtain⟨v,hv,ev⟩:=hc;rw[ev];ext;by_cases hb:(1000000000000000000:Int)<=c
  .ext;have lf2:=fin (1+lf%1000000) nofun
   have ix:ixN (l.map D.int++[D.int v]).length (0+(j:Int))=a3 j:=by rw[Xb,kj,hl,Td];unfold ixN;rw[if_pos nofun,if_pos (by show(j:Int)<((j+1:Nat):Int);omega),X6]
   rw[j00 ix];ext;refine⟨_,rfl,dr2,lf/1000000,l++[1+lf%1000000],.val (.int (0+(j:Int))),lf2.1,lf2.2,?_⟩;have e:(l.map D.int++[D.int v]).set j (D.int (1+lf%1000000))=(l++[1+lf%1000000]).map D.int:=by rw[jQ,if_neg (by rw[kj];omega),kj,hl,fj,Xf];rfl
   rw[<-e]
   try rfl
  .ext;exact⟨_,rfl,dr2,lf,l++[v],.val (.int (0+(j:Int))),(fin v hv).1,(fin v hv).2,by rw[Xf];rfl⟩
 .rintro ρ ⟨dr,lf,l,s5,hl,hall,rfl⟩;ext;rw[jq,X6]at hl;exact⟨a3 l,rfl,λl' e=>by cases e;exact⟨hl,hall⟩⟩
theorem j40 {n m:Nat} {d:Option (List Int)} (hm:m<=6):evP 1000 G T (n+1) "_law_costs" [feD d,.int m]=match d with
  |none=>.fresh ((ae m (1:Int)).map D.int)
  |some l=>.val (.lst (l.map D.int)):=by
 rw[jk (F:=Bu) (by rfl) rfl];simp only[Bu,Wx,enter];cases d with
 |none =>
  simp only[feD];ext;rw[qi (l:=(ae m (1:Int)).map D.int) (by rfl) (by rw[jq];omega) ?_ (.inl rfl)]
  .ext
  .have e:(ae m (1:Int)).map D.int=(upto 0 (m:Int).toNat).map λ_=>D.int 1:=by rw[List.map_const',jq,X6,iL]
   rw[e];exact Kc λd hd=>zc (by ext) (by ext)
 |some l =>simp only[feD];ext
theorem j6e:∀(ts acc:List ah),acc.Nodup->(ts.foldl ddS acc).length=acc.length+ts.length->(acc++ts).Nodup
 |[],acc,hn,_=>by rw[Xv];exact hn
 |v::ts,acc,hn,h=>by
  rw[Th,X8]at h;have hl:=Fx ts (ddS acc v);by_cases e:acc.any (· == v)=a5
  .have ed:ddS acc v=acc:=if_pos e;rw[ed]at hl h;omega
  .have ed:ddS acc v=acc++[v]:=if_neg e;rw[ed]at h;have nv:v∉acc:=λz=>e (List.any_eq_true.mpr ⟨v,z,beq_self_eq_true v⟩);have:=j6e ts (acc++[v]) (by
    rw[List.nodup_append]
    exact⟨hn,by simp,λx hx y hy=>by rw[xn.mp hy];exact λz=>nv (z▸hx)⟩) (by rw[h,Xb,i7];omega)
   rw[Tn]at this;exact this
theorem j9i{ns:List ah}(h:(dd ns).length=ns.length):ns.Nodup:=j6e ns [] cU (by rw[show([]:List ah).length=0 from rfl,Pg];exact h)
theorem j7a {n m:Nat} {c:Int} (hm:1<=m/\m<=6):∃ws:List ah,(ws.Nodup/\ws.length=m)/\evP 1000 G T (n+1) "_law_words" [.int c,.int m]=.fresh (ws.map D.str):=by
 rw[jk (F:=Bq) (by rfl) rfl];simp only[Bq,Wt,enter];have ll:=jjf;have tot:∀k:Bool,((m:Int)*(if k then 1 else 0)).toNat=if k then m else 0:=λk=>by cases k<;>simp
 ext;simp only[j0v];ext;obtain⟨k,ek⟩:∃k:Bool,decide ((1000000000000000000:Int)<=c)=k:=⟨_,rfl⟩
 rw[ek];have kb:-4611686018427387904<=(m:Int)*(if k then 1 else 0)/\(m:Int)*(if k then 1 else 0)<4611686018427387904:=by cases k<;>simp<;>omega
 ext;rw[tot];refine Ul (Q:=λr=>∃ws:List ah,(ws.Nodup/\ws.length=m)/\r=.fresh (ws.map D.str)) (λi ρ=>∃(ns:List ah)(r:Int)(s5 s6 s7 s8:Sv),ns.length=i/\ρ=[.val (.int c),.val (.int m),.val (.str "mdkbvqhzcgrnapxolsiefwtyju"),.own (ns.map D.str),.val (.int r),s5,s6,s7,s8,.un,.un,.un,.un]) ⟨[],c,.un,.un,.un,.un,rfl,rfl⟩ ?_ ?_
 .rintro i d ρ hi ⟨ns,r,s5,s6,s7,s8,hl,rfl⟩;have hi2:i<7:=by have:=(X7.mp hi).1;rw[jq]at this;cases k<;>simp at this<;>omega
  simp only[J5];ext;refine Ln (λj ρ=>∃(x:List Nat)(r2:Int)(s8:Sv),x.length=j/\ρ=[.val (.int c),.val (.int m),.val (.str "mdkbvqhzcgrnapxolsiefwtyju"),.own (ns.map D.str),.val (.int r2),.val d,.val (.int (1+r%8)),.val (.str (sL x)),s8,.un,.un,.un,.un]) ⟨[],r/8,s8,rfl,rfl⟩ ?_ ?_
  .rintro j e ρ hj ⟨x,r2,s8',hx,rfl⟩;have hj2:j<8:=by have:=(X7.mp hj).1;rw[jq]at this;omega
   have lx:(sL x).length=j:=by rw[Jb,hx]
   simp only[J5];ext;rw[Ik nofun];ext;have l1:(⟨#[lt (r2%26)]⟩:ah).length=1:=rfl;ext;refine⟨_,rfl,x++[lt (r2%26)],r2/26,.val e,by simp[hx],?_⟩;rw[show(⟨#[lt (r2%26)]⟩:ah)=sL [lt (r2%26)]from rfl,U3]
  .rintro ρ2 ⟨x,r2,s8',hx,rfl⟩;ext;refine⟨_,rfl,ns++[sL x],r2,.val d,.val (.int (1+r%8)),.val (.str (sL x)),s8',by simp[hl],?_⟩;rw[Xf];rfl
 rintro ρ' ⟨ns,r,s5,s6,s7,s8,hl,rfl⟩;rw[jq]at hl;have nl:ns.length<=6:=by rw[hl];split<;>omega
 ext;rw[jcn nofun];by_cases hd:((dd ns).length:Int)=(m:Int)
 .have lm:ns.length=m:=by
   cases k with
   |true=>simpa using hl
   |false =>have:ns=[]:=List.eq_nil_of_length_eq_zero (by simpa using hl);subst this;have z:(dd []).length=0:=rfl;rw[z]at hd;omega
  ext;exact⟨ns,⟨j9i nofun,lm⟩,rfl⟩
 refine⟨Qj c m,⟨Iw hm.2,Ko _ _⟩,?_⟩;by_cases h:c%4<2
 .ext;rw[qi (l:=((Y8 c).map λx=>(⟨#[x]⟩:ah)).map D.str) (by rfl) (by rw[jq];decide) ?_ (.inl rfl)];rotate_left
  .rw[Qk,Y8,Xc,Xc];refine qe λk hk'=>zc (by ext) ?_;have hk:=Xd.mp hk';ext;rw[Ik nofun];ext;simp
  rw[j2b (Rq (by rw[Qq];decide)),Fg];have st:=jag (c:=c) hm.2;obtain⟨s,hs⟩:∃s:Nat,s=stN c m:=⟨_,rfl⟩
  have es:c/8%(9-(m:Int))=(s:Int):=by rw[hs];unfold stN;have:=T8 (c/8) (show(9-(m:Int))≠0 by omega);omega
  have lg:(sL (Y8 c)).length=8:=by rw[Jb,Qq]
  by_cases h0:c%4=0
  .ext;rw[es,qi (l:=(Qj c m).map D.str) (by rfl) (by rw[jq];omega) ?_ (.inl rfl)]
   .ext
   .rw[X6,Qk,Qj,Xc];refine qe λk hk'=>zc (by ext) ?_;have hk:=Xd.mp hk';ext;have e:(s:Int)+(0+(k:Int))+1=((s+k+1:Nat):Int):=by omega
    have hh:wrd c m k=(Y8 c).take (stN c m+k+1):=by unfold wrd;rw[if_pos h,if_pos h0]
    rw[e,Nq (by rw[Qq];omega)];simp only[cy,hh,hs]
  .ext;rw[es,qi (l:=(Qj c m).map D.str) (by rfl) (by rw[jq];omega) ?_ (.inl rfl)]
   .ext
   .rw[X6,Qk,Qj,Xc];refine qe λk hk'=>zc (by ext) ?_;have hk:=Xd.mp hk';ext;have e:8-(s:Int)-(0+(k:Int))-1=((8-s-k-1:Nat):Int):=by omega
    have hh:wrd c m k=(Y8 c).drop (8-stN c m-k-1):=by unfold wrd;rw[if_pos h,if_neg h0]
    rw[e,Nr (by rw[Qq];omega)];simp only[cy,hh,hs]
 .have a:=jay c;obtain⟨s,hs⟩:∃s:Nat,s=szN c:=⟨_,rfl⟩
  have es:c/4%8=(s:Int):=by rw[hs];unfold szN;omega
  obtain⟨q,hq⟩:∃q:Nat,q=atN c:=⟨_,rfl⟩
  have eq:c/512%((s:Int)+1)=(q:Int):=by rw[hq];unfold atN;have:=T8 (c/512) (show((s:Int)+1)≠0 by omega);rw[<-hs];omega
  ext;rw[es,qi (l:=((Vk c s).map λx=>(⟨#[x]⟩:ah)).map D.str) (by rfl) (by rw[jq];omega) ?_ (.inl rfl)];rotate_left
  .rw[X6,Qk,Vk,Xc,Xc];refine qe λk hk'=>zc (by ext) ?_;have hk:=Xd.mp hk';ext;rw[Ik nofun];ext;simp
  rw[j2b (Rq (by rw[vh];omega)),Fg];have lg:(sL (Vk c s)).length=s:=by rw[Jb,vh]
  ext;rw[eq,qi (l:=(Qj c m).map D.str) (by rfl) (by rw[jq];omega) ?_ (.inl rfl)]
  .ext
  .rw[X6,Qk,Qj,Xc];refine qe λk hk'=>zc (by ext) ?_;have hk:=Xd.mp hk';ext;rw[Ik nofun];ext;rw[Nq (by rw[vh];omega),Nr (by rw[vh];omega)];have e1:(⟨#[lt ((c/9+7*(0+(k:Int)))%26)]⟩:ah)=sL [lt ((c/9+7*(0+(k:Int)))%26)]:=rfl;have l1:(sL ((Vk c s).take q)).length=q:=by rw[Jb,Xo,vh];omega
   have l2:(sL ((Vk c s).drop q)).length=s-q:=by rw[Jb,Tw,vh]
   have l3:(sL [lt ((c/9+7*(0+(k:Int)))%26)]).length=1:=rfl;have l4:(sL ((Vk c s).take q)++sL [lt ((c/9+7*(0+(k:Int)))%26)]).length=q+1:=by rw[U3,Jb,Xb,Xo,vh,X8,T7];omega
   rw[e1];ext;rw[U3,U3];simp only[cy,wrd,h,if_false,<-hs,<-hq,Tn,List.singleton_append,Td]
noncomputable def Yx(n:Nat)(ns:List Int)(a most:Nat):List Int :=
 (aw (2^Zy ns a most)).map λ(k:Nat)=>if decide ((1000000000000000000:Int)<=jn ns (a+2))=a5 then jn ns (a+2)/(1*2^(0+(k:Int)).toNat)%2 else N8 1000 G T n (j6 2 (Zy ns a most) (0+(k:Int))) (jn ns a/(most:Int)%5) (jn ns (a+2))
theorem jdz{n:Nat}{ns:List Int}{a most:Nat}(hm:1<=most/\most<=6):∀x∈Yx n ns a most,x=0\/x=1:=by
 intro x hx;obtain⟨k,_,rfl⟩:=Xh.mp hx;have mb:=Dz (ns:=ns) (a:=a) hm;split
 .omega
 .exact(j13 jgq (j3x _ _) (by rw[q9];omega)).1
theorem p2n{k:Nat}(h:k<64):0<(2:Int)^k/\(2:Int)^k<18446744073709551616:=by
 refine⟨bO (by decide),?_⟩;have h1:2^k<2^64:=Nat.pow_lt_pow_right (by decide) h;have h2:(2:Nat)^64=18446744073709551616:=by decide
 rw[h2]at h1;have h3:((2^k:Nat):Int)=(2:Int)^k:=by simp
 omega
theorem j1c{n:Nat}{ns:List Int}{a most:Nat}(ha:a<=50)(hm:1<=most/\most<=6):∃ws:List ah,(ws.Nodup/\ws.length=Zy ns a most) /\
  evP 1000 G T (n+2) "_law_question" [.lst (ns.map D.int),.int a,.int most]=.val (.tup [.tup (ws.map D.str),.tup ((Yx n ns a most).map D.int)]):=by
 rw[jk (F:=Uq) (by rfl) rfl];simp only[Uq,Vu,enter];have mb:=Dz (ns:=ns) (a:=a) hm;obtain⟨m,em⟩:∃m:Nat,m=Zy ns a most:=⟨_,rfl⟩
 have em2:1+jn ns a%(most:Int)=(m:Int):=by rw[em];unfold Zy;have h1:=T8 (jn ns a) (show(most:Int)≠0 by omega);omega
 rw[<-em]at mb;have p2:=j02 (m:=m) nofun
 have pc:((2^m:Nat):Int)=(2:Int)^m:=by simp
 have e3:(1*2^m:Int).toNat=2^m:=by rw[eC,<-pc];exact X6 _
 have c0:evP 1000 G T (n+1) "_law_cell" [.lst (ns.map D.int),.int a]=.val (.int (jn ns a)):=Ud Il nofun
 have c1:evP 1000 G T (n+1) "_law_cell" [.lst (ns.map D.int),.int ((a:Int)+1)]=.val (.int (jn ns (a+1))):=Ud Il (k:=a+1) nofun
 have c2:evP 1000 G T (n+1) "_law_cell" [.lst (ns.map D.int),.int ((a:Int)+2)]=.val (.int (jn ns (a+2))):=Ud Il (k:=a+2) nofun
 obtain⟨ws,⟨wnd,wl⟩,we⟩:=j7a (n:=n) (c:=jn ns (a+1)) (m:=m) nofun
 refine⟨ws,⟨wnd,by rw[wl,em]⟩,?_⟩;ext;rw[c0];ext;rw[em2,c1];ext;erw[we,c0,c2,X6];rw[e3];rw[Bk (λi=>[.val (.lst (ns.map D.int)),.val (.int a),.val (.int most),.val (.int m),.own (ws.map D.str),.val (.int (jn ns a/(most:Int)%5)),.val (.int (jn ns (a+2))),.own (((Yx n ns a most).take i).map D.int),if i=0 then .un else .val (.int ((i:Int)-1)),if i=0 then .un else .own ((j6 2 m ((i:Int)-1)).map D.int),.un]) (by simp)]
 .ext;rw[jq,t7 (by simp[Yx,<-em])]
 .intro i d hi;obtain⟨h1,rfl⟩:=Va hi;have hz:=j3x m (0+(i:Int));have hlz:=q9 2 m (0+(i:Int));obtain⟨hb,eb⟩:=j13 (fu:=1000) (n:=n) (G:=G) jgq hz nofun (kd:=jn ns a/(most:Int)%5) (c:=jn ns (a+2))
  have lt64:2^m<=64:=by omega
  have pw:=p2n (k:=(0+(i:Int)).toNat) nofun
  have al:(Yx n ns a most).length=2^m:=by simp[Yx,<-em]
  have ag:(Yx n ns a most)[i]?=a3 (if decide ((1000000000000000000:Int)<=jn ns (a+2))=a5 then jn ns (a+2)/(1*2^(0+(i:Int)).toNat)%2 else N8 1000 G T n (j6 2 m (0+(i:Int))) (jn ns a/(most:Int)%5) (jn ns (a+2))):=by unfold Yx;rw[<-em,X3,Pj h1];rfl
  simp only[J5];ext;rw[qi (l:=(j6 2 m (0+(i:Int))).map D.int) (by rfl) (by rw[jq];omega) ?_ (.inl rfl)];rotate_left
  .have ed:j6 2 m (0+(i:Int))=(aw m).map λ(k:Nat)=>(0+(i:Int))/2^(m-1-k)%2:=by
    refine Tp λk=>?_;by_cases hk:k<m
    .rw[Zr hk,X3,Pj hk];rfl
    .rw[Xp (by rw[q9];omega),Xp (by simp;omega)]
   rw[X6,Qk,ed,Xc];refine qe λk hk'=>zc (by ext) ?_;have hk:=Xd.mp hk';have et:((m:Int)-(0+(k:Int))-1).toNat=m-1-k:=by omega
   have p:=p2k (k:=m-1-k) nofun
   rw[<-et]at p;ext;rw[et,eC];rfl
  ext;rw[j9p,eb];ext;rw[jcm rfl];simp only[j0v];ext;have pick:∀(k:Bool)(x y:Int),atI [D.int x,.int y] (if k then 1 else 0)=a3 (.int (if k=a5 then y else x)):=λk x y=>by cases k<;>rfl
  rw[pick];ext;rw[Tq,ag];simp
theorem j73{least x:Int}(h1:least<=x)(h2:x<=1000000):btw least x=a5:=by simp[btw,h1,h2]
theorem j16{least x:Int}{l:List Int}(h:l.all (btw least)=a5)(h1:least<=x)(h2:x<=1000000):(l++[x]).all (btw least)=a5:=by rw[jV,h,bX,kD,j73 h1 h2];rfl
theorem je0{l:List Int}{k:Nat}{v:Int}(h:l.all (btw 0)=a5)(h1:0<=v)(h2:v<=1000000):(l.set k v).all (btw 0)=a5:=by
 rw[Pa]at h ⊢;intro x hx;rcases gk hx with z|z
 .exact h x z
 .rw[z];exact j73 h1 h2
theorem j1w:∀{l:List Int}{k:Nat}{v:Int},l.all (btw 0)=a5->k<l.length->1<=v->0<(l.set k v).sum
 |[],k,v,_,h,_=>by simp at h
 |x::l,k,v,ha,hk,hv=>by
  rw[bX,Xg]at ha;have hx:0<=x:=by have:=ha.1;simp[btw]at this;exact this.1
  have sn:∀{l:List Int},l.all (btw 0)=a5->0<=l.sum:=by
   intro l;induction l with
   |nil=>intro _;simp
   |cons y l ih =>
    intro h;rw[bX,Xg]at h;have:=ih h.2;have hy:0<=y:=by have:=h.1;simp[btw]at this;exact this.1
    rw[Tt];omega
  cases k with
  |zero =>have:=sn ha.2;rw[Xx,Tt];omega
  |succ k =>have:=j1w (k:=k) (v:=v) ha.2 (by simpa using hk) hv;rw[Xr,Tt];omega
theorem jch{c:Int}{l:Nat}(h:0<l):∃k:Nat,k<l/\c%(l:Int)=(k:Int):=by
 have h1:=T8 c (b:=(l:Int)) nofun
 have h2:=sr c (b:=(l:Int)) nofun
 exact⟨(c%(l:Int)).toNat,by omega,by omega⟩
theorem jct{l k:Nat}(h:k<l):ixN l (k:Int)=a3 k:=by unfold ixN;rw[if_pos nofun,if_pos nofun,X6]
theorem Kv {n m:Nat} {c:Int} (hm:m<=6):∃wt:List Int,evP 1000 G T (n+2) "_law_weights" [.int c,.int m]=.fresh (wt.map D.int)/\wt.length=2^m/\wt.all (btw 0)=a5/\wt.sum≠0:=by
 rw[jk (F:=Wh) (by rfl) rfl];simp only[Wh,Y9,enter];have p2:=j02 hm;have p6:=p64 hm;have pg:1<=2^m:=iZ;have pc:((2^m:Nat):Int)=(2:Int)^m:=by simp
 have e3:(1*2^m:Int).toNat=2^m:=by rw[eC,<-pc];exact X6 _
 ext;rw[X6];ext;rw[e3,Qk];refine Ul (Q:=λr=>∃wt:List Int,r=.fresh (wt.map D.int)/\wt.length=2^m/\wt.all (btw 0)=a5/\wt.sum≠0) (λi ρ=>∃(acc:List Int)(dr lf:Int)(s5:Sv),ρ=[.val (.int c),.val (.int m),.val (.int dr),.val (.int lf),.own (acc.map D.int),s5]/\acc.length=i/\acc.all (btw 0)=a5) ⟨[],_,_,.un,rfl,rfl,rfl⟩ ?_ ?_
 .rintro i d ρ hi ⟨acc,dr,lf,s5,rfl,ha,hb⟩;rw[X3]at hi;obtain⟨k,hk,rfl⟩:=Xq.mp hi;obtain⟨h1,h2⟩:=X7.mp hk;rw[iM]at h2;subst h2;rw[Xi]at h1;simp only[J5];ext;generalize (dr*48271+17*(0+(i:Int))+3)%2147483647=d2;have h3:c%3=0\/c%3=1\/c%3=2:=by omega
  have one:∃v:Int,(0<=v/\v<=1000000)/\atI [D.int (d2/16%4),D.int (d2/16%(1000000+1)),D.int 1] (c%3)=a3 (.int v):=by
   rcases h3 with e|e|e<;>rw[e]
   .exact⟨_,by omega,rfl⟩
   .exact⟨_,by omega,rfl⟩
   .exact⟨_,by omega,rfl⟩
  obtain⟨v,hv,ev⟩:=one;rw[ev];ext;by_cases hbg:(1000000000000000000:Int)<=c
  .have ix:ixN (acc.map D.int++[D.int v]).length (0+(i:Int))=a3 i:=by rw[Xb,kj,ha,Td];unfold ixN;rw[if_pos nofun,if_pos (by show(i:Int)<((i+1:Nat):Int);omega),X6]
   ext;rw[j00 ix];ext;refine⟨_,rfl,acc++[lf%(1000000+1)],d2,lf/(1000000+1),.val (.int (0+(i:Int))),?_,by rw[Xb];simp;omega,j16 hb nofun nofun⟩;have e:(acc.map D.int++[D.int v]).set i (D.int (lf%(1000000+1)))=(acc++[lf%(1000000+1)]).map D.int:=by rw[jQ,if_neg (by rw[kj];omega),kj,ha,fj,Xf];rfl
   rw[<-e]
  .ext;exact⟨_,rfl,acc++[v],_,_,_,by rw[Xf];rfl,by rw[Xb];simp;omega,j16 hb nofun nofun⟩
 .rintro ρ' ⟨acc,dr,lf,s5,rfl,ha,hb⟩;rw[kj,Xi]at ha;by_cases hs:acc.sum=0
  .obtain⟨k,hk,ek⟩:=jch (c:=c/3) (l:=acc.length) nofun
   have ek:c/3%(1*2^m)=(k:Int):=by rw[eC,<-pc,<-ha];exact ek
   ext;rw[X6];ext;rw[ek,j00 (n:=k) (by rw[kj];exact jct hk)];ext;refine⟨acc.set k 1,by rw[kC],by rw[Tg];exact ha,je0 hb nofun nofun,?_⟩;have:=j1w (v:=1) hb hk nofun
   omega
  .ext;exact⟨acc,rfl,ha,hb,hs⟩
noncomputable def hvL(w:List Int)(m:Nat):List Int:=(aw (3^m)).map λ(j:Nat)=>wsum w m (j6 3 m (j:Int))
theorem jgp(w:List Int)(m:Nat):(hvL w m).length=3^m:=by simp[hvL]
theorem jjr{w:List Int}{m j:Nat}(h:j<3^m):atI ((hvL w m).map D.int) (j:Int)=a3 (.int (wsum w m (j6 3 m (j:Int)))):=Q4 (by rw[X3,hvL,X3,Pj h];rfl)
theorem j3r{n m:Nat}{ws:List ah}{a w:List Int}(hw:ws.length=m)(hm:1<=m/\m<=6)(hl:w.length=2^m) :
  evP 1000 G T (n+4) "_law_heavy" [qD ws a,.lst (w.map D.int)]=.fresh ((hvL w m).map D.int):=by
 have on:=j07 (n:=n) (.inr rfl:D.lst (w.map D.int)=_\/_) hw hm hl;have p3:=Du hm.2;rw[jk (F:=Bt) (by rfl) rfl];simp only[Bt,Ww,enter,qD];ext;erw[at0,on];rw[qi (l:=(hvL w m).map D.int) (by rfl) (by rw[kj,Xi];omega) ?_ (.inl rfl)]
 .ext
 .rw[hvL,Xc];exact qe λj _=>zc (by ext) (by simp only[onW];ext;rw[at0];ext;rfl)
theorem j1i {n m i:Nat} {a:List Int} (h01:∀x∈a,x=0\/x=1):evP 1000 G T (n+1) "_law_is_open" [onW a m i]=.val (.bl (opB a m (j6 3 m (i:Int)))):=by
 have hl:(j6 3 m (i:Int)).length=m:=q9 3 m _;have c:=j2v (a:=a) h01 hl λt ht=>V4 (by decide) ht;have e:(decide ((0:Int)<(cnt a (j6 3 m (i:Int)) m 1:Nat))&&decide (((cnt a (j6 3 m (i:Int)) m 1:Nat):Int)<((2^Zx (j6 3 m (i:Int)):Nat):Int)))=opB a m (j6 3 m (i:Int)):=by
  have c:cnt a (j6 3 m (i:Int)) m 0+cnt a (j6 3 m (i:Int)) m 1=2^Zx (j6 3 m (i:Int)):=c;rw[<-c];unfold opB stD Es;by_cases h1:cnt a (j6 3 m (i:Int)) m 1=0
  .rw[if_pos h1,h1];rfl
  .rw[if_neg h1,decide_eq_true nofun,dk];by_cases h0:cnt a (j6 3 m (i:Int)) m 0=0
   .rw[if_pos h0,h0,decide_eq_false nofun];rfl
   .rw[if_neg h0,decide_eq_true nofun];rfl
 rw[jk (F:=Wi) (by rfl) rfl];simp only[Wi,Yb,enter,onW,<-j9j h01];ext;rw[at0,at1];ext;rw[e]
theorem jj6{ns:List Int}(h:ns≠[]):zq .min (a3 (.a [.w (ns.map D.int)]))=a3 (.v (.e (.int (Qn ns)))):=jj7 h
theorem j9x{i j k:Nat}{f:En->So}{x y z:D}{ρ:En}:O7 [i,j,k,k] f (.tup [x,y,z]) ρ=f (((ρ.set i (.val x)).set j (.val y)).set k (.val z)):=rfl
theorem j4u{f:D->En->So}{ds:List D}{ρ:En}{g g2:En->So}{Q:En->Prop}(W:Nat->En->Prop)(h0:W 0 ρ)(hs:∀i d ρ,ds[i]?=a3 d->W i ρ->∃ρ',f d ρ=.next ρ'/\W (i+1) ρ')(hk:∀ρ',W ds.length ρ'->∃ρ2,Uk (g ρ') g2=.next ρ2/\Q ρ2):∃ρ2,Uk (Uk (Jl f ds ρ) g) g2=.next ρ2/\Q ρ2:=by
 obtain⟨ρ',e,w⟩:=Qp (f:=f) W (k:=0) (ds:=ds) (ρ:=ρ) h0 λi d ρ hi w=>by rw[Pg]at w ⊢;exact hs i d ρ hi w
 rw[e];rw[Pg]at w;exact hk ρ' w
theorem jgr{t:List Int}{k:Nat}{z:Int}(h:z=(k:Int))(hk:k<t.length):atI (t.map D.int) z=a3 (.int (t.getD k 0)):=by rw[h];exact Rv hk
theorem j9c{a:List Int}{m N:Nat}:Jh ((aw N).map (onW a m))=(aw N).map λ(j:Nat)=>D.tup [.int (j:Int),onW a m j]:=by
 apply Tp;intro i;unfold Jh;rw[X3,ij,X3,X3];by_cases h:i<N
 .rw[Pj h];simp
 .rw[Xp (by rw[Xi];omega)];rfl
theorem Ky{n m:Nat}{ws:List ah}{a pr w:List Int}(hw:ws.length=m)(hm:1<=m/\m<=6)(ha:a.length=2^m)(h01:∀x∈a,x=0\/x=1)(hr:pr.length=m)(hq:Mg pr)(hl:w.length=2^m) :
  evP 1000 G T (n+5) "_law_whole" [qD ws a,.lst (w.map D.int),.lst (pr.map D.int)]=.fresh ((tab pr (wsum w m) a m).map D.int):=by
 have hv:=j3r (n:=n) (a:=a) hw hm hl;have on:=j07 (n:=n+1) (.inl rfl:D.tup (a.map D.int)=_\/_) hw hm ha;rw[jk (F:=Br) (by rfl) rfl];simp only[Br,Wu,enter];rw[show qD ws a=.tup [.tup (ws.map D.str),.tup (a.map D.int)]from rfl]at hv ⊢;ext;rw[at0];ext;rw[hw,hv];ext;rw[on];ext;rw[j9c];have p3:=Du hm.2;have hvl:=jgp w m;refine Yj (λi ρ=>∃s6 s7 s8 s9 s10 s11 s12 s13,ρ=[.val (.tup [.tup (ws.map D.str),.tup (a.map D.int)]),.val (.lst (w.map D.int)),.val (.lst (pr.map D.int)),.val (.int m),.own ((hvL w m).map D.int),.own ((v8 pr (wsum w m) m (opB a m) i).map D.int),s6,s7,s8,s9,s10,s11,s12,s13]) ⟨_,_,_,_,_,_,_,_,rfl⟩ ?_ ?_
 .rintro i d ρ hi ⟨s6,s7,s8,s9,s10,s11,s12,s13,rfl⟩;have hi':i<3^m:=by have:=(X7.mp hi).1;rw[kj,Xi]at this;exact this
  rw[X3,Pj hi']at hi;cases hi;have hl':(j6 3 m (i:Int)).length=m:=q9 3 m _;have tl:=Zm pr (wsum w m) m (opB a m) i;have io:=j1i (n:=n+3) (m:=m) (i:=i) h01;have st:=Np (n:=n+2) (i:=i) hm.2;have gh:=jjr (w:=w) hi';simp only[jdw];ext;rw[io];cases z:opB a m (j6 3 m (i:Int)) with
  |false =>ext;rw[show(v8 pr (wsum w m) m (opB a m) (i+1)).map D.int=(v8 pr (wsum w m) m (opB a m) i).map D.int++[D.int 0]by rw[v8,z,Xf];rfl];exact⟨_,rfl,_,_,_,_,_,_,_,_,rfl⟩
  |true =>
   have ne:=j27 h01 hl' (λt ht=>V4 (by decide) ht) z;have ol:(qt (j6 3 m (i:Int)) m).length<=m:=Xk (Tf _ _) (by rw[Xi];exact xx _);ext;rw[st];ext;obtain⟨cs,hcs⟩:∃cs:Nat->Int,cs=λs=>pr.getD s 0*wsum w m (j6 3 m (i:Int))+((v8 pr (wsum w m) m (opB a m) i).getD (i-2*3^(m-1-s)) 0+(v8 pr (wsum w m) m (opB a m) i).getD (i-1*3^(m-1-s)) 0):=⟨_,rfl⟩
   refine j4u (λj ρ=>∃s10 s11 s12 s13,ρ=[.val (.tup [.tup (ws.map D.str),.tup (a.map D.int)]),.val (.lst (w.map D.int)),.val (.lst (pr.map D.int)),.val (.int m),.own ((hvL w m).map D.int),.own ((v8 pr (wsum w m) m (opB a m) i).map D.int),.val (.int (i:Int)),.val (onW a m i),.val (.int 0),.own ((((qt (j6 3 m (i:Int)) m).take j).map cs).map D.int),s10,s11,s12,s13]) ⟨_,_,_,_,rfl⟩ ?_ ?_
   .rintro j d ρ hj ⟨s10,s11,s12,s13,rfl⟩;rw[X3]at hj;obtain⟨s,hs,rfl⟩:=Xq.mp hj;obtain⟨q1,q2⟩:=Xu.mp (Xm hs);have hs':=Xd.mp q1;have h2:(j6 3 m (i:Int)).getD s 0=2:=of_decide_eq_true q2;obtain⟨l0,_⟩:=Vb (c:=0) hi' hs' h2 (.inl rfl);obtain⟨l1,_⟩:=Vb (c:=1) hi' hs' h2 (.inr rfl);have wpos:0<3^(m-1-s):=f9 (by simp);have g:=Rv (p:=pr) (k:=s) nofun
    have gq:=hq s nofun
    have g0:=jgr (t:=v8 pr (wsum w m) m (opB a m) i) (k:=i-2*3^(m-1-s)) (z:=(i:Int)-2*((3^(m-1-s):Nat):Int)) nofun nofun
    have g1:=jgr (t:=v8 pr (wsum w m) m (opB a m) i) (k:=i-1*3^(m-1-s)) (z:=(i:Int)-((3^(m-1-s):Nat):Int)) nofun nofun
    have tk:(qt (j6 3 m (i:Int)) m).take (j+1)=(qt (j6 3 m (i:Int)) m).take j++[s]:=by rw[Tq,hs];rfl
    have ll:((qt (j6 3 m (i:Int)) m).take j).length<=1000:=by rw[Xo];omega
    simp only[stp,j9x];ext;rw[g,gh];ext;rw[g0,g1];ext;have ce:(((qt (j6 3 m (i:Int)) m).take (j+1)).map cs).map D.int=(((qt (j6 3 m (i:Int)) m).take j).map cs).map D.int++[D.int (pr.getD s 0*wsum w m (j6 3 m (i:Int))+(v8 pr (wsum w m) m (opB a m) i).getD (i-2*3^(m-1-s)) 0+(v8 pr (wsum w m) m (opB a m) i).getD (i-1*3^(m-1-s)) 0)]:=by rw[tk,Xf,Xf,Int.add_assoc];simp only[xr,cu,hcs]
    rw[ce];exact⟨_,rfl,_,_,_,_,rfl⟩
   .rintro ρ ⟨s10,s11,s12,s13,rfl⟩;rw[kj,t7 (xx _)];ext;rw[jj6 (by simpa using ne)];ext;rw[show(v8 pr (wsum w m) m (opB a m) (i+1)).map D.int=(v8 pr (wsum w m) m (opB a m) i).map D.int++[D.int (Qn ((qt (j6 3 m (i:Int)) m).map cs))]by rw[v8,z,Xf,hcs];rfl];exact⟨_,rfl,_,_,_,_,_,_,_,_,rfl⟩
 .rintro ρ ⟨s6,s7,s8,s9,s10,s11,s12,s13,rfl⟩;ext;rw[Xi];rfl
theorem jc3{m:Nat}{d:Option (List Int)}(h:∀l,d=a3 l->l.length=m/\l.all (btw 1)=a5):Mg (prD d m):=λs hs=>by
 cases d with
 |none =>have hs:s<(ae m (1:Int)).length:=hs;rw[Px]at hs;show 0<=(ae m (1:Int)).getD s 0/\_;rw[km,dy,if_pos hs];show(0:Int)<=1/\(ae m (1:Int)).getD s 0<=1000000;rw[km,dy,if_pos hs];decide
 |some l =>have hs:s<l.length:=hs;have:=Pa.mp (h l rfl).2 (l.getD s 0) (by rw[km,kh hs];exact Xy _);unfold btw at this;rw[Xg]at this;have h1:=of_decide_eq_true this.1;have h2:=of_decide_eq_true this.2;show 0<=l.getD s 0/\l.getD s 0<=1000000;omega
theorem jl1{d:Option (List Int)}{i:Nat}{Γ:ah->List D->Rc}{ρ:En}{e:Option ah}{ρ0:En}{r:Sx}(hi:i<ρ.length):Uk (orE (Rh i (rcW (rcO d)) ρ) e ρ0) (run 1000 Γ G (.seq (.keep i) r))=run 1000 Γ G r (ρ.set i (.val (feD d))):=by
 cases d with
 |none =>simp only[rcO,jai,j4s,Bh,Ri,Ds,Bc,cw hi,K4];rfl
 |some l =>simp only[rcO,jaj,j4r,Bh,Ri,Ds,Bc,cw hi,K5,kB];rfl
theorem Lp {n m:Nat} {d:Option (List Int)} (hm:m<=6) (hd:∀l,d=a3 l->l.length=m/\l.all (btw 1)=a5):evP 1000 G T (n+2) "prices_told" [.int m,feD d]=.fresh ((prD d m).map D.int):=by
 cases d with
 |none=>exact j51 (n:=n+1) hm
 |some l=>exact j7z (hd l rfl).1 hm (hd l rfl).2
noncomputable def flip(a:List Int):List Int:=a.map λx=>1-x
theorem j94{a p:List Int}{m:Nat}(ha:a.length=2^m)(h01:∀x∈a,x=0\/x=1):cnt (flip a) p m 1=cnt a p m 0/\cnt (flip a) p m 0=cnt a p m 1:=by
 have one:∀k∈inL p m,(flip a).getD k 0=1-a.getD k 0/\(a.getD k 0=0\/a.getD k 0=1):=λk hk=>by
  have hk':k<a.length:=by rw[ha];exact Xd.mp (Xu.mp hk).1
  rw[km,km,flip,X3,kh hk'];exact⟨rfl,h01 _ (Xy _)⟩
 unfold cnt;constructor
 .refine jA λk hk=>?_;obtain⟨e,h⟩:=one k hk;rw[e];rcases h with q|q<;>rw[q]<;>decide
 .refine jA λk hk=>?_;obtain⟨e,h⟩:=one k hk;rw[e];rcases h with q|q<;>rw[q]<;>decide
theorem jd9{a p:List Int}{m:Nat}(ha:a.length=2^m)(h01:∀x∈a,x=0\/x=1):opB (flip a) m p=opB a m p:=by obtain⟨h1,h0⟩:=j94 (p:=p) ha h01;unfold opB stD;rw[h1,h0];unfold Es;by_cases z1:cnt a p m 1=0<;>by_cases z0:cnt a p m 0=0<;>simp[z1,z0,D.isNon]
theorem j93{pr a:List Int}{wt:List Int->Int}{m:Nat}(ha:a.length=2^m)(h01:∀x∈a,x=0\/x=1):tab pr wt (flip a) m=tab pr wt a m:=by unfold tab;rw[show opB (flip a) m=opB a m from funext λp=>jd9 ha h01]
theorem jee{pr a:List Int}{wt:List Int->Int}{m:Nat}:(PK (ae m 2)).map (Wp pr wt a m)=tab pr wt a m:=by
 have e:PK (ae m 2)=Vw m:=by rw[<-j5h,Ji];rfl
 have tl:(tab pr wt a m).length=3^m:=Zm ..;rw[e,Vw,Xc];refine List.ext_getElem (by rw[kj,Xi,tl]) λj h1 h2=>?_;rw[List.getElem_map,iM];have hj:j<3^m:=by omega
 show(tab pr wt a m).getD (qx (j6 3 m (j:Int))).toNat 0=_;rw[W7,fK hj,X6,km,kh h2];rfl
theorem jel{d:Option (List Int)}:stOf (rcW (rcO d))=a3 (feD d):=by cases d<;>rfl
theorem j3y{d:Option (List Int)}{w:List Int}:D.depL [feD d,.lst (w.map D.int)]<=90:=by
 cases d with
 |none=>simp[feD,D.depL,D.dep,M5]
 |some l=>simp[feD,D.depL,D.dep,M5]
noncomputable def depth:Nat:=14
theorem lawTrue:∀ns:List Int,ns.length<=63->evP 1000 G T (depth+1) "law" [.lst (ns.map D.int)]=.val (.bl a5):=by
 intro ns hns;rw[jk (F:=j3s) (by rfl) rfl];simp only[j3s,j45,enter,depth];obtain⟨most,hmost,gm⟩:=j88 (jn ns 39);have mo:1<=most/\most<=6:=by omega
 have hm:=Dz (ns:=ns) (a:=0) (most:=most) mo;obtain⟨ws,⟨wnd,wl⟩,qs⟩:=j1c (n:=12) (ns:=ns) (a:=0) (most:=most) (by decide) mo;have qs:evP 1000 G T 14 "_law_question" [.lst (ns.map D.int),.int 0,.int most]=_:=qs;have a01:=jdz (n:=12) (ns:=ns) (a:=0) (most:=most) mo;obtain⟨m,em⟩:∃m:Nat,m=Zy ns 0 most:=⟨_,rfl⟩
 have al:(Yx 12 ns 0 most).length=2^m:=by simp[Yx,<-em]
 rw[<-em]at hm wl;generalize Yx 12 ns 0 most=a at *;have hm6:1<=m/\m<=6:=by omega
 have cz:∀k:Nat,k<=50->evP 1000 G T 14 "_law_cell" [.lst (ns.map D.int),.int (k:Int)]=.val (.int (jn ns k)):=λk hk=>Ud Il (k:=k) nofun
 have c39:evP 1000 G T 14 "_law_cell" [.lst (ns.map D.int),.int 39]=_:=cz 39 (by decide);have c3:evP 1000 G T 14 "_law_cell" [.lst (ns.map D.int),.int 3]=_:=cz 3 (by decide);have c4:evP 1000 G T 14 "_law_cell" [.lst (ns.map D.int),.int 4]=_:=cz 4 (by decide);obtain⟨d,dp,dok⟩:=j1d (n:=13) (c:=jn ns 3) hm6.2;obtain⟨w,we,wlen,w0,wsn⟩:=Kv (n:=12) (c:=jn ns 4) hm6.2;have prl:(prD d m).length=m:=by
  cases d with
  |none=>exact Px ..
  |some l=>exact(dok l rfl).1
 have hq:=jc3 dok;have lw:=Ky (n:=9) (pr:=prD d m) (w:=w) wl hm6 al a01 prl hq wlen;have fl:(flip a).length=2^m:=by rw[flip,kj,al]
 have f01:∀x∈flip a,x=0\/x=1:=λx hx=>by obtain⟨y,hy,rfl⟩:=Xh.mp hx;have:=a01 y hy;omega
 have wt:=Lg (n:=5) wl hm6 al a01 prl hq wlen w0 wsn (Lp (n:=10) hm6.2 dok);have wf:=Lg (n:=5) wl hm6 fl f01 prl hq wlen w0 wsn (Lp (n:=10) hm6.2 dok);rw[jee]at wt wf;rw[j93 al a01]at wf;have tl:(tab (prD d m) (wsum w m) a m).length=3^m:=Zm ..;have p3:=Du hm6.2;generalize tab (prD d m) (wsum w m) a m=t at *;have sm:evP 1000 G T 14 "_law_same" [.tup (t.map D.int),.tup (t.map D.int)]=.val (.bl a5):=j4w jjs 1 (n:=12) (by simp only[D.dep];have:=M5 t;omega) (j5t nofun);simp only[qD]at lw wt wf;ext;erw[c39,gm,qs,at0];rw[wl,c3];ext;rw[dp,jl1 (by simp)];ext;erw[c4,we,j7t];rw[dp,jel];refine(congrArg fin (jcq (r:=[.val (.lst (ns.map D.int)),.val (.tup [.tup (ws.map D.str),.tup (a.map D.int)]),.val (.int m),.val (.int (jn ns 3)),.val (feD d),.val (.lst (w.map D.int)),.val (.lst [feD d,.lst (w.map D.int)]),.val (.tup (t.map D.int)),.val (.tup (t.map D.int)),.val (.tup [.tup (ws.map D.str),.tup ((flip a).map D.int)]),.un]) ?hm ?hc)).trans ?hk
 case hc=>exact⟨by simp,by decide,rfl,rfl⟩
 case hk =>
  have nt:vd (.tup (t.map D.int))=a5:=by rw[vd];exact zr t
  have le:∀x:D,Vq 6 [7,8,8,8,9] [.val (.lst (ns.map D.int)),.val (.tup [.tup (ws.map D.str),.tup (a.map D.int)]),.val (.int m),.val (.int (jn ns 3)),.val (feD d),.val (.lst (w.map D.int)),.un,.un,.un,.un,.un]
    [.val (.lst (ns.map D.int)),.val (.tup [.tup (ws.map D.str),.tup (a.map D.int)]),.val (.int m),.val (.int (jn ns 3)),.val (feD d),.val (.lst (w.map D.int)),.val (.lst [feD d,.lst (w.map D.int)]),.val (.tup (t.map D.int)),.val (.tup (t.map D.int)),.val x,.un]
    = [.val (.lst (ns.map D.int)),.val (.tup [.tup (ws.map D.str),.tup (a.map D.int)]),.val (.int m),.val (.int (jn ns 3)),.val (feD d),.val (.lst (w.map D.int)),.un,.val (.tup (t.map D.int)),.val (.tup (t.map D.int)),if vd x=a5 then .val x else .un,.un]:=λx=>by
   simp[Vq,U9,aw,List.range.loop,nt]
  have nx:vd (.tup [.tup (ws.map D.str),.tup ((flip a).map D.int)])=a5:=by
   have ns:∀l:List ah,zg (l.map D.str)=a5:=λl=>by
    induction l with
    |nil=>rfl
    |cons x l ih=>rw[xr,zg,ih];rfl
   simp only[vd,zg,ns,zr,Bool.and_self]
  refine(congrArg (λz=>fin (run 1000 (evP 1000 G T 14) G _ z)) (le _)).trans ?_;erw[if_pos nx,wt,sm]
 case hm =>
  have wl3:∀x:D,atI [x,D.lst (w.map D.int)] 1=a3 (.lst (w.map D.int)):=λ_=>rfl;rw[Yk (d:=.tup (t.map D.int)) ?h7]
  case h7 =>
   have cm:=j40 (n:=13) (d:=d) hm6.2;cases d with
   |none =>simp only[feD,prD,ke]at cm lw ⊢;ext;rw[cm];ext;rw[W4 rfl];rw[lw];ext
   |some l =>simp only[feD,prD,ke]at cm lw ⊢;ext;erw[cm,lw]
  simp only[Xx,Xr];rw[W8 (k:=decide (d.isNone=a5/\jn ns 3/4%2=1)) (ρ1:=[.val (.lst (ns.map D.int)),.val (.tup [.tup (ws.map D.str),.tup (a.map D.int)]),.val (.int m),.val (.int (jn ns 3)),.val (feD d),.val (.lst (w.map D.int)),.val (.lst [feD d,.lst (w.map D.int)]),.val (.tup (t.map D.int)),.val (.tup (t.map D.int)),.un,.un]) ?hc1 ?hb1]
  case hc1 =>
   cases d with
   |none =>
    simp only[feD];by_cases h:jn ns 3/4%2=1
    .ext;simp[h]
    .ext;simp[h]
   |some l =>simp only[feD];ext;simp
  case hb1 =>
   by_cases k:d.isNone=a5/\jn ns 3/4%2=1
   .rw[decide_eq_true k,if_pos rfl];rw[Yk (d:=.tup (t.map D.int)) ?h8]
    case h8 =>
     have ed:feD d=.non:=by cases d with|none=>rfl|some l=>simp at k
     rw[ed]at wt;ext;erw[wl3,wt]
    rfl
   .rw[decide_eq_false k,if_neg xf];have w03:atI [feD d,D.lst (w.map D.int)] 0=a3 (feD d):=rfl;rw[W8 (k:=decide (jn ns 3/8%2=1)) (ρ1:=[.val (.lst (ns.map D.int)),.val (.tup [.tup (ws.map D.str),.tup (a.map D.int)]),.val (.int m),.val (.int (jn ns 3)),.val (feD d),.val (.lst (w.map D.int)),.val (.lst [feD d,.lst (w.map D.int)]),.val (.tup (t.map D.int)),.val (.tup (t.map D.int)),.un,.un]) ?hc4 ?hb4]
    case hc4 =>
     by_cases h:jn ns 3/8%2=1
     .ext;simp[h]
     .ext;simp[h]
    case hb4 =>
     by_cases h:jn ns 3/8%2=1
     .rw[decide_eq_true h,if_pos rfl];rw[Yk (d:=.tup (t.map D.int)) ?h8]
      case h8 =>ext;rw[wl3,w03];ext;rw[wt];ext
      rfl
     .rw[decide_eq_false h,if_neg xf];rw[Yk (d:=.tup (t.map D.int)) ?h8]
      case h8 =>ext;rw[wl3,w03];ext;rw[wt];ext
      rfl
    rfl
  rw[W8 (k:=a4) (ρ1:=[.val (.lst (ns.map D.int)),.val (.tup [.tup (ws.map D.str),.tup (a.map D.int)]),.val (.int m),.val (.int (jn ns 3)),.val (feD d),.val (.lst (w.map D.int)),.val (.lst [feD d,.lst (w.map D.int)]),.val (.tup (t.map D.int)),.val (.tup (t.map D.int)),.un,.un]) ?hc2 rfl]
  case hc2 =>ext;rw[sm];ext;rw[j9k j3y j3y,Ub _ (by have:=j3y (d:=d) (w:=w);omega)];rfl
  rw[Yk (d:=.tup [.tup (ws.map D.str),.tup ((flip a).map D.int)]) ?h9]
  case h9 =>
   have p2:=eB (show 0<2 by decide) hm6.2;ext;rw[at0,at1];ext;rw[qi (l:=(flip a).map D.int) (by rfl) (by rw[kj,al];omega) ?_ (.inl rfl)]
   .ext
   .rw[flip,Xc];exact qe λx _=>zc (by ext) (by ext;rfl)
  simp only[Xx,Xr];rw[W8 (k:=a4) (ρ1:=[.val (.lst (ns.map D.int)),.val (.tup [.tup (ws.map D.str),.tup (a.map D.int)]),.val (.int m),.val (.int (jn ns 3)),.val (feD d),.val (.lst (w.map D.int)),.val (.lst [feD d,.lst (w.map D.int)]),.val (.tup (t.map D.int)),.val (.tup (t.map D.int)),.val (.tup [.tup (ws.map D.str),.tup ((flip a).map D.int)]),.un]) ?hc3 rfl]
  case hc3 =>ext;erw[wf,sm]
  exact j7v
end K30
end
open PySem PySem.W PyProof.Rows
local macro_rules | `(tactic| walk_at "lf") => `(tactic| (refine' L2.lf_mk ?a ?l ?c ?k; (case a => k_is); (case l => k_is); (case c => k_is); (case k => k_is)))
local macro_rules | `(tactic| walk_at "ld") => `(tactic| (refine' L2.lfd_mk ?a ?l ?c ?k ?t; (case a => k_is); (case l => k_is); (case c => k_is); (case k => k_is); (case t => k_is)))
set_option Elab.async false
namespace PySem.W.Fast
def tw7779760280078480551:=0
def tw9683916846552531351:=0
def tw12264464622076009239:=0
def tw1694607147920320598:=0
def tw15976622288591098873:=0
def tw6285649141857413465:=0
def tw7501434126071934071:=0
def tw325518202041930254:=0
def tw3004098627830375266:=0
def tw12628728729330914706:=0
def tw14759721284825314824:=0
def tw12013361240844516874:=0
def tw18108138271670817972:=0
def tw9112134030292281108:=0
def tw5063636496384402007:=0
def tw3772933678961348178:=0
def tw17675149322763147616:=0
def tw13048622419677266402:=0
def tw1921460123689353814:=0
def tw10439804498977216872:=0
def tw15737783655941926060:=0
def tw16314102266248224297:=0
def tw16288377984319577815:=0
def tw2947693578909740912:=0
def tw6672495132092316334:=0
def tw2592782097590553637:=0
def tw5588435037917814361:=0
def tw5429022967387146750:=0
def tw2357830038623815228:=0
def tw9829587874485864198:=0
def tw7863200606754992884:=0
def tw13951244096361902466:=0
def tw15114781696243674390:=0
def tw3141858478198305394:=0
def tw1448885129725315250:=0
def tw13091402486155854261:=0
def tw4855229557900392501:=0
def tw10136507227034405195:=0
def tw12161677087096114355:=0
def tw14019599058357345957:=0
def tw9148072261304084503:=0
def tw14528211295495325899:=0
def tw748007179030816909:=0
def tw6536034291229873524:=0
def tw3326324194145613527:=0
def tw17026587431572629011:=0
def tw10803607187755466483:=0
def tw1850029006871805983:=0
def tw4744596133659538375:=0
def tw7933875877800794763:=0
def tw3575867202443088401:=0
def tw7890718162360942221:=0
def tw987793191934626540:=0
def tw635634557027748410:=0
def tw15127127522119576012:=0
def tw16511561587780230205:=0
def tw7134647383196449600:=0
def tw7525912880642132673:=0
def tw4680876322009811971:=0
def tw16034574639050352071:=0
def tw13471423009433106577:=0
def tw10592706670756135174:=0
def tw7281084761533581375:=0
def tw7107456855420490925:=0
def tw14931943820363263773:=0
def tw11411592004827212591:=0
def tw3117830927753095051:=0
def tw5422589545446605169:=0
def tw11215217272542931818:=0
def tw913009898328941234:=0
def tw5287171807931634828:=0
def tw1554361626947346281:=0
def tw11614712312393090353:=0
def tw1766542674334657737:=0
def tw8200199440650849035:=0
def tw13178160010090514797:=0
def tw10334757032971483507:=0
def tw2334433253791145724:=0
def tw4651631857219434159:=0
def tw4263065930264526540:=0
def tw15415188160976155325:=0
def tw14991617927888153489:=0
def tw5497824637905897724:=0
def tw971248979638820911:=0
def tw10597726779659355946:=0
def tw11753794175330108663:=0
def tw2912550255800321804:=0
def tw7692769912355181391:=0
def tw12011729601402015699:=0
def tw9667950723546374482:=0
def tw9435368233812655520:=0
def tw6620931376171900893:=0
def tw16310117494720670059:=0
def tw15613620684932228228:=0
def tw14284599035593129793:=0
def tw1138147470007055592:=0
def tw87088803317844838:=0
def tw10132976475454329685:=0
def tw17552236595262343362:=0
def tw1276222283413575190:=0
end PySem.W.Fast
set_option maxRecDepth 100000 in
set_option maxHeartbeats 0 in
theorem PySem.Challenge.cw_leastasks_k30_whole_table_cells_holds : PySem.Challenge.rw_leastasks_k30_whole_table_cells.Holds := by
  w_on; o_law; k_head; (case hw => w_witness2)
  k_fill
  refine L2.walkL (l := PySem.Challenge.rw_leastasks_k30_whole_table_cells) (k := L2.lv (K30.depth + 1)) (x := "_law_script") (by decide) rfl rfl (fun w h Y => ⟨PySem.W.km_in_of Y, PySem.W.km_tabs_of Y⟩) ?tz ?F
  case tz => intro w; kernel_rfl
  case F =>
    intro w mg fa h KX Gn hmg tz
    refine' K30.head KX Gn hmg ?h0 ?h1 ?h2 ?h3 ?h4 ?h5 ?h6 ?h7 ?h8 ?h9 ?h10 ?h11 ?h12 ?h13 ?h14 ?h15 ?h16 ?h17 ?h18 ?h19 ?h20 ?h21 ?h22 ?h23 ?h24 ?h25 ?h26 ?h27 ?h28 ?h29 ?h30 ?h31 ?h32 ?h33 ?h34 ?h35 ?h36 ?h37 ?h38 ?h39 ?bz tz ?gn0 ?gn1 ?ga2l ?gn2 ?gn3 ?ga6l ?gn4 ?gn5 ?gn6 ?gn7 ?exa K30.lawTrue
    (case h0 => walk_at "lf")
    (case h1 => walk_at "lf")
    (case h2 => walk_at "lf")
    (case h3 => walk_at "lf")
    (case h4 => walk_at "lf")
    (case h5 => walk_at "lf")
    (case h6 => walk_at "lf")
    (case h7 => walk_at "lf")
    (case h8 => walk_at "lf")
    (case h9 => walk_at "lf")
    (case h10 => walk_at "lf")
    (case h11 => walk_at "lf")
    (case h12 => walk_at "lf")
    (case h13 => walk_at "lf")
    (case h14 => walk_at "lf")
    (case h15 => walk_at "lf")
    (case h16 => walk_at "lf")
    (case h17 => walk_at "lf")
    (case h18 => walk_at "lf")
    (case h19 => walk_at "lf")
    (case h20 => walk_at "lf")
    (case h21 => walk_at "ld")
    (case h22 => walk_at "lf")
    (case h23 => walk_at "lf")
    (case h24 => walk_at "lf")
    (case h25 => walk_at "lf")
    (case h26 => walk_at "lf")
    (case h27 => walk_at "lf")
    (case h28 => walk_at "lf")
    (case h29 => walk_at "lf")
    (case h30 => walk_at "lf")
    (case h31 => walk_at "lf")
    (case h32 => walk_at "lf")
    (case h33 => walk_at "lf")
    (case h34 => walk_at "lf")
    (case h35 => walk_at "lf")
    (case h36 => walk_at "lf")
    (case h37 => walk_at "lf")
    (case h38 => walk_at "lf")
    (case h39 => walk_at "lf")
    (case gn0 => k_is)
    (case gn1 => k_is)
    (case gn2 => k_is)
    (case gn3 => k_is)
    (case gn4 => k_is)
    (case gn5 => k_is)
    (case gn6 => k_is)
    (case gn7 => k_is)
    (case ga6l => k_is)
    (case ga2l => k_is)
    (case bz => kernel_rfl)
    (case exa => kernel_rfl)
#print axioms PySem.Challenge.cw_leastasks_k30_whole_table_cells_holds