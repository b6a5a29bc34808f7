import PyProof.Rows.All
import Wide.All
import OpenK.AllK
import Wide.FinOn
import Lean
import PyProof.EqAt
import PyProof.EqKinds
import PyProof.TupleCall
import PyProof.Rows.SetFrom
import KE.KDictList
import KE.KMinKey
import PyProof.ListRange
import KE.KRevIter
import PyProof.TupleOfGen
import PyProof.StrBlockL
import PySem.Challenge.RW_leastasks_k41_rounds_to_ask
set_option Elab.async false
set_option linter.all false
set_option maxRecDepth 100000
set_option maxHeartbeats 4000000
set_option genSizeOf false
set_option genInjectivity false
open Option renaming some→a3,none→a6,getD_some→d7,map_some→dq,isSome_some→dY,join_some→iQ,getD_none→iR,bind→kv
open Bool renaming false→a4,true→a5,or_eq_true→bX,eq_iff_iff→dB,true_and→eG,or_false→eJ,false_or→eK,not_eq_true'→ff,false_and→fY,and_false→fZ,and_true→kx
open PySem renaming starEach→a7,wpAny_bind→a8,Value→a9,Addr→aa,Shared→ae,Str→af,wpAny_pure→ah,Expr→ai,sizeLine→aj,mainGlobals→ak,wpAny→ao,Program→au,model→ax,eval→ay,World→aA,Around→aB,foldedSetIterable→aC,Heap→aD,attributeBase→aF,swapsWith→aG,wpAny_newObj_type→aH,cLine→aI,Pos→aJ,backTo→aK,cellsFrom→aL,wpAny_Call_Name_kw→aM,FuncData→aN,behindInMarks→aO,compareOp→aP,Stmt→aS,Keyword→aT,argBest→aW,keywordEach→aX,binaryOp→b0,wpAny_mono→b7,Scope→b9,call_meets→bc,NameKind→be,wpAny_truthy_bool→bh,wpAny_call_entry→br,wpAny_callSpecial?_slot→bu,recursionLimit→bx,backToKw→bA,wpAny_typeNameOfWhole_valiter→bC,codeAny_mono→bD,bootBuiltins→bE,assignEach→bF,codeAny_builtin→bI,wpAny_pyIter_list→bN,wpAny_field→bV,wpAny_typeNameOf_valiter→cc,codeAny→cg,Obj→cC,plainId_quiet→cJ,Builtin→cK,sliceBounds→cM,wpAny_passesOwn→cV,wpAny_loadPart'→cW,wpAny_seqItems→df,rawInt→dh,builtinsNs→di,Env→dj,sizeLine_eq→dw,draw→dD,bindArgs→dE,PassesOwn→dG,Arguments→dH,wpAny_pyNext_list_item→dR,sysModules→dS,letOwnedTupleGo→dW,wpAny_isOneOf_valiter→eF,wpAny_tryCatch→eN,wpAny_setField→eO,pyNext→eP,intItems→eQ,firstArgMember→eT,assign→eU,Result→eV,JoinOk→eW,IsPart→eX,GenState→eY,tupleKind→f9,intKind→fb,codeAmong→fc,wpAny_holding→fj,wpAny_pyIter_tuple→fD,wpAny_call→fE,typeIs_int→fF,isTrue→fG,closureFor→fH,wpAny_loadPart_at→fP,wpAny_dictEntries→fQ,concat_meets→fR,callerA→fT,boot_len→fU,BindsTo→fV,wpAny_forIn_list→gb,seqItems?→gc,noteFrame→gd,noFill_tuple_add→gf,checkBuiltinCall→gh,DictEntry→gj,wpAny_of_eq→gp,wpAny_letGo→gq,richCompare→gr,numAt→gu,wpAny_updateSeq→gz,wpAny_execs_nil→gB,wpAny_dictEpoch→gC,Tok→gH,wpAny_newFunctionEnv_cells→hJ,typeIs_str→hU,newFunctionEnv→hV,wpAny_binaryOp_repeat_ref→ip,evalArgs_none→iq,wpAny_standAt→iz,wpAny_comprehension_free→iA,wpAny_attempt→iB,seq_tuple_add→iC,call→iD,wpAny_Call_method0_late→iK,pushCells→iL,bindL→iM,bindC→iN,again→iO,Model→iP,seqSlot_of→j1,richCompare_meets_room→j2,pyIter→j3,getItem→ja,wpAny_pyNext_list_end→jH,codeAny_call_function→jI,lookup_relabel_local→jO,intItems_at→jP,codeAny_call_builtin→jQ,atKey→jR,Operator→jS,Meets→jT,CmpOp→jU,wpAny_Name→kn,tupleKind_room_in1→ko,entryOfKey→kq,defaultsOf→kr,wpAny_pyIter_enum→kB,wpAny_assign_Name→kC,standAt→kD,spliced→kE,holding→kF,call_sum_walkAnyS→kH,ItemsOf→kI,wpAny_execs_cons→kZ,setFlight→l5,rule→l6,lastMarks→l7,pushCells_keeps→lM,wpAny_fieldsOf→lV,typeOf→lW,newExc→lX,Sem→lY,Params→lZ,wpAny_handled→m8,intBits_le_64→m9,evalPart_none→ma,call_list_seq→md
open List renaming replicate→aq,range→ar,mem_of_mem_take→bL,not_mem_nil→bO,getD_cons_succ→bT,filterMap_cons→bU,length_zipIdx→bY,length→c7,filter_cons_of_pos→c8,filter_cons_of_neg→c9,range_succ_eq_map→cj,getElem_inj→cy,range_succ→cD,of_mem_zip→cE,getElem?_append_right→cP,foldl→cQ,drop_zero→cR,getElem?_set→d5,getElem?_cons_zero→dk,nil_append→dz,nodup_nil→dO,getElem?_set_ne→dP,toList_toArray→dZ,mem_map_of_mem→eA,getD_cons_zero→eB,countP_filter→eM,getElem_take→fe,nodup_range→fm,drop_length→fq,cons_append→fv,map_take→gv,map_drop→gw,all_cons→gx,getElem?_set_self→gJ,take_append_drop→i5,length_replicate→i6,getElem?_zipIdx→ir,getElem?_mapIdx→iu,zip_cons_cons→iS,map_replicate→iT,countP_append→iU,contains_cons→iV,reverse_cons→jB,pairwise_map→jC,foldl_append→jD,range'_succ→jJ,mem_flatMap→jK,any_toArray→jL,mem_zipIdx→jX,find?_cons→jY,filter_nil→jZ,filter_map→k6,countP_map→k7,any_nil→kJ,all_map→kK,range'→lj
open Option.some renaming inj→aw
open PySem.Value renaming ref→az,none→aR,int→b8,str→bg,bool→bp,builtin→cZ,type→eC,notImplemented→gM,isInt→kz
open PySem.Builtin.Str renaming strSliceIndices→aE,tooLong→cu,occurrences→fi,glued→lU
open Or renaming inl→aQ,inr→bf
open PySem.Str renaming ofString→aU,empty→fA,cps→kM,length→lT
open PySem.Builtin.SmallTypes renaming nextOf→aV
open False renaming elim→aY
open PySem.Builtin.Tuple renaming tupleExact→aZ,tupleCompareSizes→dC,tupleTooMany→eD,tupleItemsOf→kW
open PySem.NameKind renaming free→ba,cell→bq
open PySem.PassesOwn renaming never→bj,leaving→gG
open PyProof.Rows renaming envOfC→bo,IntsAre→cL,AllBare→dy,boot_isinstance→dX,seqObj→eZ,IsTup→hZ,subscriptTail_builtinR→jv,boot_min→jV,FormattedValue_plain→jW,slot_tuple_getitem→ku,get?_update_seq→lN,tail_any→m6,slicePart_none→m7,subscriptTail→mf
open PySem.Builtin.Slice renaming slicePlaces→bB,sliceAdjust→cz,sliceApplied→eE,slicePartIndex→kX,sliceFields→kY
open PySem.Txt renaming slice→bG,join→dQ,mul→iY
open PySem.Builtin.List renaming listTooLong→bH,listExtendWith→lK
open Ne renaming symm→bJ
open PySem.Heap renaming size_push→bK,SameBut→cf,ExtBut→dM,get?_update_self→gO
open PySem.AutoSeq1 renaming wpAny_loadPart'→bM,sub_tuple_tuple→fL
open ForInStep renaming yield→bP
open Array renaming getElem?_eq_getElem→bQ,length_toList→cG,append_inj_right→gE,getElem?_toList→gK,toList→ky
open PySem.F renaming slot_tuple_iterator_next→bR,args_tuple_add_2→cU,entry_tuple_add→d4,slot_tuple_add→d9,entry_min_loop→de,slot_int_rmul→dN,excBase_ValueError→fB,args_dict_valueiterator_next_1→fC,entry_dict_valueiterator_next→fK,plainAttrs_tuple→fN,args_tuple_lt_2→fX,entry_tuple_lt→g6,args_tuple_iterator_next_1→g9,slot_tuple_lt→gm,entry_tuple_iterator_next→gn,slot_tuple_index→gP,slot_tuple_count→gQ,slot_list_extend→gR,slot_list_append→gX,slot_dict_values→gY,slot_list_index→ic,slot_list_count→ie,slot_list_clear→ig,slot_dict_values_iter→ij,typeOf_object_class→iH,slot_str_join→iI,args_object_init_2→iZ,args_tuple_mul_2→jN,plain_tuple_new→k8,plain_list_iadd→k9,entry_tuple_mul→ka,args_int_rmul_2→kc,slot_tuple_mul→ki,entry_int_rmul→kl,fills_int_mul→kA
open Int renaming zero_add→bS,le_refl→cb,pow_pos→cB,natCast_mul→cH,mul_comm→dA,add_mul_ediv_left→dJ,mul_le_mul_of_nonneg_right→fJ,fdiv_eq_ediv_of_nonneg→gk,pow_succ→i7,ne_of_gt→i8,le_of_lt→i9,add_comm→ia,mul_ediv_add_emod→iv,one_mul→iG,natCast_add→kg,mul_assoc→kL,neg_mul→lQ,mul_one→lR
open PySem.Builtin.Dict_items renaming ownsTuple→bW,newIterator→jF,dictOf→jG
open Nat renaming lt_of_le_of_lt→bZ,mul_comm→cN,le_of_lt→cO,lt_succ_of_lt→d8,mod_eq_of_lt→dr,lt_succ_self→du,one_mul→dU,not_lt_zero→fW,mul_assoc→gD,sub_zero→i3,lt_or_ge→i4,mul_le_mul_right→iE,add_sub_cancel→jA,min_eq_left→ke,succ_mul→l9,min_self→lh,pow_pos→lO,log2_lt→lP
open Function renaming comp→ck
open PySem.W renaming mg_of→cq,nsIn→cY,OpenLaw→d6,KdlSrc→fw,findIn→gL,WalkO→iw,looks_findIn→iW,CodeHd→iX,KitX→jM,Frag→lS
open PySem.SeqAt renaming EqAt→cw,RcAt→fM
open List.Sublist renaming refl→cA
open PySem.Obj renaming mapSeq→cS,data_mapFields→cT,mapFields→gy,isFreed_of_fields→ib,cls_mapFields→jE
open Classical renaming propDecidable→cX
open PySem.Calls renaming callWith_builtin→dn,Name_function_global→fO,evalArgs_plain→gZ,spliced_cons→iy,spliced_nil→iJ
open Sum renaming inr→fg,inl→fh
open PySem.EqMixed renaming ne_str_int→kN,ne_str_bool→kO,ne_int_str→kP,ne_bool_str→kQ,eq_str_int→kR,eq_str_bool→kS,eq_int_str→kT,eq_bool_str→kU
open PySem.EqNone renaming ne_str_none→lp,ne_none_str→lq,ne_none_none→lr,ne_none_int→lz,ne_none_bool→lA,ne_int_none→lB,ne_bool_none→lC,eq_str_none→lD,eq_none_str→lE,eq_none_none→lF,eq_none_int→lG,eq_none_bool→lH,eq_int_none→lI,eq_bool_none→lJ
def kh:=@List.getElem?_eq_getElem
def kj:=@List.length_map
def km:=@List.mem_cons_of_mem
def xf:=@List.getD_eq_getElem?_getD
def xg:=@Bool.false_ne_true
def xj:=@PySem.Heap.get?_push_of_some
def xm:=@List.mem_cons_self
def xn:=@List.mem_cons
def xq:=@List.length_cons
def xr:=@List.map_cons
def xu:=@List.mem_singleton
def xx:=@List.getElem?_map
def X3:=@List.getElem?_eq_some_iff
def X4:=@PySem.Heap.lt_size
def X5:=@Nat.le_refl
def X6:=@PySem.Heap.get?_push_size
def X7:=@List.size_toArray
def X8:=@List.mem_map
def Xa:=@List.map_map
def Xb:=@Nat.ne_of_lt
def Xc:=@Nat.lt_of_lt_of_le
def Xd:=@List.mem_append_right
def Xe:=@List.length_append
def Xf:=@List.map_append
def Xg:=@Bool.and_eq_true
def Xh:=@List.length_range
def Xi:=@List.length_take
def Xj:=@List.lookup_cons
def Xk:=@Nat.le_trans
def Xl:=@List.mem_of_getElem?
def Xm:=@Int.toNat_natCast
def Xn:=@List.mem_append
def Xo:=@List.nodup_cons
def Xp:=@List.mem_range
def Xq:=@Option.isSome_iff_exists
def Xr:=@List.getElem_mem
def Xu:=@Option.map_eq_some_iff
def Xv:=@List.append_nil
def Xw:=@List.getElem?_range
def Xx:=@List.countP_cons
def Xy:=@List.mem_filter
def Xz:=@List.length_filter_le
def ph:=@List.getElem?_eq_none
def pq:=@Nat.lt_irrefl
def P0:=@List.mem_append_left
def Pa:=@Bool.false_eq_true
def Pb:=@List.all_eq_true
def Pg:=@Nat.lt_trans
def Ph:=@List.map_congr_left
def Pj:=@List.mem_iff_getElem
def Pk:=@PySem.mem_of_lookup
def Pn:=@List.set_cons_succ
def Pq:=@List.length_drop
def Pr:=@List.map_nil
def Pu:=@PySem.F.plain_min_loop
def Px:=@List.getElem?_append_left
def Py:=@Int.emod_nonneg
def Pz:=@PySem.F.slot_dict_valueiterator_next
def t6:=@List.mem_filterMap
def t7:=@List.set_cons_zero
def t8:=@Nat.pow_le_pow_right
def tu:=@List.length_set
def T3:=@List.replicate_succ
def T4:=@PySem.Heap.SameBut.update
def T5:=@Nat.ne_of_gt
def T6:=@Nat.zero_le
def T7:=@Nat.pow_succ
def T8:=@List.length_singleton
def T9:=@Int.emod_lt_of_pos
def Tc:=@List.drop_eq_getElem_cons
def Td:=@Nat.le_succ
def Te:=@List.length_nil
def Tf:=@List.foldl_cons
def Tg:=@PySem.Around.under_plainId
def Th:=@Nat.zero_add
def Ti:=@List.append_assoc
def Tj:=@List.take_add_one
def Tn:=@PySem.F.plainAttrs_list
def Tp:=@List.getElem?_cons_succ
def Tq:=@Array.toList_append
def Tt:=@PySem.W.hideAll_none
def Tu:=@List.take_length
def Tv:=@List.take_of_length_le
def Tw:=@Int.ediv_eq_zero_of_lt
def Tz:=@List.mem_replicate
def sr:=@List.filter_append
def S5:=@List.contains_iff_mem
def S7:=@List.any_cons
def S9:=@List.flatten_cons
def Sd:=@Nat.lt_of_succ_le
def Sg:=@List.ext_getElem?
def k8z:=@And.intro
abbrev k90:=lS
abbrev k91:=a9→ae→Prop
abbrev k92:=List (aa×cC)
abbrev k93:=af→Option a9
abbrev k94:=("__debug__":af)
abbrev k95:=("__classdict__":af)
local macro_rules | `(tactic| omega)=>`(tactic| first | with_reducible assumption | with_reducible exact Nat.le_of_lt (by assumption) | with_reducible exact Nat.le_refl _ | lia)
local macro_rules | `(nofun)=>`(by omega)
section
namespace L2
open PySem PySem.Spec PyProof.Rows
noncomputable abbrev Key:=Sum Int af
noncomputable def j9m:Key->a9->Bool
 |.inl k,v=>kz k v
 |.inr x,v=>Value.isStrOf x v
noncomputable def jk5(w:aA):Key->Int
 |.inl k=>hashInt k
 |.inr x=>hashStr w x
theorem v8:∀{k:Key}{v:a9},j9m k v=a5->(∃i t,k=fh i/\v=b8 i t)\/(∃x t,k=fg x/\v=bg x t)
 |.inl i,v,h=>by obtain⟨t,e⟩:=Value.isInt_shape (k:=i) (v:=v) h;exact .inl ⟨i,t,rfl,e⟩
 |.inr x,v,h=>by obtain⟨t,e⟩:=Value.isStrOf_shape (x:=x) (v:=v) h;exact .inr ⟨x,t,rfl,e⟩
theorem jey(a b:Int):decide ((fh a:Key)=fh b)=(a==b):=by
 by_cases e:a=b
 .subst e;simp
 .have h:¬(fh a:Key)=fh b:=λq=>e (Sum.inl.inj q);rw[decide_eq_false h];exact(beq_eq_false_iff_ne.mpr e).symm
theorem jev(a b:af):decide ((fg a:Key)=fg b)=decide (a=b):=by
 by_cases e:a=b
 .subst e;simp
 .have h:¬(fg a:Key)=fg b:=λq=>e (Sum.inr.inj q);rw[decide_eq_false h,decide_eq_false e]
theorem jex(a:Int)(b:af):decide ((fh a:Key)=fg b)=a4:=decide_eq_false (λq=>nomatch q)
theorem jew(a:af)(b:Int):decide ((fg a:Key)=fh b)=a4:=decide_eq_false (λq=>nomatch q)
noncomputable def j1s(prog:au)(w:aA):PySem.KeyKind prog w Key where
 is:=j9m
 hash:=jk5 w
 inj:=λv a b ha hb=>by
  rcases v8 ha with ⟨i,t,rfl,rfl⟩|⟨x,t,rfl,rfl⟩
  .rcases v8 hb with ⟨j,u,rfl,e⟩|⟨y,u,rfl,e⟩
   .injection e with e1 _;rw[e1]
   .exact nomatch e
  .rcases v8 hb with ⟨j,u,rfl,e⟩|⟨y,u,rfl,e⟩
   .exact nomatch e
   .injection e with e1 _;rw[e1]
 byValue:=λk v h=>by rcases v8 h with ⟨i,t,rfl,rfl⟩|⟨x,t,rfl,rfl⟩<;>rfl
 pyHash:=λhv h=>by
  rcases v8 hv with ⟨i,t,rfl,rfl⟩|⟨x,t,rfl,rfl⟩
  .exact wpAny_pyHash_int h
  .exact wpAny_pyHash_str h
 eqBool:=λhu hv h=>by
  rcases v8 hu with ⟨i,t,rfl,rfl⟩|⟨x,t,rfl,rfl⟩
  .rcases v8 hv with ⟨j,u,rfl,rfl⟩|⟨y,u,rfl,rfl⟩
   .rw[jey]at h;exact wpAny_eqBool_int h
   .rw[jex]at h;exact SeqAt.EqAt.int_str i t y u _ _ _ _ h
  .rcases v8 hv with ⟨j,u,rfl,rfl⟩|⟨y,u,rfl,rfl⟩
   .rw[jew]at h;exact SeqAt.EqAt.str_int x t j u _ _ _ _ h
   .rw[jev]at h;exact wpAny_eqBool_str h
 «strs»:=λk x t v h=>by
  rcases v8 h with ⟨i,u,rfl,e⟩|⟨y,u,rfl,e⟩
  .exact nomatch e
  .injection e with e1 _;subst e1;cases v<;>rfl
set_option genInjectivity true in
inductive V where
 |non|bl (b:Bool)|int (i:Int)|str (x:af)|byt (b:Array UInt8)|flt (b:UInt64)|ref (a:aa)|ty (n:String)
 deriving DecidableEq
def RelV:V->a9->Prop
 |.non,u=>u=aR
 |.bl b,u=>u=bp b
 |.int i,u=>∃t,u=b8 i t
 |.str x,u=>∃t,u=bg x t
 |.byt b,u=>∃t,u=Value.bytes b t
 |.flt b,u=>∃t,u=Value.float b t
 |.ref a,u=>u=az a
 |.ty n,u=>u=eC n
abbrev Vals:List V->List a9->Prop:=Paired RelV
theorem Vals.length{xs:List V}{us:List a9}(r:Vals xs us):xs.length=us.length:=Paired.length r
theorem Vals.get:∀{xs:List V}{us:List a9}{i:Nat}{x:V},Vals xs us->xs[i]?=a3 x->∃u,us[i]?=a3 u/\RelV x u
 |_,_,_,_,.nil,e=>by simp at e
 |_,_,0,_,.cons r _,e=>by simp at e;subst e;exact⟨_,rfl,r⟩
 |_,_,i+1,x,.cons _ t,e=>by obtain⟨u,h1,h2⟩:=Vals.get (i:=i) (x:=x) t (by simpa using e);exact⟨u,by simpa using h1,h2⟩
theorem Vals.append:∀{xs ys:List V}{us ws:List a9},Vals xs us->Vals ys ws->Vals (xs++ys) (us++ws)
 |_,_,_,_,.nil,s=>s
 |_,_,_,_,.cons r t,s=>.cons r (Vals.append t s)
theorem Vals.take:∀{xs:List V}{us:List a9}(n:Nat),Vals xs us->Vals (xs.take n) (us.take n)
 |_,_,0,_=>.nil
 |_,_,_+1,.nil=>.nil
 |_,_,n+1,.cons r t=>.cons r (Vals.take n t)
theorem Vals.drop:∀{xs:List V}{us:List a9}(n:Nat),Vals xs us->Vals (xs.drop n) (us.drop n)
 |_,_,0,r=>r
 |_,_,_+1,.nil=>.nil
 |_,_,n+1,.cons _ t=>Vals.drop n t
def jgs:Option V->Option a9->Prop
 |some v,a3 u=>RelV v u
 |none,a6=>True
 |_,_=>False
def KV{κ:Type}:List (κ×V)->List (κ×a9)->Prop:=Paired λ(p:κ×V) (q:κ×a9)=>p.1=q.1/\RelV p.2 q.2
noncomputable def kV:Key->V
 |.inl i=>.int i
 |.inr x=>.str x
inductive HO where
 |lst (xs:List V)
 |tup (xs:List V)
 |dK (kvs:List (Key×V))|dT (kvs:List (List Key×V))
 |dI (xs:List (List Int×aa×a9)) (ep:Nat)
 |set (S:Int->Bool) (n:Nat)
 |ins (C dx:aa) (fs:List (af×V))
 |own (x:aa)
 |xd (fs:List (af×V))
 |met (f x:aa)
 |rng (lo hi:Int)
 |frz (o:cC) (u:HO)
 |tbl (ps:Array a9)
 |cod (q:af)
 |ext (φ:aD->Prop)
noncomputable abbrev Hp:=aa->Option HO
noncomputable def upd(H:Hp)(a:aa)(o:HO):Hp:=λb=>if b=a then a3 o else H b
theorem jc{H:Hp}{a:aa}{o:HO}:upd H a o a=a3 o:=by unfold upd;rw[if_pos rfl]
theorem je{H:Hp}{a b:aa}{o:HO}(h:b≠a):upd H a o b=H b:=by unfold upd;rw[if_neg h]
theorem v7{H:Hp}{a b:aa}{o:HO}(h:H a=a3 o)(h':H b=a6):a≠b:=by intro e;subst e;rw[h]at h';cases h'
def Zf(h:aD)(a:aa):Prop:=∀o,h.get? a=a3 o->o.dict=a6
theorem Zf.new(h:aD)(xs:Array a9):Zf (h.push { cls:=.type "tuple",data:=.seq xs }) h.objs.size:=λo e=>by have z:(h.push { cls:=.type "tuple",data:=.seq xs }).get? h.objs.size=a3 { cls:=.type "tuple",data:=.seq xs }:=X6 _ rfl;rw[z]at e;cases e;rfl
theorem Zf.of{h:aD}{a:aa}{d:Data}{c:a9}(e:h.get? a=a3 { cls:=c,data:=d }):Zf h a:=λo e'=>by rw[e]at e';cases e';rfl
def Nf(o:cC)(q:af):Prop:=∃(vs:Array a9)(t:gH),o.data=.fields vs/\vs[1]?=a3 (.str q t)
section
variable(P:au)(w:aA)
def ji(H:Hp)(h:aD)(a:aa):HO->Prop
 |.lst xs=>xs.length<=aj/\∃(its:List a9)(n:Nat),Vals xs its/\h.get? a=a3 { cls:=.type "list",data:=.seq its.toArray n }
 |.tup xs=>xs.length<=aj/\∃its:List a9,Vals xs its/\hZ h a its.toArray/\Zf h a
 |.dK kvs=>kvs.length<=aj/\(a==dS)=a4/\∃vs,KV kvs vs/\h.DictOf (j1s P w) a vs
 |.dT kvs=>kvs.length<=aj/\(a==dS)=a4/\∃xs:List (List Key×aa×a9),
   Paired (λ(p:List Key×V) (q:List Key×aa×a9)=>p.1=q.1/\H q.2.1=a3 (.tup (p.1.map kV))/\RelV p.2 q.2.2) kvs xs /\
   ∃o es ep,h.get? a=a3 o/\o.ExactDict/\o.data=.dict es ep/\es.toList=xs.map (kq (f9 (j1s P w)))/\(xs.map (·.1)).Nodup
 |.dI xs ep=>xs.length<=aj/\(a==dS)=a4/\(xs.map λx=>x.1).Nodup/\∃(o:cC)(es:Array gj),h.get? a=a3 o/\o.ExactDict/\o.data=.dict es ep/\es.toList=xs.map (kq (f9 (fb P w)))
 |.set S n=>h.SetOf (fb P w) a S n
 |.ins C dx fs=>H dx=a3 (.own a)/\fs.length<=1000/\dx≠a/\h.get? a=a3 (W.instObj C dx) /\
   ∃mA,h.Ns1 dx mA/\(∀f,jgs (fs.lookup f) (mA f))/\PySem.Within mA (fs.map (·.1))
 |.own _=>∃o,h.get? a=a3 o
 |.xd fs=>∃mA,h.Ns1 a mA/\∀f,jgs (fs.lookup f) (mA f)
 |.rng lo hi=>∃t u v,h.get? a=a3 { cls:=.type "range",data:=.fields #[.int lo t,.int hi u,.int 1 v] }
 |.frz o u=>h.get? a=a3 o/\ji H h a u
 |.tbl ps=>h.get? a=a3 { cls:=.none,data:=.fields ps }
 |.cod q=>∃ps:Array a9,h.get? a=a3 (W.tabObj ps)/\TriplesOk ps.toList/\∀pos cv,fc pos ps.toList=a3 cv->∃(c:aa)(oc:cC),cv=.ref c/\H c=a3 (.frz oc (.own 0))/\Nf oc q
 |.met f x=>h.get? a=a3 (W.methodObj (.ref f) (.ref x))
 |.ext φ=>φ h/\(∃o,h.get? a=a3 o)/\∀h1 h2:aD,φ h1->(∀o,h1.get? a=a3 o->h2.get? a=a3 o)->φ h2
def HOk(H:Hp)(h:aD):Prop:=∀a o,H a=a3 o->ji P w H h a o
end
section
variable{P:au}{w:aA}{H H':Hp}{h h':aD}{a:aa}{o:HO}
theorem ji.lt(x:ji P w H h a o):a<h.objs.size:=by
 cases o with
 |lst xs=>obtain⟨_,_,_,_,e⟩:=x;exact X4 e
 |tup xs=>obtain⟨_,_,_,p,_⟩:=x;exact p.lt
 |dK kvs=>obtain⟨_,_,_,_,o,_,_,e,_⟩:=x;exact X4 e
 |dT kvs=>obtain⟨_,_,_,_,o,_,_,e,_⟩:=x;exact X4 e
 |dI xs ep=>obtain⟨_,_,_,o,_,e,_⟩:=x;exact X4 e
 |set S n=>obtain⟨o,_,_,_,e,_⟩:=x;exact X4 e
 |ins C dx fs=>obtain⟨_,_,_,e,_⟩:=x;exact X4 e
 |own y=>obtain⟨_,e⟩:=x;exact X4 e
 |xd fs=>obtain⟨_,⟨_,_,_,e,_⟩,_⟩:=x;exact X4 e
 |rng lo hi=>obtain⟨_,_,_,e⟩:=x;exact X4 e
 |frz ob u=>obtain⟨e,_⟩:=x;exact X4 e
 |tbl ps=>exact X4 (show h.get? a=a3 _ from x)
 |cod q=>obtain⟨_,e,_⟩:=x;exact X4 e
 |met f y=>exact X4 (show h.get? a=a3 _ from x)
 |ext φ=>obtain⟨_,⟨_,e⟩,_⟩:=x;exact X4 e
theorem Paired.mapP{α β:Type}{F G:α->β->Prop}:∀{l₁:List α}{l₂:List β},Paired F l₁ l₂->(∀a b,F a b->G a b)->Paired G l₁ l₂
 |_,_,.nil,_=>.nil
 |_,_,.cons r t,f=>.cons (f _ _ r) (Paired.mapP t f)
theorem ji.stay(x:ji P w H h a o)(k:∀b u,(b=a\/H b=a3 (.own a))->h.get? b=a3 u->h'.get? b=a3 u)
  (ho:∀b,H b=a3 (.own a)->H' b=a3 (.own a)) (ht:∀b xs,H b=a3 (.tup xs)->H' b=a3 (.tup xs)) (hz:∀b o,(∃vs,o.data=.fields vs)->H b=a3 (.frz o (.own 0))->H' b=a3 (.frz o (.own 0))):ji P w H' h' a o:=by
 induction o with
 |lst xs=>obtain⟨z,its,n,r,e⟩:=x;exact⟨z,its,n,r,k _ _ (.inl rfl) e⟩
 |tup xs =>obtain⟨z,its,r,⟨ob,e,c⟩,nd⟩:=x;refine⟨z,its,r,⟨ob,k _ _ (.inl rfl) e,c⟩,λo q=>?_⟩;rw[k _ _ (.inl rfl) e]at q;cases q;exact nd _ e
 |dK kvs=>obtain⟨z,y,vs,r,ob,es,ep,e,c⟩:=x;exact⟨z,y,vs,r,ob,es,ep,k _ _ (.inl rfl) e,c⟩
 |dT kvs =>obtain⟨z,y,xs,r,ob,es,ep,e,c⟩:=x;exact⟨z,y,xs,Paired.mapP r λp q z=>⟨z.1,ht _ _ z.2.1,z.2.2⟩,ob,es,ep,k _ _ (.inl rfl) e,c⟩
 |dI xs ep=>obtain⟨z,y,nd,ob,es,e,c⟩:=x;exact⟨z,y,nd,ob,es,k _ _ (.inl rfl) e,c⟩
 |set S n=>obtain⟨ob,es,ep,t,e,c⟩:=x;exact⟨ob,es,ep,t,k _ _ (.inl rfl) e,c⟩
 |ins C dx fs =>obtain⟨d,z,ne,e,mA,⟨od,es,ep,e2,c⟩,r⟩:=x;exact⟨ho _ d,z,ne,k _ _ (.inl rfl) e,mA,⟨od,es,ep,k _ _ (.inr d) e2,c⟩,r⟩
 |own y=>obtain⟨ob,e⟩:=x;exact⟨ob,k _ _ (.inl rfl) e⟩
 |xd fs=>obtain⟨mA,⟨od,es,ep,e,c⟩,r⟩:=x;exact⟨mA,⟨od,es,ep,k _ _ (.inl rfl) e,c⟩,r⟩
 |rng lo hi=>obtain⟨t,u,v,e⟩:=x;exact⟨t,u,v,k _ _ (.inl rfl) e⟩
 |frz ob u ih=>obtain⟨e,q⟩:=x;exact⟨k _ _ (.inl rfl) e,ih q⟩
 |tbl ps =>have e:h.get? a=a3 { cls:=.none,data:=.fields ps }:=x;show h'.get? a=a3 { cls:=.none,data:=.fields ps };exact k a _ (.inl rfl) e
 |cod q=>obtain⟨ps,e,t,c⟩:=x;exact⟨ps,k _ _ (.inl rfl) e,t,λpos cv z=>let ⟨c,oc,e1,e2,e3⟩:=c pos cv z;⟨c,oc,e1,hz _ _ (let ⟨vs,_,z,_⟩:=e3;⟨vs,z⟩) e2,e3⟩⟩
 |met f y =>have e:h.get? a=a3 (W.methodObj (.ref f) (.ref y)):=x;show h'.get? a=a3 (W.methodObj (.ref f) (.ref y));exact k a _ (.inl rfl) e
 |ext φ=>obtain⟨p,⟨o,e⟩,st⟩:=x;exact⟨st _ _ p λo q=>k _ _ (.inl rfl) q,⟨o,k _ _ (.inl rfl) e⟩,st⟩
theorem HOk.lt(x:HOk P w H h)(e:H a=a3 o):a<h.objs.size:=(x a o e).lt
theorem HOk.fresh(x:HOk P w H h)(e:h.objs.size<=a):H a=a6:=by
 cases q:H a with
 |none=>rfl
 |some u=>exact absurd (Xc (x.lt q) e) (pq _)
theorem HOk.kept(x:HOk P w H h)(k:∀b u,h.get? b=a3 u->h'.get? b=a3 u):HOk P w H h':=λa o e =>(x a o e).stay (λb u _ q=>k b u q) (λ_ q=>q) (λ_ _ q=>q) λ_ _ _ q=>q
theorem HOk.laid(x:HOk P w H h)(k:∀b u,h.get? b=a3 u->h'.get? b=a3 u)(hp:h.objs.size<=a)(new:ji P w (upd H a o) h' a o):HOk P w (upd H a o) h':=λb u e=>by
 have hn:=x.fresh hp;by_cases hb:b=a
 .subst hb;rw[jc]at e;cases e;exact new
 .rw[je hb]at e;exact(x b u e).stay (λc v _ q=>k c v q) (λc q=>by rw[je (v7 q hn)];exact q) (λc xs q=>by rw[je (v7 q hn)];exact q) λc _ _ q=>by rw[je (v7 q hn)];exact q
end
def Rd(H:Hp)(a:aa)(u:HO):Prop:=H a=a3 u\/∃o,H a=a3 (.frz o u)
theorem Rd.ok{P:au}{w:aA}{H:Hp}{h:aD}{a:aa}{u:HO}(r:Rd H a u)(x:HOk P w H h):ji P w H h a u:=by
 rcases r with r|⟨o,r⟩
 .exact x a u r
 .obtain⟨_,q⟩:=x a _ r;exact q
def Mut:Option HO->Prop
 |some (.lst _)=>True
 |some (.dK _)=>True
 |some (.dT _)=>True
 |some (.dI _ _)=>True
 |some (.set _ _)=>True
 |some (.ins _ _ _)=>True
 |some (.ext _)=>True
 |some (.cod _)=>True
 |_=>False
section
variable{P:au}{w:aA}{H:Hp}{h h':aD}{x e:aa}{o':HO}
theorem HOk.write(ok:HOk P w H h)(mu:Mut (H x))(he:e=x\/H e=a3 (.own x))(k:∀b u,b≠e->h.get? b=a3 u->h'.get? b=a3 u)(heo:∃u,h'.get? e=a3 u)
  (new:ji P w (upd H x o') h' x o'):HOk P w (upd H x o') h':=λb u q=>by
 have nown:∀c y,H c=a3 (.own y)->c≠x:=λc y r z=>by subst z;rw[r]at mu;exact mu
 have ntup:∀c xs,H c=a3 (.tup xs)->c≠x:=λc xs r z=>by subst z;rw[r]at mu;exact mu
 have nfrz:∀c o u,H c=a3 (.frz o u)->c≠x:=λc o u r z=>by subst z;rw[r]at mu;exact mu
 by_cases hb:b=x
 .subst hb;rw[jc]at q;cases q;exact new
 .rw[je hb]at q;by_cases hbe:b=e
  .have q':H b=a3 (.own x):=by
    rcases he with z|z
    .exact absurd (hbe.trans z) hb
    .rw[hbe];exact z
   rw[q]at q';cases q';obtain⟨v,hv⟩:=heo;exact⟨v,by rw[hbe];exact hv⟩
  .refine(ok b u q).stay (λc v hc r=>k c v ?_ r) (λc r=>by rw[je (nown c b r)];exact r) (λc xs r=>by rw[je (ntup c xs r)];exact r) λc o _ r=>by rw[je (nfrz c o _ r)];exact r
   rcases hc with rfl|hc
   .exact hbe
   .rintro rfl;rcases he with z|z
    .exact nown c b hc z
    .rw[hc]at z;cases z;exact hb rfl
end
structure Un(fs ex:List aa)(H H':Hp)(h h':aD):Prop where
 keep:∀b o,h.get? b=a3 o->H b=a6->b∉fs->b∉ex->h'.get? b=a3 o
 slot:∀b o,h.get? b=a3 o->H b=a6->b∈fs->b∉ex->∃sl,h'.get? b=a3 { o with slots:=sl }
 free:∀b o,h.get? b=a3 o->H b=a6->b∉ex->H' b=a6
 there:∀b o,h.get? b=a3 o->b∉ex->∃o',h'.get? b=a3 o'
 tups:∀b xs,H b=a3 (.tup xs)->H' b=a3 (.tup xs)
 frzs:∀b o u,H b=a3 (.frz o u)->H' b=a3 (.frz o u)
 tbls:∀b ps,H b=a3 (.tbl ps)->∃more,H' b=a3 (.tbl (ps++more))
section
variable{fs fs' ex ex':List aa}{H H1 H2:Hp}{h h1 h2 h':aD}{a x e:aa}{o:HO}
theorem Un.any(u:Un fs ex H H1 h h1){b:aa}{ob:cC}(q:h.get? b=a3 ob)(n:H b=a6)(hx:b∉ex):∃sl,h1.get? b=a3 { ob with slots:=sl }:=by
 by_cases hb:b∈fs
 .exact u.slot b ob q n hb hx
 .exact⟨ob.slots,u.keep b ob q n hb hx⟩
theorem Un.kept(k:∀b u,h.get? b=a3 u->h'.get? b=a3 u):Un fs ex H H h h' :=
 ⟨λb ob q _ _ _=>k b ob q,λb ob q _ _ _=>⟨ob.slots,k b ob q⟩,λ_ _ _ n _=>n,λb ob q _=>⟨ob,k b ob q⟩,λ_ _ q=>q,λ_ _ _ q=>q,λ_ ps q=>⟨#[],by rw[q];simp⟩⟩
theorem Un.refl:Un fs ex H H h h:=Un.kept λ_ _ q=>q
theorem Un.laid(k:∀b u,h.get? b=a3 u->h'.get? b=a3 u)(hp:h.objs.size<=a)(hn:H a=a6):Un fs ex H (upd H a o) h h' where
 keep:=λb u q _ _ _=>k b u q
 slot:=λb u q _ _ _=>⟨u.slots,k b u q⟩
 free:=λb u q n _=>by rw[je (Xb (Xc (X4 q) hp))];exact n
 there:=λb u q _=>⟨u,k b u q⟩
 tups:=λb xs q=>by rw[je (v7 q hn)];exact q
 frzs:=λb u xs q=>by rw[je (v7 q hn)];exact q
 tbls:=λb ps q=>⟨#[],by rw[je (v7 q hn),q];simp⟩
theorem Un.write(mu:Mut (H x))(he:e=x\/H e=a3 (.own x))(k:∀b u,b≠e->h.get? b=a3 u->h'.get? b=a3 u)(heo:∃u,h'.get? e=a3 u):Un fs ex H (upd H x o) h h':=by
 have hx:∀b,H b=a6->b≠x:=λb n z=>by subst z;rw[n]at mu;exact mu
 have hb:∀b,H b=a6->b≠e:=λb n z=>by
  subst z;rcases he with r|r
  .exact hx b n r
  .rw[n]at r;cases r
 have hm:∀b u,H b=a3 u->¬Mut (a3 u)->b≠x:=λb u q nm z=>by subst z;rw[q]at mu;exact nm mu
 refine⟨λb u q n _ _=>k b u (hb b n) q,λb u q n _ _=>⟨u.slots,k b u (hb b n) q⟩,λb u q n _=>by rw[je (hx b n)];exact n,λb u q _=>?_,
  λb xs q=>by rw[je (hm b _ q λz=>z)];exact q,λb u xs q=>by rw[je (hm b _ q λz=>z)];exact q,λb ps q=>⟨#[],by rw[je (hm b _ q λz=>z),q];simp⟩⟩
 by_cases hbe:b=e
 .subst hbe;exact heo
 .exact⟨u,k b u hbe q⟩
end
noncomputable def trk(h:aD)(H:Hp):List aa:=(ar h.objs.size).filter λa=>(H a).isSome
noncomputable def Up(h:aD)(H:Hp):aD:=W.hideAll h (trk h H)
theorem j5k(h:aD)(H:Hp):(Up h H).objs.size=h.objs.size:=W.hideAll_size _ _
theorem j84{h:aD}{H:Hp}{b:aa}{o:cC}(e:h.get? b=a3 o)(n:H b=a6):(Up h H).get? b=a3 o :=
 W.hideAll_get _ e λhm=>by have q:(H b).isSome=a5:=(Xy.mp hm).2;rw[n]at q;simp at q
theorem jb8{h:aD}{H:Hp}{b:aa}{o:cC}(e:(Up h H).get? b=a3 o):h.get? b=a3 o/\H b=a6:=by
 have e':h.get? b=a3 o:=W.of_hideAll (trk h H) e;refine⟨e',?_⟩;cases q:H b with
 |none=>rfl
 |some x =>have hm:b∈trk h H:=Xy.mpr ⟨Xp.mpr (X4 e'),by simp[q]⟩;have z:(Up h H).get? b=a6:=Tt (trk h H) hm;rw[z]at e;cases e
noncomputable def jco(g h:aD)(L:aa):List (aa×cC):=(ar h.objs.size).filterMap λa=>if a=L\/(g.get? a).isSome=a5 then a6 else(h.get? a).map λo=>(a,o)
noncomputable def rest(g h:aD)(L d:aa):List (aa×cC):=(jco g h L).filter λp=>decide (p.1≠d)
structure Mod(K:k90)(mg:k93)(base:aD):Prop where
 kin:K.In base
 glob:base.Ns ak mg
 blt:∃mb,base.Ns di mb/\∀x:af,x ≠ "__name__"->mb x=bE x
 nolimit:base.NoLimit
 bm:∃bm ob,mg "__builtins__" = a3 (.ref bm)/\bm≠di/\base.get? bm=a3 ob/\ob.cls=.type "module"/\ob.dict=a3 di/\ob.data=.plain
structure Cx where
 prog:au
 w:aA
 K:k90
 mg:af->Option a9
 base:aD
 A:aB
 N:List af
 s₀:ae
 H₀:Hp
 env:dj
 outer:List dj
 stack:List dj
 ex:List aa
 fn:af->Bool
 calm:Bool
 pn:List (aa×cC)
 xe:a9->ae->Prop
noncomputable def frs(l:List dj):List aa:=l.filterMap (·.frame)
noncomputable abbrev Cx.fs(X:Cx):List aa:=frs X.outer
def Vis(sc:b9)(x:af):Prop:=sc.names.lookup x=a3 .local\/sc.names.lookup x=a3 .cell\/sc.names.lookup x=a3 .free
def Loc(sc:b9)(x:af):Prop:=sc.names.lookup x=a3 .local\/sc.names.lookup x=a3 .cell
def Look(env:dj)(h:aD)(m:k93)(x:af)(u:a9):Prop :=
 (env.kindOf x=a3 .local/\m x=a3 u)\/((env.kindOf x=a3 .cell\/env.kindOf x=a3 .free)/\∃c,env.cells.lookup x=a3 c/\h.IsCell c (a3 u))
structure Cx.Ok(X:Cx):Prop where
 mod:Mod X.K X.mg X.base
 kind:X.env.scope.kind=.function
 glob:X.env.globals=ak
 blt:X.env.builtins=di
 above:X.s₀.heap.objs.size<=X.env.locals
 inj:∀x y c,X.env.cells.lookup x=a3 c->X.env.cells.lookup y=a3 c->x=y
 has:∀x,(X.env.kindOf x=a3 .cell\/X.env.kindOf x=a3 .free)->∃c,X.env.cells.lookup x=a3 c
 cab:∀x c,X.fn x=a5->X.env.cells.lookup x=a3 c->X.s₀.heap.objs.size<=c
 hd:X.calm=a5->X.A.handled=a6
 frames:X.A.frames=a3 X.stack
 stk:X.stack=X.outer\/(X.stack=X.env::X.outer/\X.env.frame=a3 X.env.locals)
 exf:∀b∈X.ex,b≠X.env.locals/\∀x c,X.env.cells.lookup x=a3 c->c≠b
 bs:∀b o,X.base.get? b=a3 o->X.s₀.heap.get? b=a3 o/\X.H₀ b=a6
 bsz:X.base.objs.size<=X.s₀.heap.objs.size
 noex:∀b o,X.base.get? b=a3 o->b∉X.ex
 exfs:∀b∈X.ex,b∉X.fs
 funs:X.s₀.heap.FunFrames X.base X.outer
 frf:∀b∈X.fs,X.H₀ b=a6
structure Inv(X:Cx)(pins:k92)(σ:List (Option V))(H:Hp)(s:ae):Prop where
 ok:X.Ok
 os:s.os=X.s₀.os
 bare:dy s.gens
 base:Un X.fs X.ex X.H₀ H X.s₀.heap s.heap
 loc:∃m,s.heap.Ns X.env.locals m/\∀(i:Nat)(x:af)(v:V),X.N[i]?=a3 x->σ[i]?=a3 (a3 v)->Vis X.env.scope x->∃u,RelV v u/\Look X.env s.heap m x u
 cell:∀x c,X.env.cells.lookup x=a3 c->∃v,s.heap.IsCell c v
 free:H X.env.locals=a6
 freeC:∀x c,X.env.cells.lookup x=a3 c->H c=a6
 pin:∀p∈X.pn++pins,s.heap.get? p.1=a3 p.2/\H p.1=a6/\p.1≠X.env.locals/\p.1∉X.fs/\∀v,p.2.data≠.cell v
 hok:HOk X.prog X.w H s.heap
 len:σ.length=X.N.length
section
variable{X:Cx}{pins:k92}{σ:List (Option V)}{H H':Hp}{s:ae}{h':aD}
theorem Cx.Ok.nofr(ok:X.Ok){b:aa}{o:cC}(e:X.base.get? b=a3 o):b∉X.fs:=λhb=>by have:=(ok.funs.mem hb).1;rw[e]at this;cases this
theorem Inv.bs(I:Inv X pins σ H s):∀b o,X.base.get? b=a3 o->s.heap.get? b=a3 o/\H b=a6:=λb o e =>⟨I.base.keep b o (I.ok.bs b o e).1 (I.ok.bs b o e).2 (I.ok.nofr e) (I.ok.noex b o e),I.base.free b o (I.ok.bs b o e).1 (I.ok.bs b o e).2 (I.ok.noex b o e)⟩
theorem Inv.bk(I:Inv X pins σ H s):∀b o,X.base.get? b=a3 o->s.heap.get? b=a3 o:=λb o e=>(I.bs b o e).1
theorem Inv.mod(I:Inv X pins σ H s):Mod X.K X.mg X.base:=I.ok.mod
theorem Inv.kIn(I:Inv X pins σ H s):X.K.In s.heap:=I.ok.mod.kin.keeps I.bk
theorem Inv.lt(I:Inv X pins σ H s):X.env.locals<s.heap.objs.size:=let ⟨_,hn,_⟩:=I.loc;hn.lt
theorem Inv.sz(I:Inv X pins σ H s):X.s₀.heap.objs.size<=s.heap.objs.size:=Xk I.ok.above (cO I.lt)
theorem Inv.nofs(I:Inv X pins σ H s){a:aa}(h:s.heap.objs.size<=a):a∉X.fs:=λhb=>by obtain⟨_,o,ho,_⟩:=I.ok.funs.mem hb;exact absurd (Xc (X4 ho) (Xk I.sz h)) (pq _)
theorem Inv.cne(I:Inv X pins σ H s):∀x c,X.env.cells.lookup x=a3 c->c≠X.env.locals:=λx c e z=>by obtain⟨v,o,ho,hd⟩:=I.cell x c e;obtain⟨m,⟨o',es,ep,ho',hd',_⟩,_⟩:=I.loc;rw[z,ho']at ho;cases ho;rw[hd']at hd;cases hd
theorem Inv.funs(I:Inv X pins σ H s):s.heap.FunFrames X.base X.outer:=by
 have all:∀(l:List dj),(∀b∈frs l,b∈X.fs)->X.s₀.heap.FunFrames X.base l->s.heap.FunFrames X.base l:=by
  intro l;induction l with
  |nil=>intro _ _;trivial
  |cons env r ih =>intro hs hl;obtain⟨hk,⟨L,o,hf,hn,ho,hd⟩,hr⟩:=hl;have hL:L∈X.fs:=hs L (by unfold frs;rw[bU,hf];exact xm);obtain⟨sl,e⟩:=I.base.slot L o ho (I.ok.frf L hL) hL λz=>I.ok.exfs L z hL;exact⟨hk,⟨L,_,hf,hn,e,hd⟩,ih (λb hb=>hs b (by unfold frs;rw[bU,hf];exact km _ hb)) hr⟩
 exact all X.outer (λ_ hb=>hb) I.ok.funs
theorem Inv.stack(I:Inv X pins σ H s):s.heap.FunFrames X.base X.stack:=by
 rcases I.ok.stk with e|⟨e,hf⟩
 .rw[e];exact I.funs
 .rw[e];obtain⟨m,hn,_⟩:=I.loc;refine .cons (by rw[I.ok.kind];decide) hf hn ?_ I.funs;exact Heap.get?_none_of_le (Xk I.ok.bsz I.ok.above)
theorem Inv.stkSub(I:Inv X pins σ H s):∀b∈frs X.stack,b∈X.env.locals::X.fs:=λb hb=>by
 rcases I.ok.stk with e|⟨e,hf⟩
 .rw[e]at hb;exact km _ hb
 .rw[e]at hb;unfold frs at hb;rw[bU,hf]at hb;exact hb
theorem Inv.stkFree(I:Inv X pins σ H s):∀b∈frs X.stack,H b=a6:=λb hb=>by
 rcases xn.mp (I.stkSub b hb)with e|hb
 .rw[e];exact I.free
 .obtain⟨_,o,ho,_⟩:=I.ok.funs.mem hb;exact I.base.free b o ho (I.ok.frf b hb) λz=>I.ok.exfs b z hb
theorem Inv.step{g':Array eY}{t':Nat}{d':Drawn}{ch:List aa}(I:Inv X pins σ H s)
  (hch:∀b∈ch,(b∈X.ex\/X.s₀.heap.objs.size<=b)/\b≠X.env.locals/\(∀x c,X.env.cells.lookup x=a3 c->c≠b)/\∀p∈X.pn++pins,p.1≠b)
  (keep:∀b o,b≠X.env.locals->b∉X.fs->b∉ch->s.heap.get? b=a3 o->H b=a6->h'.get? b=a3 o)
  (slot:∀b o,b≠X.env.locals->b∈X.fs->b∉ch->s.heap.get? b=a3 o->H b=a6->∃sl,h'.get? b=a3 { o with slots:=sl }) (free:∀b o,b∉ch->s.heap.get? b=a3 o->H b=a6->H' b=a6)
  (there:∀b o,b∉ch->s.heap.get? b=a3 o->∃o',h'.get? b=a3 o')
  (tups:∀b xs,H b=a3 (.tup xs)->H' b=a3 (.tup xs)) (frzs:∀b o u,H b=a3 (.frz o u)->H' b=a3 (.frz o u)) (tbls:∀b ps,H b=a3 (.tbl ps)->∃more,H' b=a3 (.tbl (ps++more)))
  (ns:∀m,s.heap.Ns X.env.locals m->h'.Ns X.env.locals m) (hok:HOk X.prog X.w H' h') (hg:dy g') :
  Inv X pins σ H' { s with heap:=h',gens:=g',drawn:=d',toks:=t' }:=by
 have neL:∀b o,X.s₀.heap.get? b=a3 o->b≠X.env.locals:=λb o e=>Xb (Xc (X4 e) I.ok.above);have neC:∀b o,X.s₀.heap.get? b=a3 o->b∉X.ex->b∉ch:=λb o e hx hb=>by
  rcases(hch b hb).1 with z|z
  .exact hx z
  .exact absurd (Xc (X4 e) z) (pq _)
 have cellK:∀x c,X.env.cells.lookup x=a3 c->∀v,s.heap.IsCell c v->h'.IsCell c v:=λx c e v ⟨o,ho,hd⟩=>by
  have nch:c∉ch:=λz=>(hch c z).2.2.1 x c e rfl;by_cases hc:c∈X.fs
  .obtain⟨sl,q⟩:=slot c o (I.cne x c e) hc nch ho (I.freeC x c e);exact⟨_,q,hd⟩
  .exact⟨o,keep c o (I.cne x c e) hc nch ho (I.freeC x c e),hd⟩
 refine⟨I.ok,I.os,hg,⟨λb o e n hb hx=>?_,λb o e n hb hx=>?_,λb o e n hx=>?_,λb o e hx=>?_,λb xs e=>tups b xs (I.base.tups b xs e),λb o xs e=>frzs b o xs (I.base.frzs b o xs e),λb ps e=>?_⟩,?_,λx c e=>?_,?_,λx c e=>?_,λp hp=>?_,hok,I.len⟩
 .exact keep b o (neL b o e) hb (neC b o e hx) (I.base.keep b o e n hb hx) (I.base.free b o e n hx)
 .obtain⟨sl,e1⟩:=I.base.slot b o e n hb hx;obtain⟨sl',e2⟩:=slot b _ (neL b o e) hb (neC b o e hx) e1 (I.base.free b o e n hx);exact⟨sl',e2⟩
 .obtain⟨o',e1⟩:=I.base.there b o e hx;exact free b o' (neC b o e hx) e1 (I.base.free b o e n hx)
 .obtain⟨o',e1⟩:=I.base.there b o e hx;exact there b o' (neC b o e hx) e1
 .obtain⟨m1,e1⟩:=I.base.tbls b ps e;obtain⟨m2,e2⟩:=tbls b _ e1;exact⟨m1++m2,by rw[e2,Array.append_assoc]⟩
 .obtain⟨m,hn,hl⟩:=I.loc;refine⟨m,ns m hn,λi x v e1 e2 e3=>?_⟩;obtain⟨u,r,l⟩:=hl i x v e1 e2 e3;refine⟨u,r,?_⟩;rcases l with l|⟨k,c,e,z⟩
  .exact .inl l
  .exact .inr ⟨k,c,e,cellK x c e _ z⟩
 .obtain⟨v,z⟩:=I.cell x c e;exact⟨v,cellK x c e v z⟩
 .obtain⟨m,⟨o,_,_,ho,_⟩,_⟩:=I.loc;exact free _ o (λz=>(hch _ z).2.1 rfl) ho I.free
 .obtain⟨v,o,ho,hd⟩:=I.cell x c e;exact free c o (λz=>(hch c z).2.2.1 x c e rfl) ho (I.freeC x c e)
 .obtain⟨e,n,ne,nf,d⟩:=I.pin p hp;have nch:p.1∉ch:=λz=>(hch p.1 z).2.2.2 p hp rfl;exact⟨keep p.1 p.2 ne nf nch e n,free p.1 p.2 nch e n,ne,nf,d⟩
theorem Inv.un{t':Nat}(I:Inv X pins σ H s)(u:Un X.fs [] H H' s.heap h')(hok:HOk X.prog X.w H' h'):Inv X pins σ H' { s with heap:=h',toks:=t' }:=by
 obtain⟨m,⟨o,es,ep,ho,r⟩,_⟩:=id I.loc;obtain⟨sl,hL⟩:=u.any ho I.free (by simp);exact I.step (g':=s.gens) (d':=s.drawn) (ch:=[]) (λ_ z=>nomatch z) (λb o _ hb _ e n=>u.keep b o e n hb (by simp)) (λb o _ hb _ e n=>u.slot b o e n hb (by simp)) (λb o _ e n=>u.free b o e n (by simp)) (λb o _ e=>u.there b o e (by simp)) u.tups u.frzs u.tbls (λm' hm=>by
  obtain⟨o',es',ep',ho',r'⟩:=hm
  rw[ho]at ho';cases ho'
  exact⟨_,es',ep',hL,r'⟩) hok I.bare
theorem Inv.call{g':Array eY}{t':Nat}{d':Drawn}{ch:List aa}(I:Inv X pins σ H s)(u:Un (frs X.stack) ch H H' s.heap h')(hok:HOk X.prog X.w H' h')(hg:dy g')
  (hch:∀b∈ch,(b∈X.ex\/X.s₀.heap.objs.size<=b)/\b≠X.env.locals/\(∀x c,X.env.cells.lookup x=a3 c->c≠b)/\∀p∈X.pn++pins,p.1≠b) :
  Inv X pins σ H' { s with heap:=h',gens:=g',drawn:=d',toks:=t' }:=by
 obtain⟨m,⟨o,es,ep,ho,r⟩,_⟩:=id I.loc;obtain⟨sl,hL⟩:=u.any ho I.free λz=>(hch _ z).2.1 rfl;exact I.step (ch:=ch) hch (λb o hL hb hc e n=>u.keep b o e n (λz=>(xn.mp (I.stkSub b z)).elim hL hb) hc) (λb o _ _ hc e n=>u.any e n hc) (λb o hc e n=>u.free b o e n hc) (λb o hc e=>u.there b o e hc) u.tups u.frzs u.tbls (λm' hm=>by
  obtain⟨o',es',ep',ho',r'⟩:=hm
  rw[ho]at ho';cases ho'
  exact⟨_,es',ep',hL,r'⟩) hok hg
theorem Inv.turned{t':Nat}{it:aa}(I:Inv X pins σ H s)(k:∀b o,b≠it->s.heap.get? b=a3 o->h'.get? b=a3 o)(hn:H it=a6)(hL:it≠X.env.locals)
  (h1:it∈X.ex\/X.s₀.heap.objs.size<=it) (h2:∀x c,X.env.cells.lookup x=a3 c->c≠it) (h3:∀p∈X.pn++pins,p.1≠it):Inv X pins σ H { s with heap:=h',toks:=t' }:=by
 have nit:∀b u,H b=a3 u->b≠it:=λb u e z=>by rw[z,hn]at e;cases e
 refine I.step (g':=s.gens) (d':=s.drawn) (ch:=[it]) (λb hb=>?_) (λb o _ _ hc e _=>k b o (λz=>hc (by simp[z])) e) (λb o _ _ hc e _=>⟨o.slots,k b o (λz=>hc (by simp[z])) e⟩) (λ_ _ _ _ n=>n)
  (λb o hc e=>⟨o,k b o (λz=>hc (by simp[z])) e⟩) (λ_ _ e=>e) (λ_ _ _ e=>e) (λb ps e=>⟨#[],by rw[e];simp⟩) (λm hm=>?_) (λb u e=>?_) I.bare
 .have e:b=it:=by simpa using hb
  subst e;exact⟨h1,hL,h2,h3⟩
 .obtain⟨o,es,ep,ho,r⟩:=hm;exact⟨o,es,ep,k _ o (bJ hL) ho,r⟩
 .refine(I.hok b u e).stay (λc v hc q=>k c v ?_ q) (λ_ q=>q) (λ_ _ q=>q) λ_ _ _ q=>q;rcases hc with z|z
  .rw[z];exact nit b u e
  .exact nit c _ z
theorem Inv.tok(I:Inv X pins σ H s)(t:Nat):Inv X pins σ H { s with toks:=t }:=I.un (h':=s.heap) (t':=t) Un.refl I.hok
theorem Inv.kept{t':Nat}(I:Inv X pins σ H s)(k:∀b u,s.heap.get? b=a3 u->h'.get? b=a3 u):Inv X pins σ H { s with heap:=h',toks:=t' }:=I.un (Un.kept k) (I.hok.kept k)
theorem Inv.laid{a:aa}{o:HO}{t':Nat}(I:Inv X pins σ H s)(k:∀b u,s.heap.get? b=a3 u->h'.get? b=a3 u)(hp:s.heap.objs.size<=a)(new:ji X.prog X.w (upd H a o) h' a o) :
  Inv X pins σ (upd H a o) { s with heap:=h',toks:=t' }:=I.un (Un.laid k hp (I.hok.fresh hp)) (I.hok.laid k hp new)
theorem Inv.write{x e:aa}{o:HO}{t':Nat}(I:Inv X pins σ H s)(mu:Mut (H x))(he:e=x\/H e=a3 (.own x))(k:∀b u,b≠e->s.heap.get? b=a3 u->h'.get? b=a3 u)(heo:∃u,h'.get? e=a3 u)
  (new:ji X.prog X.w (upd H x o) h' x o):Inv X pins σ (upd H x o) { s with heap:=h',toks:=t' }:=I.un (Un.write mu he k heo) (I.hok.write mu he k heo new)
theorem Inv.pins_of{pins':k92}(I:Inv X pins σ H s)(h:∀p∈pins',s.heap.get? p.1=a3 p.2/\H p.1=a6/\p.1≠X.env.locals/\p.1∉X.fs/\∀v,p.2.data≠.cell v):Inv X pins' σ H s :=
 ⟨I.ok,I.os,I.bare,I.base,I.loc,I.cell,I.free,I.freeC,λp hp=>(Xn.mp hp).elim (λz=>I.pin p (P0 _ z)) (h p),I.hok,I.len⟩
theorem O5{N:List af}(hN:N.Nodup){i j:Nat}{x:af}(a:N[i]?=a3 x)(b:N[j]?=a3 x):i=j:=by obtain⟨h1,e1⟩:=X3.mp a;obtain⟨h2,e2⟩:=X3.mp b;exact(cy hN).mp (e1.trans e2.symm)
theorem Wb{M:iP}{A:aB}{E:k91}{i:Nat}{x:af}{v:V}{u:a9}{Q:Unit->ae->Prop}(I:Inv X pins σ H s)(hN:X.N.Nodup)(hi:X.N[i]?=a3 x)(hx:Loc X.env.scope x)(r:RelV v u)
  (h:∀s',Inv X pins (σ.set i (a3 v)) H s'->(∃a,cf a s.heap s'.heap/\(a=X.env.locals\/X.env.cells.lookup x=a3 a))->Q () s') (hf:X.fn x=a5\/X.env.scope.names.lookup x=a3 .local:=by first|exact .inl rfl|exact .inr rfl|assumption):ao M A (storeName X.env x u) Q E s:=by
 obtain⟨m,hn,hl⟩:=id I.loc;have hcls:(X.env.scope.kind==.class || (X.env.scope.kind==.module&&X.env.locals != X.env.globals))=a4:=by rw[I.ok.kind];rfl
 have hiσ:i<σ.length:=by rw[I.len];exact(X3.mp hi).1
 have cne:=I.cne;have tracked:∀{a:aa}{h':aD},(∃o,s.heap.get? a=a3 o/\H a=a6)->cf a s.heap h'->HOk X.prog X.w H h':=λ{a h'} ha hs b ob e=>by
  obtain⟨_,_,hfree⟩:=ha;refine(I.hok b ob e).stay (λc w' hc q=>(hs.2 c ?_).trans q) (λ_ q=>q) (λ_ _ q=>q) λ_ _ _ q=>q;rintro rfl;rcases hc with rfl|hc
  .rw[hfree]at e;cases e
  .rw[hfree]at hc;cases hc
 rcases hx with hk|hk
 .refine wpAny_storeName_local hk hn (λh' hn' hs=>?_) hcls;obtain⟨oL,_,_,hoL,_⟩:=id hn;refine h _ ⟨I.ok,I.os,I.bare,⟨λb o e n hb hx=>?_,λb o e n hb hx=>?_,I.base.free,λb o e hx=>?_,I.base.tups,I.base.frzs,I.base.tbls⟩,⟨_,hn',λj y v' e1 e2 e3=>?_⟩,λy c e=>?_,I.free,I.freeC,λp hp=>?_,tracked ⟨oL,hoL,I.free⟩ hs,by simpa using I.len⟩ ⟨_,hs,.inl rfl⟩
  .exact(hs.2 b (Xb (Xc (X4 e) I.ok.above))).trans (I.base.keep b o e n hb hx)
  .obtain⟨sl,e1⟩:=I.base.slot b o e n hb hx;exact⟨sl,(hs.2 b (Xb (Xc (X4 e) I.ok.above))).trans e1⟩
  .obtain⟨o',e1⟩:=I.base.there b o e hx;exact⟨o',(hs.2 b (Xb (Xc (X4 e) I.ok.above))).trans e1⟩
  .by_cases hj:j=i
   .subst hj;rw[hi]at e1;cases e1;rw[gJ hiσ]at e2;cases e2;exact⟨u,r,.inl ⟨hk,by simp⟩⟩
   .rw[dP (bJ hj)]at e2;obtain⟨u',r',q⟩:=hl j y v' e1 e2 e3;refine⟨u',r',?_⟩;rcases q with ⟨k,e⟩|⟨k,c,e,z⟩
    .refine .inl ⟨k,?_⟩;have:y≠x:=λe=>hj (O5 hN e1 (e▸hi));simp[this,e]
    .exact .inr ⟨k,c,e,z.sameBut hs (cne y c e)⟩
  .obtain⟨w',z⟩:=I.cell y c e;exact⟨w',z.sameBut hs (cne y c e)⟩
  .obtain⟨e,n,ne,nf,d⟩:=I.pin p hp;exact⟨(hs.2 p.1 ne).trans e,n,ne,nf,d⟩
 .have hfn:X.fn x=a5:=by
   rcases hf with z|z
   .exact z
   .rw[z]at hk;cases hk
  obtain⟨c,hc⟩:=I.ok.has x (.inl hk);obtain⟨w',z⟩:=I.cell x c hc;refine wpAny_storeName_cell I.ok.kind hk hc z (λh' hc' hs=>?_);obtain⟨oc,hoc,hocd⟩:=id z;refine h { s with heap:=h' } ⟨I.ok,I.os,I.bare,⟨λb o e n hb hx=>?_,λb o e n hb hx=>?_,I.base.free,λb o e hx=>?_,I.base.tups,I.base.frzs,I.base.tbls⟩,⟨m,hn.sameBut hs (bJ (cne x c hc)),λj y v' e1 e2 e3=>?_⟩,λy c' e=>?_,I.free,I.freeC,λp hp=>?_,tracked ⟨oc,hoc,I.freeC x c hc⟩ hs,by simpa using I.len⟩ ⟨c,hs,.inr hc⟩
  .exact(hs.2 b (Xb (Xc (X4 e) (I.ok.cab x c hfn hc)))).trans (I.base.keep b o e n hb hx)
  .obtain⟨sl,e1⟩:=I.base.slot b o e n hb hx;exact⟨sl,(hs.2 b (Xb (Xc (X4 e) (I.ok.cab x c hfn hc)))).trans e1⟩
  .obtain⟨o',e1⟩:=I.base.there b o e hx;exact⟨o',(hs.2 b (Xb (Xc (X4 e) (I.ok.cab x c hfn hc)))).trans e1⟩
  .by_cases hj:j=i
   .subst hj;rw[hi]at e1;cases e1;rw[gJ hiσ]at e2;cases e2;exact⟨u,r,.inr ⟨.inl hk,c,hc,hc'⟩⟩
   .rw[dP (bJ hj)]at e2;obtain⟨u',r',q⟩:=hl j y v' e1 e2 e3;refine⟨u',r',?_⟩;rcases q with q|⟨k,c',e,z'⟩
    .exact .inl q
    .refine .inr ⟨k,c',e,z'.sameBut hs ?_⟩;rintro rfl;exact hj (O5 hN e1 (I.ok.inj _ _ _ e hc▸hi))
  .by_cases hcc:c'=c
   .subst hcc;exact⟨_,hc'⟩
   .obtain⟨w2,z2⟩:=I.cell y c' e;exact⟨w2,z2.sameBut hs hcc⟩
  .obtain⟨e,n,ne,nf,d⟩:=I.pin p hp;refine⟨(hs.2 p.1 ?_).trans e,n,ne,nf,d⟩;intro q;rw[q,hoc]at e;have q':oc=p.2:=aw e;exact d w' (by rw[<-q'];exact hocd)
theorem Kz{M:iP}{A:aB}{E:k91}{i:Nat}{x:af}{v:V}{u:a9}{Q:Unit->ae->Prop}(I:Inv X pins σ H s)(hN:X.N.Nodup)(hi:X.N[i]?=a3 x)(hx:Loc X.env.scope x)(r:RelV v u)
  (h:∀s',Inv X pins (σ.set i (a3 v)) H s'->Q () s') (hf:X.fn x=a5\/X.env.scope.names.lookup x=a3 .local:=by first|exact .inl rfl|exact .inr rfl|assumption):ao M A (storeName X.env x u) Q E s :=
 Wb I hN hi hx r (λs' I' _=>h s' I') hf
theorem Inv.call'{s':ae}{ch:List aa}(I:Inv X pins σ H s)(ho:s'.os=s.os)(u:Un (frs X.stack) ch H H' s.heap s'.heap)(hok:HOk X.prog X.w H' s'.heap)(hg:dy s'.gens)
  (hch:∀b∈ch,(b∈X.ex\/X.s₀.heap.objs.size<=b)/\b≠X.env.locals/\(∀x c,X.env.cells.lookup x=a3 c->c≠b)/\∀p∈X.pn++pins,p.1≠b):Inv X pins σ H' s':=by
 obtain⟨h',g',d',t',o'⟩:=s';have e:o'=s.os:=ho;subst e;exact I.call (g':=g') (t':=t') (d':=d') u hok hg hch
end
abbrev XK:=a9->Option aa->Hp->Prop
noncomputable abbrev St:=List (Option V)
abbrev VK:=V->Hp->Prop
abbrev TE:=St->Hp->VK->Prop
abbrev TT:=St->Hp->(Bool->Hp->Prop)->Prop
abbrev TA:=St->Hp->(List V->Hp->Prop)->Prop
structure Ends where
 nx:St->Hp->Prop
 rt:VK
 bk:St->Hp->Prop:=λ_ _=>False
 ct:St->Hp->Prop:=λ_ _=>False
abbrev TS:=Ends->St->Hp->Prop
def EP(X:Cx)(pins:k92)(σ:St)(Q:VK)(u:a9)(s':ae):Prop:=∃v H',Inv X pins σ H' s'/\RelV v u/\Q v H'
def TP(X:Cx)(pins:k92)(σ:St)(Q:Bool->Hp->Prop)(b:Bool)(s':ae):Prop:=∃H',Inv X pins σ H' s'/\Q b H'
def AP(X:Cx)(pins:k92)(σ:St)(Q:List V->Hp->Prop)(us:List a9)(s':ae):Prop:=∃vs H',Inv X pins σ H' s'/\Vals vs us/\Q vs H'
def Ext(X:Cx)(H1 H2:Hp)(s':ae):Prop:=∀b,H2 b=H1 b\/∃x o v,X.env.cells.lookup x=a3 b/\X.fn x=a5/\H2 b=a3 (.frz o (.own 0))/\s'.heap.get? b=a3 o/\o.data=.cell v
theorem Ext.refl{X:Cx}{H:Hp}{s':ae}:Ext X H H s':=λ_=>.inl rfl
def SP(X:Cx)(pins:k92)(D:Ends)(f:Flow)(s':ae):Prop :=
 match f with
 |.next=>∃σ' H',Inv X pins σ' H' s'/\D.nx σ' H'
 |.brk=>∃σ' H',Inv X pins σ' H' s'/\D.bk σ' H'
 |.cont=>∃σ' H',Inv X pins σ' H' s'/\D.ct σ' H'
 |.ret u=>∃v σ' H' H2,Inv X pins σ' H' s'/\RelV v u/\Ext X H' H2 s'/\D.rt v H2
def PE(X:Cx)(e:ai)(t:TE):Prop :=
 ∀(pins:k92) (s:ae) (σ:St) (H:Hp) (Q:VK),Inv X pins σ H s->t σ H Q->ao (ax X.prog X.w) X.A (ay e X.env) (EP X pins σ Q) X.xe s
def PT(X:Cx)(e:ai)(t:TT):Prop :=
 ∀(pins:k92) (s:ae) (σ:St) (H:Hp) (Q:Bool->Hp->Prop),Inv X pins σ H s->t σ H Q->ao (ax X.prog X.w) X.A (fG e X.env (ay e X.env)) (TP X pins σ Q) X.xe s
def PW(X:Cx)(e:ai)(t:TT):Prop :=
 ∀(whole:lY a9)(pins:k92) (s:ae) (σ:St) (H:Hp) (Q:Bool->Hp->Prop),Inv X pins σ H s->t σ H Q->ao (ax X.prog X.w) X.A (fG e X.env whole) (TP X pins σ Q) X.xe s
def PA(X:Cx)(es:List ai)(t:TA):Prop :=
 ∀(pos:aJ)(pins:k92) (s:ae) (σ:St) (H:Hp) (Q:List V->Hp->Prop),Inv X pins σ H s->t σ H Q->ao (ax X.prog X.w) X.A (kE (aK pos (a7 es X.env))) (AP X pins σ Q) X.xe s
def PS(X:Cx)(st:aS)(t:TS):Prop :=
 ∀(pins:k92) (s:ae) (σ:St) (H:Hp) (D:Ends),Inv X pins σ H s->t D σ H->ao (ax X.prog X.w) X.A (exec st X.env) (SP X pins D) X.xe s
def PSs(X:Cx)(st:List aS)(t:TS):Prop :=
 ∀(pins:k92) (s:ae) (σ:St) (H:Hp) (D:Ends),Inv X pins σ H s->t D σ H->ao (ax X.prog X.w) X.A (execs st X.env) (SP X pins D) X.xe s
theorem thn{α:Type}{t:lY α}{Q Q':α->ae->Prop}{M:iP}{A:aB}{E:k91}{s:ae}(h:ao M A t Q E s)(hQ:∀a s,Q a s->Q' a s):ao M A t Q' E s:=b7 h hQ λ_ _ x=>x
section
variable{X:Cx}
theorem bin{a b:ai}{ta tb:TE}(ha:PE X a ta)(hb:PE X b tb){pins:k92}{s:ae}{σ:St}{H:Hp}{R:V->V->Hp->Prop}(I:Inv X pins σ H s)(h:ta σ H λx H1=>tb σ H1 λy H2=>R x y H2)
  {α:Type} {Q:α->ae->Prop} {f:a9->a9->lY α}
  (hf:∀v u s2 x y H2,Inv X pins σ H2 s2->RelV x v->RelV y u->R x y H2->ao (ax X.prog X.w) X.A (f v u) Q X.xe s2) :
  ao (ax X.prog X.w) X.A (ay a X.env) (λv s₁=>ao (ax X.prog X.w) X.A (ay b X.env) (λu s₂=>ao (ax X.prog X.w) X.A (f v u) Q X.xe s₂) X.xe s₁) X.xe s:=by
 refine thn (ha pins s σ H _ I h) λv s1 ⟨x,H1,I1,r1,q1⟩=>?_;refine thn (hb pins s1 σ H1 _ I1 q1) λu s2 ⟨y,H2,I2,r2,q2⟩=>?_;exact hf v u s2 x y H2 I2 r1 r2 q2
def jjh(i:Nat):TE:=λσ H Q=>∃v,σ[i]?=a3 (a3 v)/\Q v H
def tC(v:V):TE:=λ_ H Q=>Q v H
theorem J4 {i:Nat} {x:af} {pos:aJ} (hN:X.N[i]?=a3 x) (hv:Vis X.env.scope x) (hd:(x==k94)=a4:=by decide) (hcd:(x==k95)=a4:=by decide):PE X (.Name x pos) (jjh i):=by
 intro pins s σ H Q I h;obtain⟨v,e,h⟩:=h;obtain⟨m,hn,hl⟩:=I.loc;obtain⟨u,r,l⟩:=hl i x v hN e hv;have fin:EP X pins σ Q u s:=⟨v,H,I,r,h⟩
 rcases l with ⟨hk,hm⟩|⟨hk,c,hc,hcell⟩
 .exact kn (wpAny_loadName_local I.ok.kind hk hn hm fin) hd
 .rcases hk with hk|hk
  .exact kn (wpAny_loadName_cell I.ok.kind hk hc hcell fin) hd
  .exact kn (wpAny_loadName_free I.ok.kind hk hc hcell fin hcd) hd
theorem je2{i j pos}:PE X (.Constant (.int i) j pos) (tC (.int i)):=λ_ _ _ H _ I h=>wpAny_Constant_int ⟨.int i,H,I.tok _,⟨_,rfl⟩,h⟩
theorem jhx{b j pos}:PE X (.Constant (.bool b) j pos) (tC (.bl b)):=λ_ _ _ H _ I h=>Constant_bool ⟨.bl b,H,I,rfl,h⟩
theorem Ej{j pos}:PE X (.Constant .none j pos) (tC .non):=λ_ _ _ H _ I h=>Constant_none ⟨.non,H,I,rfl,h⟩
theorem j4t{x j pos}:PE X (.Constant (.str x) j pos) (tC (.str x)):=λ_ _ _ H _ I h=>Calls.Constant_str ⟨.str x,H,I.tok _,⟨_,rfl⟩,h⟩
def Gl(X:Cx)(x:af):Prop:=X.env.kindOf x=a3 .globalImplicit
theorem Z4{E:k91}{pins:k92}{s:ae}{σ:St}{H:Hp}{x:af}{u:a9}{pos:aJ}{Q:k91}(I:Inv X pins σ H s)(hg:Gl X x)(hm:X.mg x=a3 u)(h:Q u s)
  (hd:(x==k94)=a4:=by decide):ao (ax X.prog X.w) X.A (ay (.Name x pos) X.env) Q E s :=
 fO I.ok.kind hg (Calls.loadGlobal_global (by rw[I.ok.glob];exact I.mod.glob.keeps I.bk) hm h) hd
theorem Z8{E:k91}{pins:k92}{s:ae}{σ:St}{H:Hp}{x:af}{u:a9}{pos:aJ}{Q:k91}(I:Inv X pins σ H s)(hg:Gl X x)(hm:X.mg x=a6)(hv:bE x=a3 u)(h:Q u s)
  (hn:x ≠ "__name__":=by decide) (hd:(x==k94)=a4:=by decide):ao (ax X.prog X.w) X.A (ay (.Name x pos) X.env) Q E s:=by
 obtain⟨mb,h1,h2⟩:=I.mod.blt;exact fO I.ok.kind hg (Calls.loadGlobal_builtin (by rw[I.ok.glob];exact I.mod.glob.keeps I.bk) hm (by rw[I.ok.blt];exact h1.keeps I.bk) ((h2 x hn).trans hv) h) hd
theorem Ro {x:af} {v:V} {u:a9} {pos:aJ} (hg:Gl X x) (hm:X.mg x=a3 u) (r:RelV v u) (hd:(x==k94)=a4:=by decide):PE X (.Name x pos) (tC v) :=
 λ_ _ _ H _ I h=>Z4 I hg hm ⟨v,H,I,r,h⟩ hd
theorem jb1 {x:af} {v:V} {u:a9} {pos:aJ} (hg:Gl X x) (hm:X.mg x=a6) (hv:bE x=a3 u) (r:RelV v u) (hn:x ≠ "__name__":=by decide) (hd:(x==k94)=a4:=by decide):PE X (.Name x pos) (tC v) :=
 λ_ _ _ H _ I h=>Z8 I hg hm hv ⟨v,H,I,r,h⟩ hn hd
variable{a b:ai}{ta tb:TE}{pos:aJ}
def tB(t:TE):TT:=λσ H Q=>t σ H λx H1=>∃c,x=.bl c/\Q c H1
theorem jdv{e:ai}{t:TE}(h:PE X e t)(he:∀whole,fG e X.env whole=(do let v <-whole;kD e.pos;kF [v] (truthy v)):=by intro _;rfl):PT X e (tB t):=by intro pins s σ H Q I hw;refine isTrue_plain (thn (h pins s σ H _ I hw) λv s1 ⟨x,H1,I1,r1,q1⟩=>?_) (he _);obtain⟨d,rfl,q⟩:=q1;cases r1;exact bh ⟨H1,I1,q⟩
variable{tA tB':TT}{rest:List ai}
def jjt(t u:TT):TT:=λσ H Q=>t σ H λc H1=>if c=a5 then u σ H1 Q else Q a4 H1
def tOr(t u:TT):TT:=λσ H Q=>t σ H λc H1=>if c=a5 then Q a5 H1 else u σ H1 Q
def jjl(t:TT):TT:=λσ H Q=>t σ H λc H1=>Q (!c) H1
theorem jav(ha:PT X a tA):PW X (.BoolOp .And [a] pos) tA:=by
 intro wh pins s σ H Q I h;refine isTrue_and (thn (ha pins s σ H Q I h) λc s1 e=>?_);cases c with
 |true=>exact isTrue_and_nil e
 |false=>exact e
theorem jdt(ha:PT X a tA):PW X (.BoolOp .Or [a] pos) tA:=by
 intro wh pins s σ H Q I h;refine isTrue_or (thn (ha pins s σ H Q I h) λc s1 e=>?_);cases c with
 |false=>exact isTrue_or_nil e
 |true=>exact e
theorem jdu(ha:PT X a tA)(hb:PW X (.BoolOp .And (b::rest) pos) tB'):PW X (.BoolOp .And (a::b::rest) pos) (jjt tA tB'):=by
 intro wh pins s σ H Q I h;refine isTrue_and (thn (ha pins s σ H _ I h) λc s1 ⟨H1,I1,q1⟩=>?_);cases c with
 |true=>exact hb wh pins s1 σ H1 Q I1 q1
 |false=>exact⟨H1,I1,q1⟩
theorem jhv(ha:PT X a tA)(hb:PW X (.BoolOp .Or (b::rest) pos) tB'):PW X (.BoolOp .Or (a::b::rest) pos) (tOr tA tB'):=by
 intro wh pins s σ H Q I h;refine isTrue_or (thn (ha pins s σ H _ I h) λc s1 ⟨H1,I1,q1⟩=>?_);cases c with
 |true=>exact⟨H1,I1,q1⟩
 |false=>exact hb wh pins s1 σ H1 Q I1 q1
theorem jdw(ha:PT X a tA):PT X (.UnaryOp .Not a pos) (jjl tA):=by intro pins s σ H Q I h;exact isTrue_not (ha pins s σ H (λc H1=>Q (!c) H1) I h)
def jhi(ta tb:TE):TE:=λσ H Q=>ta σ H λx H1=>∃c,x=.bl c/\if c=a5 then tb σ H1 Q else Q (.bl a4) H1
theorem j4u{op}{t:TE}(h:PE X a t):PE X (.BoolOp op [a] pos) t:=λpins s σ H Q I hw=>BoolOp_one (h pins s σ H Q I hw)
theorem je4(ha:PE X a ta)(hb:PE X (.BoolOp .And (b::rest) pos) tb):PE X (.BoolOp .And (a::b::rest) pos) (jhi ta tb):=by
 intro pins s σ H Q I h;refine BoolOp_and (thn (ha pins s σ H _ I h) λv s1 ⟨x,H1,I1,r1,q1⟩=>?_);obtain⟨c,rfl,q1⟩:=q1;cases r1;refine bh ?_;cases c with
 |true=>exact hb pins s1 σ H1 Q I1 q1
 |false=>exact⟨.bl a4,H1,I1,rfl,q1⟩
def tIf(t:TT)(ta tb:TE):TE:=λσ H Q=>t σ H λc H1=>if c=a5 then ta σ H1 Q else tb σ H1 Q
theorem j7f{c:ai}(hc:PT X c tA)(ha:PE X a ta)(hb:PE X b tb):PE X (.IfExp c a b pos) (tIf tA ta tb):=by
 intro pins s σ H Q I h;refine wpAny_IfExp (thn (hc pins s σ H _ I h) λd s1 ⟨H1,I1,q1⟩=>?_);cases d with
 |true=>exact ha pins s1 σ H1 Q I1 q1
 |false=>exact hb pins s1 σ H1 Q I1 q1
end
def SqL(K:k90)(H:Hp)(a:aa)(xs:List V):Prop :=
 Rd H a (.lst xs) \/
  ∃(o:cC)(its:Array a9)(n:Nat),K.lookup a=a3 o/\o.cls=.type "list"/\o.dict=a6/\o.data=.seq its n/\its.size<=aj/\Vals xs its.toList
def SqT(K:k90)(H:Hp)(a:aa)(xs:List V):Prop :=
 Rd H a (.tup xs) \/
  ∃(o:cC)(its:Array a9)(n:Nat),K.lookup a=a3 o/\o.cls=.type "tuple"/\o.dict=a6/\o.data=.seq its n/\its.size<=aj/\Vals xs its.toList
noncomputable def jkh:a9->Option V
 |.none=>a3 .non
 |.bool b=>a3 (.bl b)
 |.int i _=>a3 (.int i)
 |.str x _=>a3 (.str x)
 |.bytes b _=>a3 (.byt b)
 |.float b _=>a3 (.flt b)
 |.ref a=>a3 (.ref a)
 |.type n=>a3 (.ty n)
 |_=>a6
theorem RelV.abs{x:V}{u:a9}(r:RelV x u):jkh u=a3 x:=by
 cases x with
 |non=>cases r;rfl
 |bl _=>cases r;rfl
 |int _=>obtain⟨t,rfl⟩:=r;rfl
 |str _=>obtain⟨t,rfl⟩:=r;rfl
 |byt _=>obtain⟨t,rfl⟩:=r;rfl
 |flt _=>obtain⟨t,rfl⟩:=r;rfl
 |ref _=>cases r;rfl
 |ty _=>cases r;rfl
theorem RelV.inj{x y:V}{u:a9}(r:RelV x u)(q:RelV y u):x=y:=aw (r.abs.symm.trans q.abs)
theorem Vals.inj:∀{xs ys:List V}{us:List a9},Vals xs us->Vals ys us->xs=ys
 |_,_,_,.nil,.nil=>rfl
 |_,_,_,.cons r t,.cons r' t'=>by rw[r.inj r',Vals.inj t t']
section
variable{X:Cx}{pins:k92}{σ:St}{H:Hp}{s:ae}{a:aa}{xs ys:List V}
theorem Inv.list(I:Inv X pins σ H s)(h:SqL X.K H a xs):∃its:List a9,Vals xs its/\PlainL s.heap a its.toArray/\xs.length<=aj:=by
 rcases h with h|⟨o,its,n,hk,hc,hd,hs,hz,r⟩
 .obtain⟨z,its,n,r,e⟩:=h.ok I.hok;exact⟨its,r,⟨_,n,e,rfl,rfl,rfl⟩,z⟩
 .refine⟨its.toList,r,⟨o,n,I.kIn a o hk,hc,hd,by simpa using hs⟩,?_⟩;have e:=r.length;simp only[cG]at e;omega
theorem Inv.tuple(I:Inv X pins σ H s)(h:SqT X.K H a xs):∃its:List a9,Vals xs its/\hZ s.heap a its.toArray/\xs.length<=aj:=by
 rcases h with h|⟨o,its,n,hk,hc,hnd,hs,hz,r⟩
 .obtain⟨z,its,r,p,_⟩:=h.ok I.hok;exact⟨its,r,p,z⟩
 .refine⟨its.toList,r,⟨o,I.kIn a o hk,hc,n,by simpa using hs⟩,?_⟩;have e:=r.length;simp only[cG]at e;omega
theorem Inv.tupD(I:Inv X pins σ H s)(h:SqT X.K H a xs):Zf s.heap a:=by
 rcases h with h|⟨o,its,n,hk,hc,hnd,hs,hz,r⟩
 .obtain⟨z,its,r,p,q⟩:=h.ok I.hok;exact q
 .intro o' e;rw[I.kIn a o hk]at e;cases e;exact hnd
theorem Inv.list_inj(I:Inv X pins σ H s)(h:SqL X.K H a xs)(h':SqL X.K H a ys):xs=ys:=by
 obtain⟨its,r,⟨o,n,e,_,_,d⟩,_⟩:=I.list h;obtain⟨its',r',⟨o',n',e',_,_,d'⟩,_⟩:=I.list h';rw[e]at e';cases e';rw[d]at d';injection d' with d1 _;have:its=its':=by simpa using congrArg ky d1
 subst this;exact r.inj r'
theorem Inv.tuple_inj(I:Inv X pins σ H s)(h:SqT X.K H a xs)(h':SqT X.K H a ys):xs=ys:=by
 obtain⟨its,r,⟨o,e,_,n,d⟩,_⟩:=I.tuple h;obtain⟨its',r',⟨o',e',_,n',d'⟩,_⟩:=I.tuple h';rw[e]at e';cases e';rw[d]at d';injection d' with d1 _;have:its=its':=by simpa using congrArg ky d1
 subst this;exact r.inj r'
end
noncomputable abbrev Cx.wish(X:Cx)(E:k91):Cx:={ X with xe:=E }
noncomputable abbrev Cx.nox(X:Cx):Cx:=X.wish λ_ _=>False
theorem Cx.Ok.wish{X:Cx}(ok:X.Ok)(E:k91):(X.wish E).Ok :=
 ⟨ok.mod,ok.kind,ok.glob,ok.blt,ok.above,ok.inj,ok.has,ok.cab,ok.hd,ok.frames,ok.stk,ok.exf,ok.bs,ok.bsz,ok.noex,ok.exfs,ok.funs,ok.frf⟩
theorem Cx.Ok.unwish{X:Cx}{E:k91}(ok:(X.wish E).Ok):X.Ok :=
 ⟨ok.mod,ok.kind,ok.glob,ok.blt,ok.above,ok.inj,ok.has,ok.cab,ok.hd,ok.frames,ok.stk,ok.exf,ok.bs,ok.bsz,ok.noex,ok.exfs,ok.funs,ok.frf⟩
section
variable{X:Cx}{pins:k92}{σ:St}{H:Hp}{s:ae}{E:k91}
theorem Inv.wish(I:Inv X pins σ H s)(E:k91):Inv (X.wish E) pins σ H s:=⟨I.ok.wish E,I.os,I.bare,I.base,I.loc,I.cell,I.free,I.freeC,I.pin,I.hok,I.len⟩
theorem Inv.unwish(I:Inv (X.wish E) pins σ H s):Inv X pins σ H s:=⟨I.ok.unwish,I.os,I.bare,I.base,I.loc,I.cell,I.free,I.freeC,I.pin,I.hok,I.len⟩
theorem SP.unwish{D:Ends}{f:Flow}{s':ae}(h:SP (X.wish E) pins D f s'):SP X pins D f s':=by
 cases f with
 |next=>obtain⟨σ',H',I,q⟩:=h;exact⟨σ',H',I.unwish,q⟩
 |brk=>obtain⟨σ',H',I,q⟩:=h;exact⟨σ',H',I.unwish,q⟩
 |cont=>obtain⟨σ',H',I,q⟩:=h;exact⟨σ',H',I.unwish,q⟩
 |ret u=>obtain⟨v,σ',H',H2,I,r,x,q⟩:=h;exact⟨v,σ',H',H2,I.unwish,r,x,q⟩
theorem PSs.nox{st:List aS}{t:TS}(h:PSs X.nox st t):PSs X st t:=λpins s σ H D I hw =>b7 (h pins s σ H D (I.wish _) hw) (λ_ _ q=>q.unwish) λ_ _ z=>aY z
end
section
variable{X:Cx}{st:aS}{rest:List aS}{t u:TS}{e:ai}{te:TE}{pos:aJ}
def jhe:TS:=λD σ H=>D.nx σ H
def jjj(t u:TS):TS:=λD σ H=>t { D with nx:=u D } σ H
theorem Nz:PSs X [] jhe:=λ_ _ σ H _ I h=>gB ⟨σ,H,I,h⟩
theorem Q4(h1:PS X st t)(h2:PSs X rest u):PSs X (st::rest) (jjj t u):=by
 intro pins s σ H D I h;refine kZ (thn (h1 pins s σ H { D with nx:=u D } I h) λf s1 q=>?_);cases f with
 |next =>obtain⟨σ',H',I',q⟩:=q;exact h2 pins s1 σ' H' D I' q
 |ret v=>exact q
 |brk=>exact q
 |cont=>exact q
theorem j1j(h1:PS X st t):PSs X [st] t:=by
 intro pins s σ H D I h;refine kZ (thn (h1 pins s σ H D I h) λf s1 q=>?_);cases f with
 |next=>exact gB q
 |ret v=>exact q
 |brk=>exact q
 |cont=>exact q
theorem Inv.quiet{pins:k92}{σ:St}{H:Hp}{s:ae}(I:Inv X pins σ H s):interactive X.env=a4:=by simp[interactive,I.ok.kind]
def jhf(te:TE):TS:=λD σ H=>te σ H λ_ H1=>D.nx σ H1
theorem U7(he:PE X e te)(hs:aG e a6 pos.line X.env=pure a4:=by rfl):PS X (.Expr e pos) (jhf te):=by intro pins s σ H D I h;exact wpAny_Expr_any (thn (he pins s σ H _ I h) λv s1 ⟨x,H1,I1,r1,q1⟩=>⟨σ,H1,I1,q1⟩) I.quiet hs
def jjk(te:TE):TS:=λD σ H=>te σ H D.rt
theorem Wh(he:PE X e te):PS X (.Return (a3 e) pos) (jjk te):=by intro pins s σ H D I h;exact wpAny_Return_some (thn (he pins s σ H _ I h) λv s1 ⟨x,H1,I1,r1,q1⟩=>⟨x,σ,H1,H1,I1,r1,.refl,q1⟩)
def jjp(c:TT)(t u:TS):TS:=λD σ H=>c σ H λb H1=>if b=a5 then t D σ H1 else u D σ H1
theorem j32{c:ai}{a b:List aS}{tc:TT}(hc:PT X c tc)(ha:PSs X a t)(hb:PSs X b u):PS X (.If c a b pos) (jjp tc t u):=by
 intro pins s σ H D I h;refine wpAny_If (thn (hc pins s σ H _ I h) λd s1 ⟨H1,I1,q1⟩=>?_);cases d with
 |true=>exact ha pins s1 σ H1 D I1 q1
 |false=>exact hb pins s1 σ H1 D I1 q1
end
abbrev TG:=V->St->Hp->(St->Hp->Prop)->Prop
abbrev TGs:=List V->St->Hp->(St->Hp->Prop)->Prop
def PG(X:Cx)(target:ai)(t:TG):Prop :=
 ∀(pins:k92) (s:ae) (σ:St) (H:Hp) (v:V) (u:a9) (Q:St->Hp->Prop),Inv X pins σ H s->RelV v u->t v σ H Q ->
  ao (ax X.prog X.w) X.A (eU target X.env u) (λ_ s'=>∃σ' H',Inv X pins σ' H' s'/\Q σ' H') X.xe s
def PGs(X:Cx)(ts:List ai)(t:TGs):Prop :=
 ∀(pins:k92) (s:ae) (σ:St) (H:Hp) (vs:List V) (us:List a9) (Q:St->Hp->Prop),Inv X pins σ H s->Vals vs us->t vs σ H Q ->
  ao (ax X.prog X.w) X.A (assignInOrder ((bF ts X.env).map (·.2)) us) (λ_ s'=>∃σ' H',Inv X pins σ' H' s'/\Q σ' H') X.xe s
section
variable{X:Cx}{pos:aJ}
def j9o(i:Nat):TG:=λv σ H Q=>Q (σ.set i (a3 v)) H
theorem Zm{i:Nat}{x:af}(hN:X.N.Nodup)(hi:X.N[i]?=a3 x)(hx:Loc X.env.scope x)(hf:X.fn x=a5\/X.env.scope.names.lookup x=a3 .local:=by first|exact .inl rfl|exact .inr rfl|assumption):PG X (.Name x pos) (j9o i):=by intro pins s σ H v u Q I r h;exact kC (Kz I hN hi hx r (λs' I'=>⟨_,H,I',h⟩) hf)
def jk8:TGs:=λvs σ H Q=>vs=[]/\Q σ H
def jim(t:TG)(u:TGs):TGs:=λvs σ H Q=>∃v r,vs=v::r/\t v σ H λσ' H'=>u r σ' H' Q
theorem j1m:PGs X [] jk8:=by intro pins s σ H vs us Q I r h;obtain⟨e,h⟩:=h;subst e;cases r;exact assignInOrder_nil ⟨σ,H,I,h⟩
theorem Y4{e:ai}{es:List ai}{t:TG}{u:TGs}(h1:PG X e t)(h2:PGs X es u)
  (hs:(bF (e::es) X.env).map (·.2)=eU e X.env::(bF es X.env).map (·.2):=by rfl):PGs X (e::es) (jim t u):=by
 intro pins s σ H vs us Q I r h;obtain⟨v,vr,e1,h⟩:=h;subst e1;cases r with
 |cons r rr =>rw[hs];refine assignInOrder_cons (thn (h1 pins s σ H _ _ _ I r h) λ_ s1 ⟨σ1,H1,I1,q1⟩=>?_);exact h2 pins s1 σ1 H1 _ _ Q I1 rr q1
def jk7(K:k90)(n:Nat)(t:TGs):TG:=λv σ H Q=>∃a xs,v=.ref a/\SqT K H a xs/\xs.length=n/\t xs σ H Q
theorem j4r{es:List ai}{k:Nat}{t:TGs}{n:Nat}(hc:X.calm=a5)(h:PGs X es t)
  (hn:(bF es X.env).length=n:=by rfl) (hst:(bF es X.env).findIdx? (·.1)=a6:=by rfl):PG X (.Tuple es k pos) (jk7 X.K n t):=by
 intro pins s σ H v u Q I r hw;obtain⟨a,xs,e1,hq,hl,hw⟩:=hw;subst e1;cases r;obtain⟨its,rv,ht,hz⟩:=I.tuple hq;refine assign_Tuple_tuple (I.ok.hd hc) ht (by simp[hn,<-hl,rv.length]) hst λh' hx=>?_;have I1:Inv X pins σ H { s with heap:=h' }:=I.kept (t':=s.toks) λb o e=>hx b o (Xb (X4 e)) e;exact h pins _ σ H xs _ Q I1 (by simpa using rv) hw
def jjs(te:TE)(g:TG):TS:=λD σ H=>te σ H λx H1=>g x σ H1 D.nx
theorem Vy{i:Nat}{x:af}{e:ai}{te:TE}{pos':aJ}(hN:X.N.Nodup)(hi:X.N[i]?=a3 x)(hx:Loc X.env.scope x)(he:PE X e te)(hs:aG e (a3 (.Name x pos')) pos.line X.env=pure a4:=by rfl)(hf:X.fn x=a5\/X.env.scope.names.lookup x=a3 .local:=by first|exact .inl rfl|exact .inr rfl|assumption) :
  PS X (.Assign [.Name x pos'] e pos) (jjs te (j9o i)):=by
 intro pins s σ H D I h;refine wpAny_Assign_Name (thn (he pins s σ H _ I h) λv s1 ⟨y,H1,I1,r1,q1⟩=>?_) hs;exact Kz I1 hN hi hx r1 (λs2 I2=>⟨_,H1,I2,q1⟩) hf
end
section
variable{X:Cx}{pos:aJ}
end
structure It where
 go:Nat->Hp->Prop
 yld:Nat->Hp->V->Hp->Prop
 stop:Nat->Hp->Prop
def Qp(X:Cx)(pins:k92)(H:Hp)(b:aa):Prop :=
 H b=a6/\b≠X.env.locals/\b∉X.fs/\(b∈X.ex\/X.s₀.heap.objs.size<=b)/\(∀x c,X.env.cells.lookup x=a3 c->c≠b)/\∀p∈X.pn++pins,p.1≠b
theorem Inv.fpOk{X:Cx}{pins:k92}{σ:St}{H H':Hp}{s:ae}{b:aa}(I:Inv X pins σ H s)(hb:s.heap.objs.size<=b)(hn:H' b=a6):Qp X pins H' b:=by
 refine⟨hn,T5 (Xc I.lt hb),I.nofs hb,.inr (Xk I.sz hb),λx c e z=>?_,λp hp z=>?_⟩
 .obtain⟨v,q⟩:=I.cell x c e;exact absurd (Xc q.lt (by rw[z];exact hb)) (pq _)
 .exact absurd (Xc (X4 (I.pin p hp).1) (by rw[z];exact hb)) (pq _)
structure Turn(P:au)(w:aA)(K:k90)(tg:ai)(J:It)(fp:List aa)(it:aa)(tn:Nat->aD->Prop):Prop where
 mem:it∈fp
 obj:∀i h,tn i h->∀b∈fp,∃o,h.get? b=a3 o/\∀v,o.data≠.cell v
 keep:∀i h h',tn i h->(∀b∈fp,∀o,h.get? b=a3 o->h'.get? b=a3 o)->tn i h'
 item:∀(X:Cx),X.prog=P->X.w=w->X.K=K->X.calm=a5->∀(i:Nat)(pins:k92) (s:ae) (σ:St) (H:Hp) (E:k91),Inv X pins σ H s->(∀b∈fp,Qp X pins H b)->tn i s.heap->J.go i H ->
  ao (ax P w) X.A (eP (.ref it)) (λr s1=>∃u,r=a3 u /\
   ao (ax P w) X.A (dW tg (.ref it) u) (λ_ s2=>∃x H',Inv X pins σ H' s2/\RelV x u/\J.yld i H x H'/\tn (i+1) s2.heap/\∀b∈fp,H' b=a6) E s1) E s
 done:∀(X:Cx),X.prog=P->X.w=w->X.K=K->X.calm=a5->∀(i:Nat)(pins:k92) (s:ae) (σ:St) (H:Hp) (E:k91),Inv X pins σ H s->(∀b∈fp,Qp X pins H b)->tn i s.heap->J.stop i H ->
  ao (ax P w) X.A (eP (.ref it)) (λr s1=>r=a6/\Inv X pins σ H s1) E s
 self:∀(A:aB)(i:Nat)(s:ae)(Q:k91)(E:k91),tn i s.heap->Q (.ref it) s->ao (ax P w) A (j3 (.ref it)) Q E s
abbrev TI:=St->Hp->(It->Hp->Prop)->Prop
def PIE(X:Cx)(pins:k92)(σ:St)(tg:ai)(R:It->Hp->Prop)(itv:a9)(s2:ae):Prop :=
 ∃(it:aa)(fp:List aa)(tn:Nat->aD->Prop)(J:It)(H':Hp),itv=.ref it/\Inv X pins σ H' s2/\Turn X.prog X.w X.K tg J fp it tn/\tn 0 s2.heap/\(∀b∈fp,Qp X pins H' b)/\R J H'
def PI(X:Cx)(tg iter:ai)(wi:TI):Prop :=
 ∀(pins:k92) (s:ae) (σ:St) (H:Hp) (R:It->Hp->Prop),Inv X pins σ H s->wi σ H R ->
  ao (ax X.prog X.w) X.A (ay iter X.env) (λv s1=>ao (ax X.prog X.w) X.A (j3 v) (PIE X pins σ tg R) X.xe s1) X.xe s
theorem Kd{M:iP}{A:aB}{E:k91}{s:ae}{tg:ai}{it:aa}{u:a9}{o:cC}{n:String}{vs:Array a9}{Q:Unit->ae->Prop}(ho:s.heap.get? it=a3 o)(hc:o.cls=.type n)(hd:o.data=.fields vs)
  (hn:["enumerate","zip","dict_itemiterator","dict_reverseitemiterator","odict_iterator","itertools.zip_longest","itertools.pairwise"].contains n=a4) (hQ:Q () s):ao M A (dW tg (.ref it) u) Q E s:=by
 unfold dW;cases tg<;>first
  |exact ah hQ
  |(cases u<;>first
    |exact ah hQ
    |(refine a8 (wpAny_load ho ?_);rw[hc,hd];show ao M A (if (["enumerate","zip","dict_itemiterator","dict_reverseitemiterator","odict_iterator","itertools.zip_longest","itertools.pairwise"].contains n&&vs[0]?==a3 (dh _))=a5 then _ else _) Q E s;rw[if_neg (by intro h;rw[hn,fY]at h;cases h)];exact ah hQ))
noncomputable def Itl(K:k90)(a:aa):It :=
 ⟨λi H=>∃xs x,SqL K H a xs/\xs[i]?=a3 x,λi H x H'=>H'=H/\∀xs,SqL K H a xs->xs[i]?=a3 x,λi H=>∃xs,SqL K H a xs/\xs.length<=i⟩
noncomputable def Itt(K:k90)(a:aa):It :=
 ⟨λi H=>∃xs x,SqT K H a xs/\xs[i]?=a3 x,λi H x H'=>H'=H/\∀xs,SqT K H a xs->xs[i]?=a3 x,λi H=>∃xs,SqT K H a xs/\xs.length<=i⟩
noncomputable def Itr(lo:Int)(n:Nat):It:=⟨λi _=>i<n,λi H x H'=>H'=H/\x=.int (lo+i),λi _=>n<=i⟩
theorem j43{P:au}{w:aA}{K:k90}{tg:ai}(a it:aa):Turn P w K tg (Itl K a) [it] it (λi h=>h.IsListIter it a i) where
 mem:=by simp
 obj:=λi h st b hb=>by
  have e:b=it:=by simpa using hb
  subst e;obtain⟨o,e,c,d⟩:=st;exact⟨o,e,λv z=>by rw[d]at z;cases z⟩
 keep:=λi h h' st k=>st.at λo e=>k it (by simp) o e
 item:=by intro X hP hw hK hc i pins s σ H E I hf st hg;subst hP hw hK;obtain⟨xs,x,hq,hx⟩:=hg;obtain⟨its,rv,p,hz⟩:=I.list hq;obtain⟨u,hu,ru⟩:=rv.get hx;obtain⟨f0,f1,f2,f3,f4,f5⟩:=hf it (by simp);refine dR st p.isList (x:=u) (by simpa using hu) λh' st' sb=>?_;have I1:Inv X pins σ H { s with heap:=h' }:=I.turned (t':=s.toks) (λb o hb e=>(sb.2 b hb).trans e) f0 f1 f3 f4 f5;obtain⟨o,e,c,d⟩:=id st';exact⟨u,rfl,Kd (s:={ s with heap:=h' }) e c d (by decide) ⟨x,H,I1,ru,⟨rfl,λys hy=>by rw[I.list_inj hy hq];exact hx⟩,st',λb hb=>(hf b hb).1⟩⟩
 done:=by intro X hP hw hK hc i pins s σ H E I hf st hg;subst hP hw hK;obtain⟨xs,hq,hx⟩:=hg;obtain⟨its,rv,p,hz⟩:=I.list hq;obtain⟨f0,f1,f2,f3,f4,f5⟩:=hf it (by simp);have hl:=rv.length;exact jH (I.ok.hd hc) st p.isList (by simp;omega) λh' eb=>⟨rfl,I.turned (t':=s.toks) (λb o hb e=>eb b o hb e) f0 f1 f3 f4 f5⟩
 self:=λ_ _ _ _ _ st h=>wpAny_pyIter_listiter st h
theorem j2p{P:au}{w:aA}{K:k90}{tg:ai}(a it:aa):Turn P w K tg (Itt K a) [it] it (λi h=>h.IsTupleIter it a i) where
 mem:=by simp
 obj:=λi h st b hb=>by
  have e:b=it:=by simpa using hb
  subst e;obtain⟨o,e,c,d⟩:=st;exact⟨o,e,λv z=>by rw[d]at z;cases z⟩
 keep:=λi h h' st k=>st.at λo e=>k it (by simp) o e
 item:=by intro X hP hw hK hc i pins s σ H E I hf st hg;subst hP hw hK;obtain⟨xs,x,hq,hx⟩:=hg;obtain⟨its,rv,p,hz⟩:=I.tuple hq;obtain⟨u,hu,ru⟩:=rv.get hx;obtain⟨f0,f1,f2,f3,f4,f5⟩:=hf it (by simp);refine wpAny_pyNext_tuple_item st (show s.heap.IsTuple a its.toArray from p) (x:=u) (by simpa using hu) λh' st' sb=>?_;have I1:Inv X pins σ H { s with heap:=h' }:=I.turned (t':=s.toks) (λb o hb e=>(sb.2 b hb).trans e) f0 f1 f3 f4 f5;obtain⟨o,e,c,d⟩:=id st';exact⟨u,rfl,Kd (s:={ s with heap:=h' }) e c d (by decide) ⟨x,H,I1,ru,⟨rfl,λys hy=>by rw[I.tuple_inj hy hq];exact hx⟩,st',λb hb=>(hf b hb).1⟩⟩
 done:=by intro X hP hw hK hc i pins s σ H E I hf st hg;subst hP hw hK;obtain⟨xs,hq,hx⟩:=hg;obtain⟨its,rv,p,hz⟩:=I.tuple hq;obtain⟨f0,f1,f2,f3,f4,f5⟩:=hf it (by simp);have hl:=rv.length;exact wpAny_pyNext_tuple_end (I.ok.hd hc) st (show s.heap.IsTuple a its.toArray from p) (by simp;omega) λh' eb=>⟨rfl,I.turned (t':=s.toks) (λb o hb e=>eb b o hb e) f0 f1 f3 f4 f5⟩
 self:=λ_ _ _ _ _ st h=>wpAny_pyIter_tupleiter st h
theorem j2q{P:au}{w:aA}{K:k90}{tg:ai}(it:aa)(lo:Int)(n:Nat):Turn P w K tg (Itr lo n) [it] it (λi h=>IsRangeIter h it (lo+(i:Nat)*1) ((n:Int)-(i:Nat)) 1) where
 mem:=by simp
 obj:=λi h st b hb=>by
  have e:b=it:=by simpa using hb
  subst e;exact⟨_,st,λv z=>by
   have z':Data.fields _=Data.cell v:=z
   cases z'⟩
 keep:=λi h h' st k=>k it (by simp) _ st
 item:=by intro X hP hw hK hc i pins s σ H E I hf st hg;subst hP hw hK;obtain⟨f0,f1,f2,f3,f4,f5⟩:=hf it (by simp);have W:=Walks.range (prog:=X.prog) (w:=X.w) (I.ok.hd hc) it lo 1 n;refine W.item i s _ _ hg st λv h' tk hv st' kk=>?_;obtain⟨t,rfl⟩:=hv;have I1:Inv X pins σ H { s with heap:=h',toks:=tk }:=I.turned (λb o hb e=>kk b o (by simpa using hb) e) f0 f1 f3 f4 f5;refine⟨_,rfl,Kd (s:={ s with heap:=h',toks:=tk }) (n:="range_iterator") st' rfl rfl (by decide) ⟨.int (lo+i),H,I1,⟨t,?_⟩,⟨rfl,rfl⟩,st',λb hb=>(hf b hb).1⟩⟩;rw[lR]
 done:=by intro X hP hw hK hc i pins s σ H E I hf st hg;subst hP hw hK;obtain⟨f0,f1,f2,f3,f4,f5⟩:=hf it (by simp);exact wpAny_pyNext_range_end (I.ok.hd hc) st (by have:n<=i:=hg;omega) λh' eb=>⟨rfl,I.turned (t':=s.toks) (λb o hb e=>eb b o hb e) f0 f1 f3 f4 f5⟩
 self:=λ_ _ _ _ _ st h=>wpAny_pyIter_rangeiter st h
section
variable{X:Cx}{tg:ai}
def jik(K:k90)(tl:TE):TI:=λσ H R=>tl σ H λx H1=>∃a,x=.ref a/\(∃xs,SqL K H1 a xs)/\R (Itl K a) H1
def jk6(K:k90)(tl:TE):TI:=λσ H R=>tl σ H λx H1=>∃a,x=.ref a/\(∃xs,SqT K H1 a xs)/\R (Itt K a) H1
theorem jaz{l:ai}{tl:TE}(hl:PE X l tl):PI X tg l (jik X.K tl):=by
 intro pins s σ H R I h;refine thn (hl pins s σ H _ I h) λv s1 ⟨x,H1,I1,r1,q1⟩=>?_;obtain⟨a,e,⟨xs,hq⟩,q⟩:=q1;subst e;cases r1;obtain⟨its,rv,p,hz⟩:=I1.list hq;refine bN p.isList ?_;refine⟨s1.heap.objs.size,[s1.heap.objs.size],_,_,H1,rfl,I1.kept (t':=s1.toks) λb o e=>xj _ e,j43 a _,⟨_,X6 _ rfl,rfl,rfl⟩,λb hb=>?_,q⟩;have e:b=s1.heap.objs.size:=by simpa using hb
 subst e;exact I1.fpOk (X5 _) (I1.hok.fresh (X5 _))
theorem jdz{l:ai}{tl:TE}(hl:PE X l tl):PI X tg l (jk6 X.K tl):=by
 intro pins s σ H R I h;refine thn (hl pins s σ H _ I h) λv s1 ⟨x,H1,I1,r1,q1⟩=>?_;obtain⟨a,e,⟨xs,hq⟩,q⟩:=q1;subst e;cases r1;obtain⟨its,rv,p,hz⟩:=I1.tuple hq;refine fD (show s1.heap.IsTuple a its.toArray from p) ?_;refine⟨s1.heap.objs.size,[s1.heap.objs.size],_,_,H1,rfl,I1.kept (t':=s1.toks) λb o e=>xj _ e,j2p a _,⟨_,X6 _ rfl,rfl,rfl⟩,λb hb=>?_,q⟩;have e:b=s1.heap.objs.size:=by simpa using hb
 subst e;exact I1.fpOk (X5 _) (I1.hok.fresh (X5 _))
theorem Ed{pins:k92}{σ:St}{H:Hp}{s:ae}{R:It->Hp->Prop}{E:k91}{lo hi:Int}{t u v:gH}{tk:Nat}(I:Inv X pins σ H s)(h1:-(2^62)<=lo)(h2:lo<2^62)(h3:-(2^62)<=hi)(h4:hi<2^62)
  (q:R (Itr lo (hi-lo).toNat) H):ao (ax X.prog X.w) X.A (j3 (.ref s.heap.objs.size)) (PIE X pins σ tg R) E { s with heap:=s.heap.push { cls:=.type "range",data:=.fields #[.int lo t,.int hi u,.int 1 v] },toks:=tk }:=by
 refine wpAny_pyIter_range (IsRange.new ..) (small_one h1 h2 h3 h4) ?_;have I1:Inv X pins σ H { s with heap:=s.heap.push { cls:=.type "range",data:=.fields #[.int lo t,.int hi u,.int 1 v] },toks:=tk }:=I.kept λb o e=>xj _ e;refine⟨(s.heap.push { cls:=.type "range",data:=.fields #[.int lo t,.int hi u,.int 1 v] }).objs.size,[(s.heap.push { cls:=.type "range",data:=.fields #[.int lo t,.int hi u,.int 1 v] }).objs.size],_,_,H,rfl,
  I1.kept (t':=tk) λb o e=>xj _ e,j2q _ lo (hi-lo).toNat,?_,λb hb=>?_,q⟩
 .have e1:lo+((0:Nat):Int)*1=lo:=by simp
  have e2:(((hi-lo).toNat:Nat):Int)-((0:Nat):Int)=Builtin.Range.rangeSize lo hi 1:=by rw[rangeSize_one];split<;>omega
  show IsRangeIter _ _ (lo+((0:Nat):Int)*1) ((((hi-lo).toNat:Nat):Int)-((0:Nat):Int)) 1;rw[e1,e2];exact X6 _ rfl
 .have e:b=(s.heap.push { cls:=.type "range",data:=.fields #[.int lo t,.int hi u,.int 1 v] }).objs.size:=by simpa using hb
  subst e;exact I1.fpOk (X5 _) (I1.hok.fresh (X5 _))
def jij(ta:TA):TI:=λσ H R=>ta σ H λvs H1=>∃j:Int,vs=[.int j]/\-(2^62)<=j/\j<2^62/\R (Itr 0 j.toNat) H1
def jii(ta:TA):TI:=λσ H R=>ta σ H λvs H1=>∃i j:Int,vs=[.int i,.int j]/\(-(2^62)<=i/\i<2^62/\-(2^62)<=j/\j<2^62)/\R (Itr i (j-i).toNat) H1
theorem j4q {a:ai} {ta:TA} {p pos:aJ} (hg:Gl X "range") (hm:X.mg "range" = a6) (ha:PA X [a] ta) (hs:a7 [a] X.env=[(a4,ay a X.env)]:=by rfl):PI X tg (.Call (.Name "range" p) [a] [] pos) (jij ta):=by
 intro pins s σ H R I h;refine Call_ (Z8 I hg hm boot_range (callWith_type1 (thn (ha pos pins s σ H _ I h) λus s1 ⟨vs,H1,I1,r1,q1⟩=>?_) hs rfl));obtain⟨j,e,q1,q2,q⟩:=q1;subst e;cases r1 with
 |cons r rr =>cases rr;obtain⟨t,rfl⟩:=r;exact call_range_1 (Ed I1 nofun nofun q1 q2 (by simpa using q))
theorem j4p {a b:ai} {ta:TA} {p pos:aJ} (hg:Gl X "range") (hm:X.mg "range" = a6) (ha:PA X [a,b] ta) (hs:a7 [a,b] X.env=[(a4,ay a X.env),(a4,ay b X.env)]:=by rfl) (hs2:a7 [b] X.env=[(a4,ay b X.env)]:=by rfl) :
  PI X tg (.Call (.Name "range" p) [a,b] [] pos) (jii ta):=by
 intro pins s σ H R I h;refine Call_ (Z8 I hg hm boot_range (callWith_type1 (thn (ha pos pins s σ H _ I h) λus s1 ⟨vs,H1,I1,r1,q1⟩=>?_) (by rw[hs,hs2]) (by rw[hs2];rfl)));obtain⟨i,j,e,⟨q1,q2,q3,q4⟩,q⟩:=q1;subst e;cases r1 with
 |cons r rr =>
  cases rr with
  |cons r' rr =>cases rr;obtain⟨t,rfl⟩:=r;obtain⟨t',rfl⟩:=r';exact call_range_2 (Ed I1 q1 q2 q3 q4 q)
def jjq(wi:TI)(g:TG)(tb:TS):TS:=λD σ H=>wi σ H λJ H1=>∃W:Nat->Nat->St->Hp->Prop,(∃m,W 0 m σ H1)/\∀i m σ H,W i m σ H ->
 (J.stop i H/\D.nx σ H)\/(J.go i H/\∃N:St->Hp->Prop,(∀σ' H',N σ' H'->∃m',m'<m/\W (i+1) m' σ' H')/\∀x H',J.yld i H x H'->g x σ H' λσ2 H2=>tb { D with nx:=N,ct:=N,bk:=D.nx } σ2 H2)
noncomputable def Y0(fp:List aa)(h:aD):List (aa×cC):=fp.filterMap λb=>(h.get? b).map λo=>(b,o)
theorem Qh{fp:List aa}{h:aD}{b:aa}{o:cC}(hb:b∈fp)(e:h.get? b=a3 o):(b,o)∈Y0 fp h:=t6.mpr ⟨b,hb,by rw[e];rfl⟩
theorem Cj{fp:List aa}{h:aD}{p:aa×cC}(hp:p∈Y0 fp h):p.1∈fp/\h.get? p.1=a3 p.2:=by
 obtain⟨b,hb,e⟩:=t6.mp hp;cases q:h.get? b with
 |none=>rw[q]at e;cases e
 |some o =>rw[q]at e;have e':(b,o)=p:=aw e;subst e';exact⟨hb,q⟩
theorem Inv.pinned{pins:k92}{σ:St}{H:Hp}{s:ae}{fp:List aa}(I:Inv X pins σ H s)(hf:∀b∈fp,Qp X pins H b)(ho:∀b∈fp,∃o,s.heap.get? b=a3 o/\∀v,o.data≠.cell v):Inv X (pins++Y0 fp s.heap) σ H s :=
 I.pins_of λp hp=>(Xn.mp hp).elim (λz=>I.pin p (Xd _ z)) λz=>by obtain⟨hb,e⟩:=Cj z;obtain⟨f0,f1,f2,_⟩:=hf p.1 hb;obtain⟨o,e',d⟩:=ho p.1 hb;rw[e]at e';cases e';exact⟨e,f0,f1,f2,d⟩
theorem Inv.unpinned{pins pl:k92}{σ:St}{H:Hp}{s:ae}(I:Inv X (pins++pl) σ H s):Inv X pins σ H s:=I.pins_of λp hp=>I.pin p (Xd _ (P0 _ hp))
theorem Eg{iter:ai}{body:List aS}{wi:TI}{g:TG}{tb:TS}{pos:aJ}(hp:dG (ax X.prog X.w) X.A X.env X.xe)(hc:X.calm=a5)(hi:PI X tg iter wi)(hg:PG X tg g)(hb:PSs X body tb)
  (hs:∀x,aC iter X.env x=pure x:=by intro _;rfl):PS X (.For tg iter body [] pos) (jjq wi g tb):=by
 intro pins s σ H D I h;refine wpAny_For (thn (hi pins s σ H _ I h) λv s1 h1=>thn h1 λitv s2 h2=>?_) hs;obtain⟨it,fp,tn,J,H2,e,I2,T,st2,f2,W,⟨m0,w0⟩,turn⟩:=h2;subst e;have stat:∀{H':Hp},(∀b∈fp,H' b=a6)->∀b∈fp,Qp X pins H' b:=λhn b hb=>⟨hn b hb,(f2 b hb).2⟩
 refine codeAny_forLoop_any (λn s'=>∃i σ' H',Inv X pins σ' H' s'/\tn i s'.heap/\(∀b∈fp,H' b=a6)/\W i n σ' H') ?_ m0 ⟨0,σ,H2,I2,st2,λb hb=>(f2 b hb).1,w0⟩;rintro n s3 ⟨i,σ3,H3,I3,st3,fr3,w3⟩;rcases turn i n σ3 H3 w3 with ⟨stop,qn⟩|⟨go,N,hN,step⟩
 .refine cV hp (thn (T.done X rfl rfl rfl hc i pins s3 σ3 H3 X.xe I3 (stat fr3) st3 stop) λr s4 ⟨hr,I4⟩=>?_);subst hr;exact gB ⟨σ3,H3,I4,qn⟩
 .refine cV hp (thn (T.item X rfl rfl rfl hc i pins s3 σ3 H3 X.xe I3 (stat fr3) st3 go) λr s4 ⟨u,hr,h4⟩=>?_);subst hr;refine cV hp (thn h4 λ_ s5 ⟨x,H5,I5,r5,y5,st5,fr5⟩=>?_);have I5':=I5.pinned (stat fr5) (T.obj _ _ st5);refine cV hp (thn (hg _ s5 σ3 H5 x u _ I5' r5 (step x H5 y5)) λ_ s6 ⟨σ6,H6,I6,q6⟩=>?_);refine cV hp (thn (hb _ s6 σ6 H6 _ I6 q6) λf s7 q7=>?_);have iO:∀{σ7:St}{H7:Hp},Inv X (pins++Y0 fp s5.heap) σ7 H7 s7->N σ7 H7->∃m,m<n/\∃i σ' H',Inv X pins σ' H' s7/\tn i s7.heap/\(∀b∈fp,H' b=a6)/\W i m σ' H':=λ{σ7 H7} I7 n7=>by obtain⟨m',hm,w7⟩:=hN σ7 H7 n7;refine⟨m',hm,i+1,σ7,H7,I7.unpinned,T.keep _ _ _ st5 λb hb o e=>(I7.pin (b,o) (Xd _ (Xd _ (Qh hb e)))).1,λb hb=>?_,w7⟩;obtain⟨o,e,d⟩:=T.obj _ _ st5 b hb;exact(I7.pin (b,o) (Xd _ (Xd _ (Qh hb e)))).2.1
  cases f with
  |next=>obtain⟨σ7,H7,I7,n7⟩:=q7;exact iO I7 n7
  |cont=>obtain⟨σ7,H7,I7,n7⟩:=q7;exact iO I7 n7
  |brk=>obtain⟨σ7,H7,I7,q7⟩:=q7;exact⟨σ7,H7,I7.unpinned,q7⟩
  |ret v=>obtain⟨x7,σ7,H7,H8,I7,r7,x8,q7⟩:=q7;exact⟨x7,σ7,H7,H8,I7.unpinned,r7,x8,q7⟩
end
abbrev R2:=V->V->Hp->VK->Prop
def OpR(X:Cx)(f:a9->a9->lY a9)(r:R2):Prop :=
 ∀(pins:k92) (s:ae) (σ:St) (H:Hp) (x y:V) (v u:a9) (Q:VK),Inv X pins σ H s->RelV x v->RelV y u->r x y H Q ->
  ao (ax X.prog X.w) X.A (f v u) (EP X pins σ Q) X.xe s
def UnR(X:Cx)(f:a9->lY a9)(r:V->Hp->VK->Prop):Prop :=
 ∀(pins:k92) (s:ae) (σ:St) (H:Hp) (x:V) (v:a9) (Q:VK),Inv X pins σ H s->RelV x v->r x H Q ->
  ao (ax X.prog X.w) X.A (f v) (EP X pins σ Q) X.xe s
def Ja(X:Cx)(f:a9)(r:List V->Hp->VK->Prop):Prop :=
 ∀(pins:k92) (s:ae) (σ:St) (H:Hp) (xs:List V) (us:List a9) (Q:VK),Inv X pins σ H s->Vals xs us->r xs H Q ->
  ao (ax X.prog X.w) X.A (call f us) (EP X pins σ Q) X.xe s
def tOp(r:R2)(ta tb:TE):TE:=λσ H Q=>ta σ H λx H1=>tb σ H1 λy H2=>r x y H2 Q
def tUn(r:V->Hp->VK->Prop)(ta:TE):TE:=λσ H Q=>ta σ H λx H1=>r x H1 Q
def rI(C:Int->Int->Prop)(g:Int->Int->V):R2:=λx y H Q=>∃i j,x=.int i/\y=.int j/\C i j/\Q (g i j) H
def rI0(g:Int->Int->V):R2:=λx y H Q=>∃i j,x=.int i/\y=.int j/\Q (g i j) H
def rU(g:Int->V):V->Hp->VK->Prop:=λx H Q=>∃i,x=.int i/\Q (g i) H
section
variable{X:Cx}{a b c:ai}{ta tb tc:TE}{pos:aJ}
theorem j8t(ha:PE X a ta)(hb:PE X b tb){pins:k92}{s:ae}{σ:St}{H:Hp}{R:V->V->Hp->Prop}(I:Inv X pins σ H s)
  (h:ta σ H λx H1=>tb σ H1 λy H2=>R x y H2) {Q:k91} {f:a9->a9->lY a9}
  (hf:∀v u s2 x y H2,Inv X pins σ H2 s2->RelV x v->RelV y u->R x y H2->ao (ax X.prog X.w) X.A (f v u) Q X.xe s2) :
  ao (ax X.prog X.w) X.A (ay a X.env) (λv s₁=>ao (ax X.prog X.w) X.A (ay b X.env) (λu s₂=>ao (ax X.prog X.w) X.A (f v u) Q X.xe s₂) X.xe s₁) X.xe s:=by
 refine thn (ha pins s σ H _ I h) λv s1 ⟨x,H1,I1,r1,q1⟩=>?_;refine thn (hb pins s1 σ H1 _ I1 q1) λu s2 ⟨y,H2,I2,r2,q2⟩=>?_;exact hf v u s2 x y H2 I2 r1 r2 q2
theorem Yq{op:jS}{r:R2}(ho:OpR X (b0 op) r)(ha:PE X a ta)(hb:PE X b tb):PE X (.BinOp a op b pos) (tOp r ta tb):=by intro pins s σ H Q I h;exact wpAny_BinOp (j8t ha hb I h λv u s2 x y H2 I2 rx ry q=>ho pins s2 σ H2 x y v u Q I2 rx ry q)
theorem jhw{op:UnaryOp}{r:V->Hp->VK->Prop}(ho:UnR X (unaryOp op) r)(ha:PE X a ta):PE X (.UnaryOp op a pos) (tUn r ta):=by intro pins s σ H Q I h;exact UnaryOp_ (thn (ha pins s σ H _ I h) λv s1 ⟨x,H1,I1,r1,q1⟩=>ho pins s1 σ H1 x v Q I1 r1 q1)
theorem opI{f:a9->a9->lY a9}{C:Int->Int->Prop}{g:Int->Int->Int}
  (l6:∀(i j:Int)(t u:gH)(s:ae)(Q:k91)(E:k91),C i j->Q (.int (g i j) s.toks) { s with toks:=s.toks+1 }->ao (ax X.prog X.w) X.A (f (.int i t) (.int j u)) Q E s) :
  OpR X f (rI C λi j=>.int (g i j)):=by
 intro pins s σ H x y v u Q I rx ry h;obtain⟨i,j,rfl,rfl,hc,q⟩:=h;obtain⟨t,rfl⟩:=rx;obtain⟨t',rfl⟩:=ry;exact l6 i j t t' s _ _ hc ⟨.int (g i j),H,I.tok _,⟨_,rfl⟩,q⟩
theorem j38{f:a9->a9->lY a9}{g:Int->Int->Int}
  (l6:∀(i j:Int)(t u:gH)(s:ae)(Q:k91)(E:k91),Q (.int (g i j) s.toks) { s with toks:=s.toks+1 }->ao (ax X.prog X.w) X.A (f (.int i t) (.int j u)) Q E s) :
  OpR X f (rI0 λi j=>.int (g i j)):=by
 intro pins s σ H x y v u Q I rx ry h;obtain⟨i,j,rfl,rfl,q⟩:=h;obtain⟨t,rfl⟩:=rx;obtain⟨t',rfl⟩:=ry;exact l6 i j t t' s _ _ ⟨.int (g i j),H,I.tok _,⟨_,rfl⟩,q⟩
theorem j39{f:a9->a9->lY a9}{g:Int->Int->Bool}
  (l6:∀(i j:Int)(t u:gH)(s:ae)(Q:k91)(E:k91),Q (.bool (g i j)) s->ao (ax X.prog X.w) X.A (f (.int i t) (.int j u)) Q E s) :
  OpR X f (rI0 λi j=>.bl (g i j)):=by
 intro pins s σ H x y v u Q I rx ry h;obtain⟨i,j,rfl,rfl,q⟩:=h;obtain⟨t,rfl⟩:=rx;obtain⟨t',rfl⟩:=ry;exact l6 i j t t' s _ _ ⟨.bl (g i j),H,I,rfl,q⟩
def j3z(i j:Int):Prop:=0<=j/\j<=1000000/\i.natAbs<2^64
def j40(i j:Int):Prop:=(-(2^64)<i/\i<2^64)\/(-(2^64)<j/\j<2^64)
theorem j40.ok{i j:Int}(h:j40 i j):IntMulOk i j:=by
 rcases h with ⟨h1,h2⟩|⟨h1,h2⟩
 .exact .of_left (m9 h1 h2)
 .exact .of_right (m9 h1 h2)
theorem j2o(k:Nat):(0:Int)<=2^k:=by rw[two_pow_cast];exact Int.natCast_nonneg _
theorem jee:OpR X (b0 .Add) (rI0 λi j=>.int (i+j)):=j38 λ_ _ _ _ _ _ _ q=>add_int q
theorem je6:OpR X (b0 .Sub) (rI0 λi j=>.int (i-j)):=j38 λ_ _ _ _ _ _ _ q=>sub_int q
theorem jeb:OpR X (b0 .Mult) (rI j40 λi j=>.int (i*j)):=opI λ_ _ _ _ _ _ _ hc q=>mul_int q hc.ok
theorem jec:OpR X (b0 .Mod) (rI (λ_ j=>0<j) λi j=>.int (i%j)):=opI λi j _ _ _ _ _ hc q=>by have h1:(0:Int)<j:=hc;exact mod_int' nofun (by rw[Int.fmod_eq_emod_of_nonneg i nofun];exact q)
theorem jea:OpR X (b0 .Pow) (rI j3z λi j=>.int (i^j.toNat)):=opI λ_ _ _ _ _ _ _ hc q=>pow_int_small hc.1 hc.2.1 hc.2.2 q
theorem je8:OpR X (b0 .LShift) (rI j3z λi j=>.int (i*2^j.toNat)):=opI λ_ _ _ _ _ _ _ hc q=>lshift_int_small hc.1 hc.2.1 hc.2.2 q
theorem je7:OpR X (b0 .RShift) (rI (λ_ j=>0<=j) λi j=>.int (i/2^j.toNat)):=opI λi j _ _ _ _ _ hc q =>rshift_int hc (by rw[gk i (j2o _)];exact q)
theorem jed:OpR X (b0 .BitAnd) (rI0 λi j=>.int (Builtin.bitAnd i j)):=j38 λ_ _ _ _ _ _ _ q=>and_int q
theorem je5:OpR X (b0 .BitXor) (rI0 λi j=>.int (Builtin.bitXor i j)):=j38 λ_ _ _ _ _ _ _ q=>xor_int q
theorem unI{f:a9->lY a9}{g:Int->Int}
  (l6:∀(i:Int)(t:gH)(s:ae)(Q:k91)(E:k91),Q (.int (g i) s.toks) { s with toks:=s.toks+1 }->ao (ax X.prog X.w) X.A (f (.int i t)) Q E s) :
  UnR X f (rU λi=>.int (g i)):=by
 intro pins s σ H x v Q I rx h;obtain⟨i,rfl,q⟩:=h;obtain⟨t,rfl⟩:=rx;exact l6 i t s _ _ ⟨.int (g i),H,I.tok _,⟨_,rfl⟩,q⟩
theorem jcw:UnR X (unaryOp .USub) (rU λi=>.int (-i)):=unI λ_ _ _ _ _ q=>neg_int q
end
noncomputable def Ny:V->V->Bool
 |.non,.non=>a5|.non,.int _=>a5|.int _,.non=>a5|.non,.bl _=>a5|.bl _,.non=>a5|.non,.str _=>a5|.str _,.non=>a5
 |.int _,.int _=>a5|.bl _,.bl _=>a5|.str _,.str _=>a5|.byt _,.byt _=>a5
 |.int _,.str _=>a5|.str _,.int _=>a5|.bl _,.str _=>a5|.str _,.bl _=>a5
 |_,_=>a4
def rEq:R2:=λx y H Q=>Ny x y=a5/\Q (.bl (decide (x=y))) H
def rNe:R2:=λx y H Q=>Ny x y=a5/\Q (.bl (!decide (x=y))) H
theorem j27{i j:Int}:decide (V.int i=V.int j)=(i==j):=by rw[dB];simp
theorem j5t{i j:Bool}:decide (V.bl i=V.bl j)=(i==j):=by rw[dB];simp
theorem j26{i j:af}:decide (V.str i=V.str j)=(i==j):=by rw[dB];simp
theorem j28{i j:Array UInt8}:decide (V.byt i=V.byt j)=(i.toList==j.toList):=by rw[dB];cases i;cases j;simp
section
variable{X:Cx}{a b c:ai}{ta tb tc:TE}{pos:aJ}
theorem jr{pins:k92}{σ:St}{H:Hp}{s:ae}{Q:VK}{k k':Bool}(I:Inv X pins σ H s)(q:Q (.bl k) H)(e:k=k'):EP X pins σ Q (.bool k') s:=by subst e;exact⟨.bl k,H,I,rfl,q⟩
theorem j9i:OpR X (aP .Eq) rEq:=by
 intro pins s σ H x y v u Q I rx ry h;obtain⟨hs,q⟩:=h;cases x with
 |non =>
  cases rx;cases y with
  |non=>cases ry;exact lF (jr I q (by simp))
  |bl j=>cases ry;exact lH (jr I q (by simp))
  |int j=>obtain⟨t',rfl⟩:=ry;exact lG (jr I q (by simp))
  |str j=>obtain⟨t',rfl⟩:=ry;exact lE (jr I q (by simp))
  |_=>exact absurd (show a4=a5 from hs) xg
 |bl i =>
  cases rx;cases y with
  |non=>cases ry;exact lJ (jr I q (by simp))
  |bl j=>cases ry;exact eq_bool (jr I q j5t)
  |str j=>obtain⟨t',rfl⟩:=ry;exact kU (jr I q (by simp))
  |_=>exact absurd (show a4=a5 from hs) xg
 |int i =>
  obtain⟨t,rfl⟩:=rx;cases y with
  |non=>cases ry;exact lI (jr I q (by simp))
  |int j=>obtain⟨t',rfl⟩:=ry;exact eq_int (jr I q j27)
  |str j=>obtain⟨t',rfl⟩:=ry;exact kT (jr I q (by simp))
  |_=>exact absurd (show a4=a5 from hs) xg
 |str i =>
  obtain⟨t,rfl⟩:=rx;cases y with
  |non=>cases ry;exact lD (jr I q (by simp))
  |bl j=>cases ry;exact kS (jr I q (by simp))
  |int j=>obtain⟨t',rfl⟩:=ry;exact kR (jr I q (by simp))
  |str j=>obtain⟨t',rfl⟩:=ry;exact eq_str (jr I q j26)
  |_=>exact absurd (show a4=a5 from hs) xg
 |byt i =>
  obtain⟨t,rfl⟩:=rx;cases y with
  |byt j=>obtain⟨t',rfl⟩:=ry;exact W.eq_bytes (jr I q j28)
  |_=>exact absurd (show a4=a5 from hs) xg
 |_=>cases y<;>exact absurd (show a4=a5 from hs) xg
theorem j9e:OpR X (aP .NotEq) rNe:=by
 intro pins s σ H x y v u Q I rx ry h;obtain⟨hs,q⟩:=h;cases x with
 |non =>
  cases rx;cases y with
  |non=>cases ry;exact lr (jr I q (by simp))
  |bl j=>cases ry;exact lA (jr I q (by simp))
  |int j=>obtain⟨t',rfl⟩:=ry;exact lz (jr I q (by simp))
  |str j=>obtain⟨t',rfl⟩:=ry;exact lq (jr I q (by simp))
  |_=>exact absurd (show a4=a5 from hs) xg
 |bl i =>
  cases rx;cases y with
  |non=>cases ry;exact lC (jr I q (by simp))
  |bl j=>cases ry;exact ne_bool (jr I q (congrArg not j5t))
  |str j=>obtain⟨t',rfl⟩:=ry;exact kQ (jr I q (by simp))
  |_=>exact absurd (show a4=a5 from hs) xg
 |int i =>
  obtain⟨t,rfl⟩:=rx;cases y with
  |non=>cases ry;exact lB (jr I q (by simp))
  |int j=>obtain⟨t',rfl⟩:=ry;exact ne_int (jr I q (congrArg not j27))
  |str j=>obtain⟨t',rfl⟩:=ry;exact kP (jr I q (by simp))
  |_=>exact absurd (show a4=a5 from hs) xg
 |str i =>
  obtain⟨t,rfl⟩:=rx;cases y with
  |non=>cases ry;exact lp (jr I q (by simp))
  |bl j=>cases ry;exact kO (jr I q (by simp))
  |int j=>obtain⟨t',rfl⟩:=ry;exact kN (jr I q (by simp))
  |str j=>obtain⟨t',rfl⟩:=ry;exact ne_str (jr I q (congrArg not j26))
  |_=>exact absurd (show a4=a5 from hs) xg
 |byt i =>
  obtain⟨t,rfl⟩:=rx;cases y with
  |byt j=>obtain⟨t',rfl⟩:=ry;exact W.ne_bytes (jr I q (congrArg not j28))
  |_=>exact absurd (show a4=a5 from hs) xg
 |_=>cases y<;>exact absurd (show a4=a5 from hs) xg
theorem Ka:OpR X (aP .Lt) (rI0 λi j=>.bl (decide (i<j))):=j39 λ_ _ _ _ _ _ _ q=>lt_int q
theorem j9f:OpR X (aP .LtE) (rI0 λi j=>.bl (decide (i<=j))):=j39 λ_ _ _ _ _ _ _ q=>le_int q
theorem j9g:OpR X (aP .Gt) (rI0 λi j=>.bl (decide (j<i))):=j39 λ_ _ _ _ _ _ _ q=>gt_int q
theorem j9h:OpR X (aP .GtE) (rI0 λi j=>.bl (decide (j<=i))):=j39 λ_ _ _ _ _ _ _ q=>ge_int q
theorem Cd:OpR X (aP .Lt) (λx y H Q=>∃i j,x=.str i/\y=.str j/\Q (.bl (decide (i.cps.toList<j.cps.toList))) H):=by intro pins s σ H x y v u Q I rx ry h;obtain⟨i,j,rfl,rfl,q⟩:=h;obtain⟨t,rfl⟩:=rx;obtain⟨t',rfl⟩:=ry;exact lt_str (jr I q rfl)
theorem Ce:OpR X (aP .In) (λx y H Q=>∃i j,x=.str i/\y=.str j/\Q (.bl (!(fi j i 0 j.length 1).isEmpty)) H):=by intro pins s σ H x y v u Q I rx ry h;obtain⟨i,j,rfl,rfl,q⟩:=h;obtain⟨t,rfl⟩:=rx;obtain⟨t',rfl⟩:=ry;exact in_str (jr I q rfl)
theorem j1p:OpR X (aP .IsNot) (λx y H Q=>y=.non/\Q (.bl (!decide (x=.non))) H):=by
 intro pins s σ H x y v u Q I rx ry h;obtain⟨rfl,q⟩:=h;cases ry;refine isnot_none_gen (jr I q ?_);cases x<;>first
  |(cases rx;rfl)
  |(obtain⟨t,rfl⟩:=rx;rfl)
theorem zc(b:ai){op:jU}(h:op≠.In:=by decide)(h2:op≠.NotIn:=by decide):aO op b=a4:=by
 have e1:(op==CmpOp.In)=a4:=by cases op<;>first|rfl|exact absurd rfl h
 have e2:(op==CmpOp.NotIn)=a4:=by cases op<;>first|rfl|exact absurd rfl h2
 cases b<;>simp[aO,e1,e2]
theorem Je{op:jU}{r:R2}(ho:OpR X (aP op) r)(ha:PE X a ta)(hb:PE X b tb)(hm:aO op b=a4):PE X (.Compare a [op] [b] pos) (tOp r ta tb):=by intro pins s σ H Q I h;exact wpAny_Compare1 (j8t ha hb I h λv u s2 x y H2 I2 rx ry q=>ho pins s2 σ H2 x y v u Q I2 rx ry q) hm
def jhc(t:TE):TT:=λσ H Q=>t σ H λx H'=>∃k,x=.bl k/\Q k H'
theorem Jd{op:jU}{r:R2}(ho:OpR X (aP op) r)(ha:PE X a ta)(hb:PE X b tb)(hm:aO op b=a4):PT X (.Compare a [op] [b] pos) (jhc (tOp r ta tb)):=by
 intro pins s σ H Q I h;refine wpAny_isTrue_Compare1 (thn (ha pins s σ H _ I h) λv s1 ⟨x,H1,I1,r1,q1⟩=>thn (hb pins s1 σ H1 _ I1 q1) λu s2 ⟨y,H2,I2,r2,q2⟩ =>
  thn (ho pins s2 σ H2 x y v u _ I2 r1 r2 q2) λc s3 ⟨z,H3,I3,r3,k,e,q3⟩=>?_) hm
 subst e;cases r3;exact bh ⟨H3,I3,q3⟩
def jd2(r r':R2)(ta tb tc:TE):TE:=λσ H Q=>ta σ H λx H1=>tb σ H1 λy H2=>r x y H2 λz H3=>∃k,z=.bl k /\
 (if k=a5 then tc σ H3 λw' H4=>r' y w' H4 Q else Q (.bl a4) H3)
theorem j7g{op op':jU}{r r':R2}(ho:OpR X (aP op) r)(ho':OpR X (aP op') r')(ha:PE X a ta)(hb:PE X b tb)(hc:PE X c tc)
  (hm:l7 [op,op'] [b,c]=a4:=by with_unfolding_all rfl):PE X (.Compare a [op,op'] [b,c] pos) (jd2 r r' ta tb tc):=by
 intro pins s σ H Q I h;refine Compare_chain (thn (ha pins s σ H _ I h) λv s1 ⟨x,H1,I1,r1,q1⟩=>chain_link (thn (hb pins s1 σ H1 _ I1 q1) λu s2 ⟨y,H2,I2,r2,q2⟩ =>
  thn (ho pins s2 σ H2 x y v u _ I2 r1 r2 q2) λd s3 ⟨z,H3,I3,r3,k,e,q3⟩=>?_)) hm
 subst e;cases r3;refine bh ?_;cases k with
 |false=>exact ite_ff ⟨.bl a4,H3,I3,rfl,q3⟩
 |true=>exact ite_tt (chain_last (thn (hc pins s3 σ H3 _ I3 q3) λw' s4 ⟨z',H4,I4,r4,q4⟩=>ho' pins s4 σ H4 y z' u w' Q I4 r2 r4 q4))
theorem U9:(aj:Nat)<2^63:=by rw[dw];decide
theorem j37:OpR X (b0 .Add) (λx y H Q=>∃i j,x=.str i/\y=.str j/\i.length+j.length<=aj/\Q (.str (i++j)) H):=by intro pins s σ H x y v u Q I rx ry h;obtain⟨i,j,rfl,rfl,hz,q⟩:=h;obtain⟨t,rfl⟩:=rx;obtain⟨t',rfl⟩:=ry;exact add_str (λt' tk=>⟨.str (i++j),H,I.tok _,⟨_,rfl⟩,q⟩) hz
theorem vals1{x:V}{us:List a9}(r:Vals [x] us):∃u,us=[u]/\RelV x u:=by
 cases r with
 |cons r1 r2=>cases r2;exact⟨_,rfl,r1⟩
theorem vals2{x y:V}{us:List a9}(r:Vals [x,y] us):∃u w',us=[u,w']/\RelV x u/\RelV y w':=by
 cases r with
 |cons r1 r2 =>
  cases r2 with
  |cons r3 r4=>cases r4;exact⟨_,_,rfl,r1,r3⟩
theorem j69 (hc:X.calm=a5):Ja X (.builtin "max") (λxs H Q=>∃i j,xs=[.int i,.int j]/\Q (.int (if j>i then j else i)) H):=by
 intro pins s σ H xs us Q I r h;obtain⟨i,j,rfl,q⟩:=h;obtain⟨u,w',rfl,⟨t,rfl⟩,⟨t',rfl⟩⟩:=vals2 r;refine max_two_ints (I.ok.hd hc) λh' tk k=>⟨_,H,I.kept k,?_,q⟩
 by_cases hj:j>i
 .rw[if_pos hj,if_pos hj];exact⟨_,rfl⟩
 .rw[if_neg hj,if_neg hj];exact⟨_,rfl⟩
theorem j67 (hc:X.calm=a5):Ja X (.builtin "min") (λxs H Q=>∃i j,xs=[.int i,.int j]/\Q (.int (if j<i then j else i)) H):=by
 intro pins s σ H xs us Q I r h;obtain⟨i,j,rfl,q⟩:=h;obtain⟨u,w',rfl,⟨t,rfl⟩,⟨t',rfl⟩⟩:=vals2 r;refine min_two_ints (I.ok.hd hc) λh' tk k=>⟨_,H,I.kept k,?_,q⟩
 by_cases hj:j<i
 .rw[if_pos hj,if_pos hj];exact⟨_,rfl⟩
 .rw[if_neg hj,if_neg hj];exact⟨_,rfl⟩
theorem j6c:Ja X (.type "int") (λxs H Q=>(∃i,xs=[.int i]/\Q (.int i) H)\/∃k,xs=[.bl k]/\Q (.int (if k then 1 else 0)) H):=by
 intro pins s σ H xs us Q I r h;rcases h with ⟨i,rfl,q⟩|⟨k,rfl,q⟩
 .obtain⟨u,rfl,t,rfl⟩:=vals1 r;exact call_int_int ⟨.int i,H,I,⟨_,rfl⟩,q⟩
 .obtain⟨u,rfl,r1⟩:=vals1 r;cases r1;exact call_int_bool ⟨.int (if k then 1 else 0),H,I.tok _,⟨_,rfl⟩,q⟩
end
structure ObjM(h:aD)(x dx C:aa)(mA:k93):Prop where
 obj:h.get? x=a3 (W.instObj C dx)
 ns:h.Ns1 dx mA
 ne:dx≠x
section
variable{prog:au}{w:aA}{A:aB}{E:k91}{s:ae}{K:k90}{x dx C f:aa}{mA:k93}{name:af}{v:a9}
end
noncomputable def j7a(f:af)(v:V):List (af×V)->List (af×V)
 |[]=>[(f,v)]
 |(g,x)::r=>if g=f then(g,v)::r else(g,x)::j7a f v r
section
variable{P:au}{w:aA}{H H':Hp}{h h':aD}{a C dx:aa}{fs fs':List (af×V)}
end
structure Cls(K:k90)(C:aa):Prop where
 pg:W.plainGet K C fA=a5
 hd:W.hasDictIn K C=a5
 po:W.plainOver K C=a5
 sa:W.findIn K (.ref C) "__setattr__" = a3 (a3 (.builtin "object.__setattr__"))
structure Con(K:k90)(C:aa)(f:af)(v:V)(u:a9):Prop where
 at_:W.findIn K (.ref C) f=a3 (a3 u)
 rel:RelV v u
 get:W.specialIn K u "__get__" = a3 a6
 cp:W.copiedNames.contains f=a4
structure Meth(K:k90)(C:aa)(m:af)(f:aa):Prop where
 at_:W.findIn K (.ref C) m=a3 (a3 (.ref f))
 fn:W.isFn K (.ref f)=a5
 kp:W.keepIn K (.ref f)=a5
section
variable{X:Cx}{pins:k92}{σ:St}{H:Hp}{s:ae}{a C dx:aa}{fs:List (af×V)}{f:af}{v:V}{A:aB}{E:k91}
end
section
variable{X:Cx}{o e value:ai}{f:af}{pos pos' tpos:aJ}{ta tv:TE}
end
section
variable{X:Cx}{pins:k92}{σ:St}{H:Hp}{s:ae}{A:aB}{E:k91}{Q:k91}{c:a9}{b:Bool}
inductive TyOf(K:k90)(H:Hp):V->a9->Prop where
 |non:TyOf K H .non (.type "NoneType")
 |bl (x:Bool):TyOf K H (.bl x) (.type "bool")
 |int (i:Int):TyOf K H (.int i) (.type "int")
 |str (x:af):TyOf K H (.str x) (.type "str")
 |flt (x:UInt64):TyOf K H (.flt x) (.type "float")
 |lst {a:aa} {xs:List V} (e:H a=a3 (.lst xs)):TyOf K H (.ref a) (.type "list")
 |frz {a:aa} {o:cC} {xs:List V} (e:H a=a3 (.frz o (.lst xs))):TyOf K H (.ref a) (.type "list")
 |tup {a:aa} {xs:List V} (e:H a=a3 (.tup xs)):TyOf K H (.ref a) (.type "tuple")
 |dK {a:aa} {kvs:List (Key×V)} (e:H a=a3 (.dK kvs)):TyOf K H (.ref a) (.type "dict")
 |dT {a:aa} {kvs:List (List Key×V)} (e:H a=a3 (.dT kvs)):TyOf K H (.ref a) (.type "dict")
 |ins {a C dx:aa} {fs:List (af×V)} (e:H a=a3 (.ins C dx fs)) (cl:Cls K C) (ha:W.findIn K (.ref C) "__class__" = a3 (a3 (.builtin "object.__class__")))
   (hn:W.specialIn K (.builtin "object.__class__") "__get__" = a3 (a3 (.builtin "getset_descriptor.__get__"))) (htk:W.takesIn K (.builtin "object.__class__")=a3 a5)
   (hm:W.mroIn K C (.type "object")=a3 a5):TyOf K H (.ref a) (.ref C)
end
structure Room(k:Nat)(A:aB):Prop where
 hd:A.handled=a6
 dp:A.depth+3*k+5<bx
 un:A.units+16*k+200<aI
theorem Room.mono{j k:Nat}{A:aB}(r:Room k A)(h:j<=k):Room j A:=⟨r.hd,by have:=r.dp;omega,by have:=r.un;omega⟩
theorem Room.deeper{k:Nat}{A:aB}(r:Room (k+1) A)(env:dj):Room k (A.deeper env) :=
 ⟨r.hd,by have:=r.dp;show A.depth+1+3*k+5<_;omega,by have:=r.un;show A.units+3+16*k+200<_;omega⟩
theorem Room.depth{k:Nat}{A:aB}(r:Room k A):A.depth<bx:=by have:=r.dp;omega
def jjm:TA:=λ_ H Q=>Q [] H
def j9a(ta:TE)(tr:TA):TA:=λσ H Q=>ta σ H λx H1=>tr σ H1 λxs H2=>Q (x::xs) H2
section
variable{X:Cx}{e:ai}{es:List ai}{te:TE}{t:TA}{pos:aJ}
theorem jo:PA X [] jjm:=λ_ _ _ _ H Q I h=>iJ ⟨[],H,I,.nil,h⟩
theorem jb(ha:PE X e te)(hr:PA X es t)(hs:a7 (e::es) X.env=(a4,ay e X.env)::a7 es X.env:=by rfl):PA X (e::es) (j9a te t):=by intro pos pins s σ H Q I h;rw[hs];show ao _ _ (kE ((a4,ay e X.env)::aK pos (a7 es X.env))) _ _ s;refine iy (thn (ha pins s σ H _ I h) λu s1 ⟨x,H1,I1,r1,q1⟩=>?_);exact thn (hr pos pins s1 σ H1 _ I1 q1) λus s2 ⟨xs,H2,I2,r2,q2⟩=>⟨x::xs,H2,I2,.cons r1 r2,q2⟩
def jji(t:TA):TE:=λσ H Q=>t σ H λxs H1=>xs.length<=aj/\∀p,H1 p=a6->Q (.ref p) (upd H1 p (.tup xs))
def jjn(t:TA):TE:=λσ H Q=>t σ H λxs H1=>xs.length<=aj/\∀p,H1 p=a6->Q (.ref p) (upd H1 p (.lst xs))
theorem j4s{x1}(h:PA X es t):PE X (.Tuple es x1 pos) (jji t):=by intro pins s σ H Q I hq;refine wpAny_Tuple_spliced (thn (h pos pins s σ H _ I hq) λus s1 ⟨xs,H1,I1,r,z,q⟩=>⟨by rw[<-r.length];exact z,?_⟩);have hf:H1 s1.heap.objs.size=a6:=I1.hok.fresh (X5 _);refine⟨.ref s1.heap.objs.size,upd H1 s1.heap.objs.size (.tup xs),I1.laid (t':=s1.toks) (λb u e=>xj _ e) (X5 _) ?_,rfl,q _ hf⟩;exact⟨z,us,r,⟨_,X6 _ rfl,rfl,_,rfl⟩,Zf.new _ _⟩
theorem je0(h:PA X es t):PE X (.List es pos) (jjn t):=by intro pins s σ H Q I hq;refine wpAny_List_spliced (thn (h pos pins s σ H _ I hq) λus s1 ⟨xs,H1,I1,r,z,q⟩=>⟨by rw[<-r.length];exact z,?_⟩);have hf:H1 s1.heap.objs.size=a6:=I1.hok.fresh (X5 _);refine⟨.ref s1.heap.objs.size,upd H1 s1.heap.objs.size (.lst xs),I1.laid (t':=s1.toks) (λb u e=>xj _ e) (X5 _) ?_,rfl,q _ hf⟩;exact⟨z,us,0,r,X6 _ rfl⟩
end
abbrev Sp:=List V->Hp->VK->XK->Prop
abbrev CXT:=List dj->Hp->ae->XK->a9->ae->Prop
structure Env0(P:au)(w:aA)(K:k90)(mg:k93)(base:aD)(A:aB)(outer:List dj)(s:ae)(H:Hp):Prop where
 frames:A.frames=a3 outer
 mod:Mod K mg base
 bs:∀b o,base.get? b=a3 o->s.heap.get? b=a3 o/\H b=a6
 bsz:base.objs.size<=s.heap.objs.size
 funs:s.heap.FunFrames base outer
 frf:∀b∈frs outer,H b=a6
 hok:HOk P w H s.heap
 bare:dy s.gens
def CE(outer:List dj)(P:au)(w:aA)(H:Hp)(s:ae)(Q:VK)(u:a9)(s':ae):Prop :=
 ∃v H',s'.os=s.os/\dy s'.gens/\Un (frs outer) [] H H' s.heap s'.heap/\HOk P w H' s'.heap/\RelV v u/\Q v H'
def CR(CX:CXT)(outer:List dj)(P:au)(w:aA)(H:Hp)(s:ae)(Q:VK)(E:XK)(r:eV)(s':ae):Prop :=
 match r with
 |.ok (.ret u)=>CE outer P w H s Q u s'
 |.ok _=>False
 |.error e=>CX outer H s E e s'
structure FnOk(P:au)(w:aA)(K:k90)(mg:k93)(base:aD)(CX:CXT)(k:Nat)(f:aa)(fd:aN)(ps:List af)(sp:Sp):Prop where
 len:∀vs H Q E,sp vs H Q E->vs.length=ps.length
 run:∀(A:aB)(outer:List dj)(s:ae)(H:Hp)(args:Args)(us:List a9)(vs:List V) (Q:VK) (E:XK),Room k A->Env0 P w K mg base A outer s H->fV s fd args (ps.zip us)->Vals vs us->sp vs H Q E ->
  cg (ax P w) A (.call (.ref f) args) (CR CX outer P w H s Q E) s
theorem FnOk.imp{P:au}{w:aA}{K:k90}{mg:k93}{base:aD}{CX:CXT}{k:Nat}{f:aa}{fd:aN}{ps:List af}{sp sp':Sp}(F:FnOk P w K mg base CX k f fd ps sp)
  (h:∀vs H Q E,sp' vs H Q E->sp vs H Q E):FnOk P w K mg base CX k f fd ps sp' :=
 ⟨λvs H Q E q=>F.len vs H Q E (h _ _ _ _ q),λA outer s H args us vs Q E hr he hb hv hs=>F.run A outer s H args us vs Q E hr he hb hv (h _ _ _ _ hs)⟩
section
variable{X:Cx}{pins:k92}{σ:St}{H:Hp}{s s':ae}
theorem Inv.env0(I:Inv X pins σ H s):Env0 X.prog X.w X.K X.mg X.base X.A X.stack s H :=
 ⟨I.ok.frames,I.ok.mod,I.bs,Xk I.ok.bsz I.sz,I.stack,I.stkFree,I.hok,I.bare⟩
theorem Inv.after{Q:VK}{u:a9}(I:Inv X pins σ H s)(h:CE X.stack X.prog X.w H s Q u s'):EP X pins σ Q u s':=by obtain⟨v,H',os,bare,un,hok,r,q⟩:=h;obtain⟨hh,g,d,t,os'⟩:=s';obtain rfl:os'=s.os:=os;exact⟨v,H',I.call (h':=hh) (g':=g) (d':=d) (t':=t) (ch:=[]) un hok bare (λb z=>absurd z (by simp)),r,q⟩
end
def jhh(sp:Sp)(dvs:List V)(E:XK)(t:TA):TE:=λσ H Q=>t σ H λvs H1=>sp (vs++dvs) H1 Q E
def Binds(K:k90)(fd:aN)(ps:List af)(ds:List a9):Prop :=
 ∀(s:ae)(us:List a9),K.In s.heap->(us++ds).length=ps.length->fV s fd ⟨us,[]⟩ (ps.zip (us++ds))
theorem Binds.all{K:k90}{fd:aN}{ps:List af}(h:∀us:List a9,us.length=ps.length->dE fd ⟨us,[]⟩=pure (ps.zip us)):Binds K fd ps []:=λs us _ hl=>by rw[Xv]at hl ⊢;exact .of_eq (h us hl)
def j0r(CX:CXT)(X:Cx)(E:XK):Prop:=∀(pins:k92) (σ:St) (H:Hp) (s:ae) (e:a9) (s':ae),Inv X pins σ H s->CX X.stack H s E e s'->X.xe e s'
section
variable{X:Cx}{CX:CXT}{k:Nat}{f C:aa}{fd:aN}{ps:List af}{sp:Sp}{dvs:List V}{ds:List a9}{E:XK}{x m:af}{p pos apos:aJ}{e o:ai}{es:List ai}{ta:TE}{t:TA}
theorem jdh{pins:k92}{σ:St}{H:Hp}{s:ae}{Q:VK}{us:List a9}{vs:List V}(F:FnOk X.prog X.w X.K X.mg X.base CX k f fd ps sp)(hr:Room k X.A)(hb:Binds X.K fd ps ds)(hd:Vals dvs ds)(hx:j0r CX X E)
  (I:Inv X pins σ H s) (r:Vals vs us) (h:sp (vs++dvs) H Q E):ao (ax X.prog X.w) X.A (call (.ref f) us) (EP X pins σ Q) X.xe s:=by
 have r2:Vals (vs++dvs) (us++ds):=r.append hd;have hl:(us++ds).length=ps.length:=by rw[<-r2.length];exact F.len _ _ _ _ h
 refine fE (bD (F.run X.A X.stack s H ⟨us,[]⟩ (us++ds) (vs++dvs) Q E hr I.env0 (hb s us I.kIn hl) r2 h) λr s' hq=>?_);cases r with
 |error e=>exact hx pins σ H s e s' I hq
 |ok fl =>
  cases fl with
  |ret u=>exact I.after hq
  |next=>exact aY hq
  |brk=>exact aY hq
  |cont=>exact aY hq
theorem Ff(F:FnOk X.prog X.w X.K X.mg X.base CX k f fd ps sp)(hr:Room k X.A)(hg:Gl X x)(hm:X.mg x=a3 (.ref f))(hk:W.keepIn X.K (.ref f)=a5)(hb:Binds X.K fd ps ds)(hd:Vals dvs ds)(hx:j0r CX X E)
  (ha:PA X (e::es) t) (hdb:(x==k94)=a4:=by decide) (he:a7 (e::es) X.env=(a4,ay e X.env)::a7 es X.env:=by rfl) (hpl:(aK pos (a7 es X.env)).any (·.1)=a4:=by rfl) :
  PE X (.Call (.Name x p) (e::es) [] pos) (jhh sp dvs E t):=by
 intro pins s σ H Q I h;refine aM (Z4 I hg hm ?_ hdb);refine W.callWith_K (h₀:=X.base) I.ok.mod.kin hk (thn (ha pos pins s σ H _ I h) λus s1 ⟨vs,H1,I1,r,q⟩=>⟨I1.kIn,?_⟩) he hpl;exact jdh F hr hb hd hx I1 r q
structure Mk(K:k90)(C f:aa):Prop where
 makes:W.makesIn K C=a5
 init:W.findIn K (.ref C) "__init__" = a3 (a3 (.ref f))
 fn:W.isFn K (.ref f)=a5
 kp:W.keepIn K (.ref C)=a5
end
def PK(X:Cx)(kws:List aT)(t:TA):Prop :=
 ∀(pos:aJ)(pins:k92) (s:ae) (σ:St) (H:Hp) (Q:List V->Hp->Prop),Inv X pins σ H s->t σ H Q->ao (ax X.prog X.w) X.A (evalAll ((bA pos (aX kws X.env)).map (·.2))) (AP X pins σ Q) X.xe s
section
variable{X:Cx}{CX:CXT}{k:Nat}{f C:aa}{fd:aN}{ps ks:List af}{sp:Sp}{E:XK}{x m:af}{p pos apos kpos:aJ}{e o:ai}{es:List ai}{kws:List aT}{te ta:TE}{t tk:TA}{nm:Option af}
theorem U8(ha:PE X e te)(hr:PK X kws t):PK X (⟨nm,e,kpos⟩::kws) (j9a te t):=by intro pos pins s σ H Q I h;show ao _ _ (evalAll ((do let v <-ay e X.env;kD pos;pure v)::(bA pos (aX kws X.env)).map (·.2))) _ _ s;refine wpAny_evalAll_cons (a8 (thn (ha pins s σ H _ I h) λu s1 ⟨x,H1,I1,r1,q1⟩=>a8 (iz (ah ?_))));exact thn (hr pos pins s1 σ H1 _ I1 q1) λus s2 ⟨xs,H2,I2,r2,q2⟩=>⟨x::xs,H2,I2,.cons r1 r2,q2⟩
structure KBinds(K:k90)(fd:aN)(ps ks:List af)(g:List a9->List a9->List a9)(gV:List V->List V->List V):Prop where
 to:∀(s:ae)(us ws:List a9),K.In s.heap->(g us ws).length=ps.length->fV s fd ⟨us,ks.zip ws⟩ (ps.zip (g us ws))
 rel:∀{vs:List V}{us:List a9}{zs:List V}{ws:List a9},Vals vs us->Vals zs ws->Vals (gV vs zs) (g us ws)
variable{g:List a9->List a9->List a9}{gV:List V->List V->List V}
end
structure FnScope(N P:List af)(sc:b9):Prop where
 kind:sc.kind=.function
 co:sc.isCoroutine=a4
 gen:sc.isGenerator=a4
 nd:N.Nodup
 pre:N.take P.length=P
 par:∀x∈P,sc.names.lookup x=a3 .local\/sc.names.lookup x=a3 .cell
 nofree:∀y∈sc.names,y.2≠.free
theorem Lg{kindOf:af->Option be}{x:af}:∀{binds:List (af×a9)} {m:k93},(∀v,(x,v)∉binds)->iM kindOf binds m x=m x
 |[],_,_=>rfl
 |(n,v)::r,m,h=>by
  unfold iM;rw[Lg λw hw=>h w (km _ hw)];split
  .have:x≠n:=by rintro rfl;exact h v xm
   simp[this]
  .rfl
theorem Li{kindOf:af->Option be}{x:af}:∀{binds:List (af×a9)} {m:k93},(∀v,(x,v)∉binds)->iN kindOf binds m x=m x
 |[],_,_=>rfl
 |(n,v)::r,m,h=>by
  unfold iN;rw[Li λw hw=>h w (km _ hw)];split
  .rfl
  .have:x≠n:=by rintro rfl;exact h v xm
   simp[this]
theorem Lh{kindOf:af->Option be}{x:af}{v:a9}:∀{P:List af}{vs:List a9}{i:Nat}{m:k93},P.Nodup->P[i]?=a3 x->vs[i]?=a3 v->kindOf x=a3 .local ->
  iM kindOf (P.zip vs) m x=a3 v
 |[],_,_,_,_,h,_,_=>by simp at h
 |_::_,[],_,_,_,_,h,_=>by simp at h
 |p::P,w::vs,0,m,nd,h1,h2,hk=>by simp at h1 h2;subst h1;subst h2;show iM kindOf ((p,w)::P.zip vs) m p=_;unfold iM;rw[Lg λv hv=>(Xo.mp nd).1 (cE hv).1,if_pos hk];simp
 |p::P,w::vs,i+1,m,nd,h1,h2,hk=>by show iM kindOf ((p,w)::P.zip vs) m x=_;unfold iM;exact Lh (i:=i) (Xo.mp nd).2 (by simpa using h1) (by simpa using h2) hk
theorem Lj{kindOf:af->Option be}{x:af}{v:a9}:∀{P:List af}{vs:List a9}{i:Nat}{m:k93},P.Nodup->P[i]?=a3 x->vs[i]?=a3 v->kindOf x≠a3 .local ->
  iN kindOf (P.zip vs) m x=a3 v
 |[],_,_,_,_,h,_,_=>by simp at h
 |_::_,[],_,_,_,_,h,_=>by simp at h
 |p::P,w::vs,0,m,nd,h1,h2,hk=>by simp at h1 h2;subst h1;subst h2;show iN kindOf ((p,w)::P.zip vs) m p=_;unfold iN;rw[Li λv hv=>(Xo.mp nd).1 (cE hv).1,if_neg hk];simp
 |p::P,w::vs,i+1,m,nd,h1,h2,hk=>by show iN kindOf ((p,w)::P.zip vs) m x=_;unfold iN;exact Lj (i:=i) (Xo.mp nd).2 (by simpa using h1) (by simpa using h2) hk
noncomputable def start(N:List af)(vs:List V):St:=vs.map a3++aq (N.length-vs.length) a6
noncomputable def zu(CX:CXT)(P:au)(w:aA)(K:k90)(mg:k93)(base:aD)(N:List af)(qual:af)(scope:b9)(f:aa)(cd:a9)(A:aB)(outer:List dj)(s:ae)(H:Hp)(E:XK):Cx where
 prog:=P
 w:=w
 K:=K
 mg:=mg
 base:=base
 A:=A.deeper (bo qual scope s.heap.objs.size f cd)
 N:=N
 s₀:=s
 H₀:=H
 env:=bo qual scope s.heap.objs.size f cd
 outer:=outer
 stack:=bo qual scope s.heap.objs.size f cd::outer
 ex:=[]
 calm:=a5
 fn:=λ_=>a5
 pn:=[]
 xe:=λe s'=>ao (ax P w) (A.deeper (bo qual scope s.heap.objs.size f cd)) (leaving (bo qual scope s.heap.objs.size f cd) e) (λ_ s''=>CX outer H s E e s'') (λe' s''=>CX outer H s E e' s'') s'
theorem j0l{sc:b9}{n:Nat}{x:af}(h:sc.names.lookup x=a3 .cell):∃c,(aL n sc.names []).lookup x=a3 c:=by have q:=W.cellsFrom_some sc.names n [] (.inl h);exact Xq.mp q
theorem Cq{CX:CXT}{P:au}{w:aA}{K:k90}{mg:k93}{base:aD}{N ps:List af}{qual:af}{scope:b9}{f:aa}{cd:a9}{A:aB}{outer:List dj}{s s1:ae}{H:Hp}{E:XK}{us:List a9}{vs:List V}
  (S:FnScope N ps scope) (cm:Bool) (hd:cm=a5->A.handled=a6) (e0:Env0 P w K mg base A outer s H) (hl:vs.length=ps.length) (r:Vals vs us)
  (x:InCallC s s.heap.objs.size (iM (bo qual scope s.heap.objs.size f cd).kindOf (ps.zip us) λ_=>a6) (aL (s.heap.objs.size+1) scope.names []) (iN (bo qual scope s.heap.objs.size f cd).kindOf (ps.zip us) λ_=>a6) s1) :
  Inv { zu CX P w K mg base N qual scope f cd A outer s H E with calm:=cm } [] (start N vs) H s1:=by
 have hpl:ps.length<=N.length:=by have:=congrArg c7 S.pre;rw[Xi]at this;omega
 obtain⟨h1,tk,rfl,hk⟩:=x.done;have noA:∀b:aa,b∉(zu CX P w K mg base N qual scope f cd A outer s H E).ex:=λb z=>absurd (show b∈([]:List aa)from z) (by simp);refine⟨⟨e0.mod,S.kind,rfl,rfl,X5 _,λy z c h1 h2=>?_,λy hy=>?_,λy c _ h=>?_,hd,Around.frames_deeper e0.frames,.inr ⟨rfl,rfl⟩,λb z=>absurd z (noA b),e0.bs,e0.bsz,λb _ _=>noA b,λb z=>absurd z (noA b),e0.funs,e0.frf⟩,
  rfl,e0.bare,Un.kept hk,⟨_,x.toInCall.ns,λi y v h1 h2 h3=>?_⟩,λy c h=>⟨_,x.cell y c h⟩,e0.hok.fresh (X5 _),λy c h=>?_,λp hp=>absurd (show p∈([]:k92)from hp) (by simp),e0.hok.kept hk,?_⟩
 .exact name_of_addr x.apart (Pk h1) (Pk h2)
 .have hy:scope.names.lookup y=a3 .cell\/scope.names.lookup y=a3 .free:=hy;rcases hy with hy|hy
  .exact j0l hy
  .exact absurd rfl (S.nofree _ (Pk hy))
 .exact cO (x.above y c (Pk h))
 .have hi:i<vs.length:=by
   unfold start at h2;by_cases hi:i<vs.length
   .exact hi
   .rw[cP (by simpa using hi)]at h2;rw[List.getElem?_replicate]at h2;split at h2<;>cases h2
  have ha:vs[i]?=a3 v:=by
   unfold start at h2;rw[Px (by simpa using hi),xx]at h2;cases e:vs[i]? with
   |none=>rw[e]at h2;cases h2
   |some a=>rw[e]at h2;cases h2;rfl
  obtain⟨u,hu,rv⟩:=r.get ha;have hp:ps[i]?=a3 y:=by rw[<-S.pre,List.getElem?_take_of_lt nofun];exact h1
  have ndP:ps.Nodup:=by rw[<-S.pre];exact S.nd.sublist (List.take_sublist _ _)
  refine⟨u,rv,?_⟩;rcases S.par y (Xl hp)with k|k
  .exact .inl ⟨k,Lh ndP hp hu k⟩
  .obtain⟨c,e⟩:=j0l (n:=s.heap.objs.size+1) k;refine .inr ⟨.inl k,c,e,?_⟩;have q:=x.cell y c e;rw[Lj ndP hp hu (by show scope.names.lookup y≠_;rw[k];decide)]at q;exact q
 .exact e0.hok.fresh (cO (x.above y c (Pk h)))
 .unfold start;show _=N.length;rw[Xe,kj,i6];omega
theorem Inv.extOut{X:Cx}{pins:k92}{σ:St}{H H2:Hp}{s:ae}(J:Inv X pins σ H s)(x:Ext X H H2 s):HOk X.prog X.w H2 s.heap/\(X.ex=[]->Un X.fs [] X.H₀ H2 X.s₀.heap s.heap):=by
 have old:∀b o,X.s₀.heap.get? b=a3 o->H2 b=H b:=λb o e=>(x b).elim id λ⟨y,ob,v,hc,hf,_⟩=>absurd (Xc (X4 e) (J.ok.cab y b hf hc)) (pq _);have trk:∀{b:aa}{u:HO},H b=a3 u->H2 b=a3 u:=λ{b u} e=>(x b).elim (λz=>z.trans e) λ⟨y,ob,v,hc,_⟩=>by rw[J.freeC y b hc]at e;cases e
 refine⟨λa o e=>?_,λhx=>?_⟩
 .rcases x a with z|⟨y,ob,v,_,_,e2,e3,_⟩
  .exact(J.hok a o (z▸e)).stay (λ_ _ _ q=>q) (λ_ q=>trk q) (λ_ _ q=>trk q) λ_ _ _ q=>trk q
  .rw[e2]at e;cases e;exact⟨e3,ob,e3⟩
 .have nx:∀b,b∉X.ex:=λb=>by rw[hx];simp
  exact⟨λb o e n hb _=>J.base.keep b o e n hb (nx b),λb o e n hb _=>J.base.slot b o e n hb (nx b),λb o e n _=>(old b o e).trans (J.base.free b o e n (nx b)),λb o e _=>J.base.there b o e (nx b),
   λb xs e=>trk (J.base.tups b xs e),λb o u e=>trk (J.base.frzs b o u e),λb ps e=>let ⟨m,z⟩:=J.base.tbls b ps e;⟨m,trk z⟩⟩
theorem j9p{CX:CXT}{P:au}{w:aA}{K:k90}{mg:k93}{base:aD}{k:Nat}{f:aa}{name qual:af}{params:dH}{body:List aS}{scope:b9}{dV kV doc pm cdv ct oc:a9}{an od:Option aa}
  {osl:Array (Option a9)} {N ps:List af} {sp:Sp} (lk:K.lookup f=a3 ⟨oc,od,.func (W.fnOf name qual params body scope dV kV doc pm an cdv ct),osl⟩) (hcd:W.codeIn K cdv qual=a5) (S:FnScope N ps scope)
  (len:∀vs H Q E,sp vs H Q E->vs.length=ps.length)
  (hbody:∀(A:aB)(outer:List dj)(s:ae)(H:Hp)(vs:List V)(Q:VK)(E:XK),Room k (A.deeper (bo qual scope s.heap.objs.size f cdv))->sp vs H Q E ->
   ∃t,PSs (zu CX P w K mg base N qual scope f cdv A outer s H E) body t/\t { nx:=λ_ H'=>Q .non H',rt:=Q } (start N vs) H) :
  FnOk P w K mg base CX (k+1) f (W.fnOf name qual params body scope dV kV doc pm an cdv ct) ps sp:=by
 refine⟨len,λA outer s H args us vs Q E hr e0 hb r hsp=>?_⟩;have hl:=len _ _ _ _ hsp;have KX:K.In s.heap:=e0.mod.kin.keeps λb o e=>(e0.bs b o e).1;have lim:s.heap.NoLimit:=e0.mod.nolimit.keeps λb o e=>(e0.bs b o e).1;have hkind:∀y∈ps.zip us,scope.names.lookup y.1=a3 .local\/(scope.names.lookup y.1=a3 .cell/\((aL (s.heap.objs.size+1) scope.names []).lookup y.1).isSome=a5):=λ⟨n,v⟩ hy=>by
  rcases S.par n (cE hy).1 with q|q
  .exact .inl q
  .exact .inr ⟨q,W.cellsFrom_some _ _ _ (.inl q)⟩
 refine jI hr.depth (KX _ _ lk) rfl S.co S.gen rfl (W.codeRec_of KX hcd) (hb _ _ _ _ ?_);refine hJ S.kind hkind λenv he s1 x=>?_;subst he;refine⟨lim.keeps x.toInCall.keep,codeAny_func ?_⟩;obtain⟨t,ht,hq⟩:=hbody A outer s H vs Q E (hr.deeper _) hsp;have I:Inv (zu CX P w K mg base N qual scope f cdv A outer s H E) [] (start N vs) H s1:=Cq S a5 (λ_=>hr.hd) e0 hl r x;refine b7 (ht [] s1 (start N vs) H _ I hq) (λfl s' hs=>?_) λe s' hs=>hs;have fin:∀{σ':St}{H':Hp}{v:V}{u:a9},Inv (zu CX P w K mg base N qual scope f cdv A outer s H E) [] σ' H' s'->RelV v u->Q v H'->CE outer P w H s Q u s' :=
  λ{σ' H' v u} J rv q=>⟨v,H',J.os,J.bare,J.base,J.hok,rv,q⟩
 cases fl with
 |ret u =>obtain⟨v,σ',H',H2,J,rv,x,q⟩:=hs;exact⟨v,H2,J.os,J.bare,(J.extOut x).2 rfl,(J.extOut x).1,rv,q⟩
 |next =>obtain⟨σ',H',J,q⟩:=hs;exact fin (v:=V.non) (u:=aR) J rfl q
 |brk =>obtain⟨_,_,_,q⟩:=hs;exact aY q
 |cont =>obtain⟨_,_,_,q⟩:=hs;exact aY q
section
variable{X:Cx}{x:af}{p pos:aJ}{e:ai}{es:List ai}{t:TA}{id T:String}{r:List V->Hp->VK->Prop}
def tCB(r:List V->Hp->VK->Prop)(t:TA):TE:=λσ H Q=>t σ H λvs H1=>r vs H1 Q
theorem zq (hc:Ja X (.builtin id) r) (hg:Gl X x) (hm:X.mg x=a6) (hv:bE x=a3 (.builtin id)) (ha:PA X (e::es) t) (hn:x ≠ "__name__":=by decide) (hdb:(x==k94)=a4:=by decide)
  (he:a7 (e::es) X.env=(a4,ay e X.env)::a7 es X.env:=by rfl) (hpl:(aK pos (a7 es X.env)).any (·.1)=a4:=by rfl):PE X (.Call (.Name x p) (e::es) [] pos) (tCB r t):=by
 intro pins s σ H Q I h;refine aM (Z8 I hg hm hv ?_ hn hdb);exact callWith_builtin1 (thn (ha pos pins s σ H _ I h) λus s1 ⟨vs,H1,I1,r1,q1⟩=>hc pins s1 σ H1 vs us Q I1 r1 q1) he hpl
theorem Wl (hc:Ja X (.type T) r) (hg:Gl X x) (hm:X.mg x=a6) (hv:bE x=a3 (.type T)) (ha:PA X (e::es) t) (hn:x ≠ "__name__":=by decide) (hdb:(x==k94)=a4:=by decide)
  (he:a7 (e::es) X.env=(a4,ay e X.env)::a7 es X.env:=by rfl) (hpl:(aK pos (a7 es X.env)).any (·.1)=a4:=by rfl):PE X (.Call (.Name x p) (e::es) [] pos) (tCB r t):=by
 intro pins s σ H Q I h;refine aM (Z8 I hg hm hv ?_ hn hdb);exact callWith_type1 (thn (ha pos pins s σ H _ I h) λus s1 ⟨vs,H1,I1,r1,q1⟩=>hc pins s1 σ H1 vs us Q I1 r1 q1) he hpl
end
end L2
namespace HT
open PySem PyProof.Rows
noncomputable def lexLt:List Int->List Int->Bool
 |[],[]=>a4
 |[],_::_=>a5
 |_::_,[]=>a4
 |x::xs,y::ys=>if x=y then lexLt xs ys else decide (x<y)
theorem lexLt_cons(x y:Int)(xs ys:List Int):lexLt (x::xs) (y::ys)=if x=y then lexLt xs ys else decide (x<y):=rfl
theorem K4:lexLt [] []=a4:=rfl
theorem Fp(y:Int)(ys:List Int):lexLt [] (y::ys)=a5:=rfl
theorem Fq(x:Int)(xs:List Int):lexLt (x::xs) []=a4:=rfl
theorem eqAt_int(A:aB)(s:ae)(a:Int)(t:gH)(c:Int)(u:gH):∃e,cw A s (.int a t) (.int c u) e/\(e=a5↔a=c) :=
 ⟨(a==c),SeqAt.EqAt.int_int a t c u,by simp⟩
theorem rcLt_int(A:aB)(s:ae)(a:Int)(t:gH)(c:Int)(u:gH)(prog:au)(w:aA)(E:k91)(Q:k91)(h:Q (.bool (decide (a<c))) s) :
  ao (ax prog w) A (gr .Lt (.int a t) (.int c u)) Q E s :=
 (lt_int h:ao (ax prog w) A (aP .Lt (.int a t) (.int c u)) Q E s)
section
open PySem.SeqAt
open PySem.AutoSeq1 (wpAny_loadPart')
open PySem.MeetsSeq PySem.MeetsSeq2 PySem.MeetsSeq3
theorem Lr(l b:aa)(items items2:Array a9)(n n2:Nat)(dd dd2:Option aa)(sl sl2:Array (Option a9))(ns ms:List Int)(hi:cL items.toList ns)(hj:cL items2.toList ms) :
  jT (cK.«tuple.__lt__» ⟨[.ref l,.ref b],[]⟩)
   (λ_ R s=>s.heap.get? l=a3 { cls:=.type "tuple",dict:=dd,data:=.seq items n,slots:=sl }/\s.heap.get? b=a3 { cls:=.type "tuple",dict:=dd2,data:=.seq items2 n2,slots:=sl2 } /\
    R (.ok (.ret (.bool (lexLt ns ms)))) s) :=
 .of_wp λprog w A R s h=>by
  obtain⟨hp,g,d,tk,os⟩:=s;obtain⟨hl,hb,h⟩:=h;have f2:=fL;have z1:items.size=ns.length:=by rw[<-hi.length];simp
  have z2:items2.size=ms.length:=by rw[<-hj.length];simp
  wp_walk using cW hl,cW hb,gb _ (λrest b s'=>b.1=a6/\s'=⟨hp,g,d,tk,os⟩/\∃(vs ws:List a9)(ns' ms':List Int),rest=vs.zip ws /\
   cL vs ns'/\cL ws ms'/\ns'.length+items2.size=ms'.length+items.size/\R (.ok (.ret (.bool (lexLt ns' ms')))) ⟨hp,g,d,tk,os⟩) _
  case turn =>
   rintro⟨y,x⟩ rest b s' ⟨hb',rfl,vs,ws,ns',ms',hz,hvi,hwi,hlen,hR⟩;cases hvi with
   |nil=>rw[List.zip_nil_left]at hz;cases hz
   |cons a t hvi' =>
    cases hwi with
    |nil=>rw[List.zip_nil_right]at hz;cases hz
    |cons c u hwi' =>
     rw[iS]at hz;injection hz with hyx hrest;injection hyx with hy hx;subst hy hx;rw[lexLt_cons]at hR;simp only[xq]at hlen;obtain⟨e,he,hiff⟩:=eqAt_int A.in1 ⟨hp,g,d,tk,os⟩ a t c u;refine a8 (he prog w _ _ ?_);cases e with
     |true =>
      rw[if_pos (hiff.mp rfl)]at hR
      wp_walk
      exact⟨rfl,rfl,_,_,_,_,hrest,hvi',hwi',by omega,hR⟩
     |false =>
      rw[if_neg (λq=>absurd (hiff.mpr q) xg)]at hR;have hri:=rcLt_int A.in1 ⟨hp,g,d,tk,os⟩ a t c u prog w
      wp_walk using hri
      exact⟨_,rfl,by simpa using hR⟩
  case fin =>
   rintro⟨b1,b2⟩ s' ⟨hb',rfl,vs,ws,ns',ms',hz,hvi,hwi,hlen,hR⟩;simp only at hb';subst hb';have hv:lexLt ns' ms'=decide (items.size<items2.size):=by
    cases hvi with
    |nil =>
     cases hwi with
     |nil =>simp only[Te]at hlen;rw[K4];exact(decide_eq_false nofun).symm
     |cons c u hw =>simp only[Te,xq]at hlen;rw[Fp];exact(decide_eq_true nofun).symm
    |cons a t hv =>
     cases hwi with
     |nil =>simp only[Te,xq]at hlen;rw[Fq];exact(decide_eq_false nofun).symm
     |cons c u hw =>rw[iS]at hz;cases hz
   rw[hv]at hR
   wp_walk
   exact⟨_,rfl,by simpa [dC]using hR⟩
  case h =>exact⟨rfl,rfl,items.toList,items2.toList,ns,ms,rfl,hi,hj,by omega,h⟩
end
section
variable{prog:au}{w:aA}{A:aB}{E:k91}{s:ae}
theorem lt_tupInts{l b:aa}{items items2:Array a9}{ns ms:List Int}{Q:k91}(hl:hZ s.heap l items)(hb:hZ s.heap b items2)(hi:cL items.toList ns)(hj:cL items2.toList ms)
  (hu:A.units<aI) (h:Q (.bool (lexLt ns ms)) s):ao (ax prog w) A (aP .Lt (.ref l) (.ref b)) Q E s:=by
 obtain⟨⟨cls,dd,data,sl⟩,ho,hc,n,hd⟩:=id hl;obtain⟨⟨cls2,dd2,data2,sl2⟩,ho2,hc2,n2,hd2⟩:=id hb;simp only at hc hd hc2 hd2;subst hc hd hc2 hd2;exact j2 (op:=.Lt) ⟨_,ho,rfl⟩ ⟨_,ho2,rfl⟩ gm g6 (fX _ _) (Lr l b items items2 n n2 dd dd2 sl sl2 ns ms hi hj)
  ⟨ho,ho2,show bp (lexLt ns ms)≠gM/\Q (.bool (lexLt ns ms)) s from⟨(λx=>nomatch x),h⟩⟩ hu
theorem cat_tup{t b:aa}{vs ws:List a9}{Q:k91}(ht:hZ s.heap t vs.toArray)(hb:hZ s.heap b ws.toArray)(hv:vs≠[])
  (h1:ws=[]->Q (.ref t) s) (h2:ws≠[]->Q (.ref s.heap.objs.size) { s with heap:=s.heap.push { cls:=.type "tuple",data:=.seq (vs++ws).toArray } })
  (hsz:vs.length+ws.length<=aj):ao (ax prog w) A (b0 .Add (.ref t) (.ref b)) Q E s:=by
 obtain⟨⟨cls,dd,data,sl⟩,ho,hc,n,hd⟩:=id ht;obtain⟨⟨cls2,dd2,data2,sl2⟩,ho2,hc2,n2,hd2⟩:=id hb;simp only at hc hd hc2 hd2;subst hc hd hc2 hd2;have e:vs.toArray++ws.toArray=(vs++ws).toArray:=by simp
 by_cases hw:ws=[]
 .exact fR ⟨_,ho,rfl⟩ ⟨_,ho2,rfl⟩ gf iC d9 d4 (cU _ _)
   (tuple_addW1 t b vs.toArray ws.toArray n n2 dd dd2 sl sl2 (by simpa using hv) (by simp[hw])) ⟨ho,ho2,h1 hw⟩
 .refine fR ⟨_,ho,rfl⟩ ⟨_,ho2,rfl⟩ gf iC d9 d4 (cU _ _)
   (tuple_addW2 t b vs.toArray ws.toArray n n2 dd dd2 sl sl2 (by simpa using hv) (by simpa using hw) (by rw[X7,X7];exact hsz)) ⟨ho,ho2,?_⟩
  rw[e];exact h2 hw
noncomputable def sIx(n d:Nat):Option Int->Nat
 |none=>d
 |some v=>if v<0 then(v+(n:Int)).toNat else min v.toNat n
theorem sIx_none(n d:Nat):sIx n d a6=d:=rfl
theorem sIx_nat(n d k:Nat):sIx n d (a3 (k:Int))=min k n:=by show(if (k:Int)<0 then((k:Int)+(n:Int)).toNat else min (k:Int).toNat n)=min k n;rw[if_neg nofun,Xm]
theorem jdg(n d:Nat)(hd:d<=n)(o:Option Int):sIx n d o<=n:=by
 cases o with
 |none=>exact hd
 |some v =>
  show(if v<0 then(v+(n:Int)).toNat else min v.toNat n)<=n;by_cases hv:v<0
  .rw[if_pos hv];omega
  .rw[if_neg hv];exact Nat.min_le_right _ _
theorem j2d(v:Int)(n d:Nat):(if v<0 then max (v+(n:Int)) 0 else min v (n:Int))=((sIx n d (a3 v):Nat):Int):=by
 show(if v<0 then max (v+(n:Int)) 0 else min v (n:Int))=(((if v<0 then(v+(n:Int)).toNat else min v.toNat n):Nat):Int)
 by_cases hv:v<0
 .simp only[if_pos hv];omega
 .simp only[if_neg hv];omega
theorem j3w(lo hi:Option Int)(n:Nat):cz lo hi 1 (n:Int)=(((sIx n 0 lo:Nat):Int),((sIx n n hi:Nat):Int)):=by
 have h1:¬((1:Int)<0):=by omega
 unfold cz;simp only[h1,if_false];refine Prod.ext ?_ ?_
 .cases lo with
  |none=>rfl
  |some v=>exact j2d v n 0
 .cases hi with
  |none=>rfl
  |some v=>exact j2d v n n
theorem j33(i j:Nat):bB (i:Int) (j:Int) 1=j-i:=by
 unfold bB;have h1:(1:Int)>0:=by omega
 simp only[h1,if_true,Int.ediv_one];split<;>omega
theorem Oz{v:a9}{o:Option Int}{Q:Option Int->ae->Prop}(p:eX v o)(h:Q o s):ao (ax prog w) A (kX v) Q E s:=by
 cases p with
 |none=>exact m7 h
 |int i t=>exact slicePart_int h
theorem Mu{sl:aa}{vl vu:a9}{lo hi:Option Int}{n:Nat}{Q:Int×Int×Nat->ae->Prop}(hs:s.heap.IsSliceOf sl vl vu .none)(pl:eX vl lo)(pu:eX vu hi)
  (h:Q (((sIx n 0 lo:Nat):Int),1,sIx n n hi-sIx n 0 lo) s):ao (ax prog w) A (eE (.ref sl) (pure (n:Int))) Q E s:=by
 obtain⟨os,hos,hcs,hds⟩:=id hs;unfold eE kY;refine a8 (a8 (bV hos hds (x:=vl) rfl (a8 (bV hos hds (x:=vu) rfl (a8 (bV hos hds (x:=.none) rfl (ah ?_)))))));refine a8 (m7 ?_);show ao _ _ (if ((1:Int)==0)=a5 then _ else _) _ _ s;rw[if_neg (by decide)];refine a8 (Oz pl (a8 (Oz pu (a8 (ah ?_)))));show ao _ _ (match cz lo hi 1 (n:Int)with|(lo,hi)=>pure (lo,(1:Int),bB lo hi 1)) _ _ s;rw[j3w lo hi n];show ao _ _ (pure (((sIx n 0 lo:Nat):Int),(1:Int),bB ((sIx n 0 lo:Nat):Int) ((sIx n n hi:Nat):Int) 1)) _ _ s;rw[j33];exact ah h
theorem j7e(xs:Array a9)(i k:Nat):((ar k).filterMap λ(m:Nat)=>xs[((i:Int)+(m:Int)*1).toNat]?).toArray=((xs.toList.drop i).take k).toArray:=by
 have e:(λ(m:Nat)=>xs[((i:Int)+(m:Int)*1).toNat]?)=λm=>xs[i+m]?:=by
  funext m
  have:((i:Int)+(m:Int)*1).toNat=i+m:=by omega
  rw[this]
 rw[e];have:=pick_run xs i k;rw[List.filterMap_map]at this;have e2:((λx=>xs[x]?) ∘ λx=>i+x)=λm=>xs[i+m]?:=rfl;rw[e2]at this;rw[this]
theorem getItem_tuple_cut{t sl:aa}{items:Array a9}{vl vu:a9}{lo hi:Option Int}{Q:k91}(ht:hZ s.heap t items)(hs:s.heap.IsSliceOf sl vl vu .none)(pl:eX vl lo)(pu:eX vu hi)
  (hw:¬(sIx items.size 0 lo=0/\sIx items.size items.size hi=items.size))
  (h:Q (.ref s.heap.objs.size) { s with heap:=s.heap.push { cls:=.type "tuple",data:=.seq ((items.toList.drop (sIx items.size 0 lo)).take (sIx items.size items.size hi-sIx items.size 0 lo)).toArray } })
  (hsz:items.size<=aj):ao (ax prog w) A (ja (.ref t) (.ref sl)) Q E s:=by
 have htake:sizeOk (.seq ((items.toList.drop (sIx items.size 0 lo)).take (sIx items.size items.size hi-sIx items.size 0 lo)).toArray):=by show((items.toList.drop (sIx items.size 0 lo)).take (sIx items.size items.size hi-sIx items.size 0 lo)).toArray.size<=aj;rw[X7,Xi,Pq,cG];omega
 have hj:sIx items.size items.size hi<=items.size:=jdg _ _ (X5 _) hi;obtain⟨os,hos,hcs,hds⟩:=id hs;have hTs:s.TypeIs (.ref sl) "slice":=⟨os,hos,hcs⟩
 unfold ja
 try with_reducible refine fj ?_
 first|refine a8 (ah ?_)|skip
 refine a8 (wpAny_sequenceKey ht.typeIs (by decide) ?_);refine a8 (bu (name:=aU "__getitem__") ht.typeIs ku
  (br ku ht.typeIs entry_tuple_getitem ?_ (args_tuple_getitem _ _)))
 show ao _ _ (kW (.ref t) >>= _) _ _ s;refine a8 (tupleItemsOf_ ht ?_);refine a8 (wpAny_typeOf hTs ?_);rw[if_pos (by decide)];refine a8 (Mu hs pl pu ?_);have hno:¬((((sIx items.size 0 lo:Nat):Int)==0&&(1:Int)==1&&(sIx items.size items.size hi-sIx items.size 0 lo)==items.size)=a5):=by intro q;rw[Xg,Xg]at q;have q1:((sIx items.size 0 lo:Nat):Int)=0:=eq_of_beq q.1.1;have q2:sIx items.size items.size hi-sIx items.size 0 lo=items.size:=eq_of_beq q.2;exact hw ⟨by omega,by omega⟩
 show ao _ _ (if (((sIx items.size 0 lo:Nat):Int)==0&&(1:Int)==1&&(sIx items.size items.size hi-sIx items.size 0 lo)==items.size)=a5 then _ else _) _ _ s;rw[if_neg hno,j7e]
 first
  |exact a8 (m:=aZ _) (aH (ah ⟨_,rfl,ah h⟩) htake)
  |exact a8 (m:=aZ _) (aH (a8 (ah (ah ⟨_,rfl,ah h⟩))) htake)
  |exact a8 (a8 (m:=aZ _) (aH (ah (ah ⟨_,rfl,ah h⟩)) htake))
  |exact a8 (a8 (m:=aZ _) (aH (ah ⟨_,rfl,ah h⟩) htake))
end
end HT
namespace L2
open PySem PySem.Spec PyProof.Rows
abbrev TO:=St->Hp->(Option Int->Hp->Prop)->Prop
def PO(X:Cx)(e:Option ai)(t:TO):Prop :=
 ∀(pins:k92) (s:ae) (σ:St) (H:Hp) (Q:Option Int->Hp->Prop),Inv X pins σ H s->t σ H Q ->
  ao (ax X.prog X.w) X.A (evalPart e X.env) (λu s'=>∃o H',Inv X pins σ H' s'/\eX u o/\Q o H') X.xe s
def ja9:TO:=λ_ H Q=>Q a6 H
def jhd(t:TE):TO:=λσ H Q=>t σ H λx H1=>∃i,x=.int i/\Q (a3 i) H1
theorem intsAre_of{ns:List Int}:∀{us:List a9},Vals (ns.map V.int) us->cL us ns:=by
 induction ns with
 |nil=>intro us r;rw[Pr]at r;cases r;exact .nil
 |cons n ns ih =>
  intro us r;rw[xr]at r;cases r with
  |cons r1 r2 =>obtain⟨t,e⟩:=r1;subst e;exact .cons n t (ih r2)
section
variable{X:Cx}{e:ai}{te:TE}{lo hi:Option ai}{tl th:TO}{pos p2:aJ}
theorem jay:PO X a6 ja9:=by intro pins s σ H Q I h;rw[ma];exact ah ⟨a6,H,I,.none,h⟩
theorem jax(h:PE X e te):PO X (a3 e) (jhd te):=by intro pins s σ H Q I hw;rw[evalPart_some];refine thn (h pins s σ H _ I hw) λu s1 ⟨x,H1,I1,r1,q1⟩=>?_;obtain⟨i,rfl,q⟩:=q1;obtain⟨t,rfl⟩:=r1;exact⟨a3 i,H1,I1,.int i t,q⟩
def SlR(X:Cx)(r:V->Option Int->Option Int->Hp->VK->Prop):Prop :=
 ∀(pins:k92) (s:ae) (σ:St) (H:Hp) (x:V) (v vl vu:a9) (lo hi:Option Int) (sl:aa) (Q:VK),Inv X pins σ H s->RelV x v->s.heap.IsSliceOf sl vl vu .none->eX vl lo->eX vu hi->r x lo hi H Q ->
  ∃T id,typeLookup (.type T) "__getitem__" = pure (a3 (.builtin id))/\s.TypeIs v T/\ao (ax X.prog X.w) X.A (ja v (.ref sl)) (EP X pins σ Q) X.xe s
def tSl(r:V->Option Int->Option Int->Hp->VK->Prop)(te:TE)(tl th:TO):TE:=λσ H Q=>te σ H λx H1=>tl σ H1 λl H2=>th σ H2 λu H3=>r x l u H3 Q
theorem O2{r:V->Option Int->Option Int->Hp->VK->Prop}(hr:SlR X r)(he:PE X e te)(hl:PO X lo tl)(hu:PO X hi th):PE X (.Subscript e (.Slice lo hi a6 p2) pos) (tSl r te tl th):=by intro pins s σ H Q I h;refine Subscript_ (thn (he pins s σ H _ I h) λv s1 ⟨x,H1,I1,r1,q1⟩=>?_);refine wpAny_Slice (thn (hl pins s1 σ H1 _ I1 q1) λvl s2 ⟨l,H2,I2,pl,q2⟩=>thn (hu pins s2 σ H2 _ I2 q2) λvu s3 ⟨u,H3,I3,pu,q3⟩=>?_);rw[ma];refine ah ?_;have I4:Inv X pins σ H3 { s3 with heap:=s3.heap.push { cls:=.type "slice",data:=.fields #[vl,vu,.none] } }:=I3.kept (t':=s3.toks) λb ob q=>xj _ q;obtain⟨T,id,hT,ht,hg⟩:=hr pins { s3 with heap:=s3.heap.push { cls:=.type "slice",data:=.fields #[vl,vu,.none] } } σ H3 x v vl vu l u s3.heap.objs.size Q I4 r1 (Heap.IsSliceOf.new ..) pl pu q3;show ao (ax X.prog X.w) X.A (mf e (.Slice lo hi a6 p2) v (.ref s3.heap.objs.size)) (EP X pins σ Q) X.xe { s3 with heap:=s3.heap.push { cls:=.type "slice",data:=.fields #[vl,vu,.none] } };exact m6 (ops:=[.ref s3.heap.objs.size,v]) ht hT hg (by with_unfolding_all rfl)
noncomputable def Wy(xs:List V)(lo hi:Option Int):List V:=(xs.drop (HT.sIx xs.length 0 lo)).take (HT.sIx xs.length xs.length hi-HT.sIx xs.length 0 lo)
theorem Mm(xs:List V)(lo hi:Option Int):(Wy xs lo hi).length<=xs.length:=by unfold Wy;rw[Xi,Pq];omega
def jjw(K:k90):V->Option Int->Option Int->Hp->VK->Prop:=λx lo hi H Q=>∃a xs,x=.ref a/\SqT K H a xs /\
 ¬(HT.sIx xs.length 0 lo=0/\HT.sIx xs.length xs.length hi=xs.length)/\∀p,H p=a6->Q (.ref p) (upd H p (.tup (Wy xs lo hi)))
theorem jd6:SlR X (jjw X.K):=by
 intro pins s σ H x v vl vu lo hi sl Q I rx hs pl pu h;obtain⟨a,xs,rfl,hx,hw,q⟩:=h;cases rx;obtain⟨its,r,ht,hz⟩:=I.tuple hx;have hlen:its.toArray.size=xs.length:=by rw[X7];exact r.length.symm
 refine⟨"tuple",_,slot_tuple_getitem.lookup,ht.typeIs,?_⟩;refine HT.getItem_tuple_cut ht hs pl pu (by rw[hlen];exact hw) ?_ (by rw[hlen];exact hz);rw[hlen];refine⟨.ref s.heap.objs.size,_,I.laid (t':=s.toks) (o:=.tup (Wy xs lo hi)) (λb ob q=>xj _ q) (X5 _) ?_,rfl,q _ (I.hok.fresh (X5 _))⟩;exact⟨Xk (Mm xs lo hi) hz,_,(r.drop (HT.sIx xs.length 0 lo)).take (HT.sIx xs.length xs.length hi-HT.sIx xs.length 0 lo),IsTup.new _ _,Zf.new _ _⟩
def jhu(K:k90):R2:=λx y H Q=>∃a b xs ys,x=.ref a/\y=.ref b/\SqT K H a xs/\SqT K H b ys/\xs≠[]/\xs.length+ys.length<=aj /\
 (ys=[]->Q (.ref a) H)/\(ys≠[]->∀p,H p=a6->Q (.ref p) (upd H p (.tup (xs++ys))))
theorem Vals.nil_iff{xs:List V}{us:List a9}(r:Vals xs us):us=[]↔xs=[]:=by
 cases r with
 |nil=>simp
 |cons _ _=>simp
theorem jb5:OpR X (b0 .Add) (jhu X.K):=by intro pins s σ H x y v u Q I rx ry h;obtain⟨a,b,xs,ys,rfl,rfl,ha,hb,hx,hz,q1,q2⟩:=h;cases rx;cases ry;obtain⟨its,r1,p1,_⟩:=I.tuple ha;obtain⟨its2,r2,p2,_⟩:=I.tuple hb;refine HT.cat_tup p1 p2 (λz=>hx (r1.nil_iff.mp z)) (λz=>⟨.ref a,H,I,rfl,q1 (r2.nil_iff.mp z)⟩) (λz=>?_) (by rw[<-r1.length,<-r2.length];exact hz);refine⟨.ref s.heap.objs.size,_,I.laid (t':=s.toks) (o:=.tup (xs++ys)) (λb ob q=>xj _ q) (X5 _) ?_,rfl,q2 (λw=>z (r2.nil_iff.mpr w)) _ (I.hok.fresh (X5 _))⟩;exact⟨by rw[Xe];exact hz,_,r1.append r2,IsTup.new _ _,Zf.new _ _⟩
end
noncomputable def ixN(n:Nat)(i:Int):Option Nat:=if 0<=i then(if i<n then a3 i.toNat else a6)else if -(n:Int)<=i then a3 (i+n).toNat else a6
noncomputable def atI{α:Type}(xs:List α)(i:Int):Option α:=(ixN xs.length i).bind λj=>xs[j]?
theorem jbl{n:Nat}{i:Int}{j:Nat}(h:ixN n i=a3 j):seqIndex? i n=a3 j/\j<n/\-(n:Int)<=i/\i<n:=by
 unfold ixN at h;by_cases h0:0<=i
 .rw[if_pos h0]at h;by_cases h1:i<n
  .rw[if_pos h1]at h;have e:i.toNat=j:=aw h;exact⟨by rw[seqIndex_of h0 h1,e],by omega,by omega,h1⟩
  .rw[if_neg h1]at h;cases h
 .rw[if_neg h0]at h;by_cases h1:-(n:Int)<=i
  .rw[if_pos h1]at h;have e:(i+n).toNat=j:=aw h;exact⟨by rw[seqIndex_neg nofun h1,e],by omega,h1,by omega⟩
  .rw[if_neg h1]at h;cases h
theorem Dn{α:Type}{xs:List α}{i:Int}{v:α}(h:atI xs i=a3 v):∃j,seqIndex? i xs.length=a3 j/\xs[j]?=a3 v/\j<xs.length/\-(xs.length:Int)<=i/\i<xs.length:=by
 unfold atI at h;cases e:ixN xs.length i with
 |none=>rw[e]at h;cases h
 |some j =>rw[e]at h;obtain⟨h1,h2,h3,h4⟩:=jbl e;exact⟨j,h1,h,h2,h3,h4⟩
theorem jcm{α:Type}{xs:List α}{j:Nat}{v:α}(h:xs[j]?=a3 v):atI xs (j:Int)=a3 v:=by
 have hj:j<xs.length:=(X3.mp h).1;have e:ixN xs.length (j:Int)=a3 j:=by unfold ixN;rw[if_pos nofun,if_pos nofun];simp
 unfold atI;rw[e];exact h
def Vt(b:ai):Prop:=∀o i,subscripted b a4 o i=operate [o,i] (ja o i)
def IxR(X:Cx)(r:R2):Prop :=
 ∀(value slice:ai)(pins:k92) (s:ae) (σ:St) (H:Hp) (x y:V) (v u:a9) (Q:VK),Inv X pins σ H s->RelV x v->RelV y u->r x y H Q ->
  subscripted slice a4 v u=operate [v,u] (ja v u)->ao (ax X.prog X.w) X.A (mf value slice v u) (EP X pins σ Q) X.xe s
def MtR(X:Cx)(id:String)(r:V->List V->Hp->VK->Prop):Prop :=
 ∀(pins:k92) (s:ae) (σ:St) (H:Hp) (x:V) (xs:List V) (v:a9) (us:List a9) (Q:VK),Inv X pins σ H s->RelV x v->Vals xs us->r x xs H Q ->
  ao (ax X.prog X.w) X.A (call (.builtin id) (v::us)) (EP X pins σ Q) X.xe s
section
variable{X:Cx}{a b:ai}{ta tb:TE}{pos:aJ}
theorem Bd{r:R2}(hr:IxR X r)(ha:PE X a ta)(hb:PE X b tb)(hs:Vt b):PE X (.Subscript a b pos) (tOp r ta tb):=by intro pins s σ H Q I h;exact Subscript_ (j8t ha hb I h λv u s2 x y H2 I2 rx ry q=>hr a b pins s2 σ H2 x y v u Q I2 rx ry q (hs _ _))
def jdq(K:k90):R2:=λx y H Q=>∃p xs i v,x=.ref p/\y=.int i/\SqL K H p xs/\atI xs i=a3 v/\Q v H
def jdo(K:k90):R2:=λx y H Q=>∃p xs i v,x=.ref p/\y=.int i/\SqT K H p xs/\atI xs i=a3 v/\Q v H
def jdp:R2:=λx y H Q=>∃z i c,x=.str z/\y=.int i/\z.length<=aj/\atI z.cps.toList i=a3 c/\Q (.str ⟨#[c]⟩) H
theorem jbk:IxR X (jdq X.K):=by
 intro value slice pins s σ H x y v u Q I rx ry h hs;obtain⟨p,xs,i,z,rfl,rfl,hq,he,q⟩:=h;cases rx;obtain⟨t,rfl⟩:=ry;obtain⟨its,r,pl,hz⟩:=I.list hq;obtain⟨j,h1,h2,h3,h4,h5⟩:=Dn he;obtain⟨w,ew,rw'⟩:=r.get h2;have hl:=r.length;have hn:=U9;have fin:EP X pins σ Q w s:=⟨z,H,I,rw',q⟩
 by_cases h0:0<=i
 .have hj:i.toNat=j:=by rw[seqIndex_of h0 h5]at h1;exact aw h1
  exact item_listR pl.isList h0 nofun (by rw[hj];simpa using ew) fin hs
 .have hj:(i+(its.toArray.size:Int)).toNat=j:=by rw[seqIndex_neg nofun h4]at h1;rw[X7,<-hl];exact aw h1
  exact jv (x:=w) pl.isList.typeIs slot_list_getitem.lookup
   (wpAny_getItem_list_neg (Q:=λr s'=>r=w/\EP X pins σ Q r s') pl.isList nofun (by rw[X7]<;>omega) nofun (by rw[hj];simpa using ew) ⟨rfl,fin⟩) hs
theorem j5f:IxR X (jdo X.K):=by
 intro value slice pins s σ H x y v u Q I rx ry h hs;obtain⟨p,xs,i,z,rfl,rfl,hq,he,q⟩:=h;cases rx;obtain⟨t,rfl⟩:=ry;obtain⟨its,r,pl,hz⟩:=I.tuple hq;obtain⟨j,h1,h2,h3,h4,h5⟩:=Dn he;obtain⟨w,ew,rw'⟩:=r.get h2;have hl:=r.length;have hn:=U9;have fin:EP X pins σ Q w s:=⟨z,H,I,rw',q⟩
 exact jv (x:=w) pl.typeIs slot_tuple_getitem.lookup
  (getItem_tuple (j:=j) (Q:=λr s'=>r=w/\EP X pins σ Q r s') pl nofun nofun (by rw[X7,<-hl];exact h1) (by simpa using ew) ⟨rfl,fin⟩) hs
theorem jez:IxR X jdp:=by
 intro value slice pins s σ H x y v u Q I rx ry h hs;obtain⟨z,i,c,rfl,rfl,hz,he,q⟩:=h;obtain⟨t,rfl⟩:=rx;obtain⟨t',rfl⟩:=ry;obtain⟨j,h1,h2,h3,h4,h5⟩:=Dn he;have hl:z.cps.toList.length=z.length:=by simp[lT]
 rw[hl]at h1 h4 h5;have hn:=U9;exact m6 (hU s z t) slot_str_getitem.lookup (getItem_str (c:=c) (by
  have e1:decide (i < -(2^63:Int))=a4:=decide_eq_false nofun
  have e2:decide (i>=2^63)=a4:=decide_eq_false nofun
  rw[e1,e2,eJ]) (by rw[h1];simpa using h2) ⟨.str ⟨#[c]⟩,H,I.tok _,⟨_,rfl⟩,q⟩) hs
theorem Ih(lo hi:Option Int)(n:Nat):(cM lo hi a6 n).1=((HT.sIx n 0 lo:Nat):Int)/\(cM lo hi a6 n).2.1=((HT.sIx n n hi:Nat):Int)/\(cM lo hi a6 n).2.2=1:=by
 refine⟨?_,?_,rfl⟩
 .cases lo with
  |none=>simp[cM,HT.sIx]
  |some i =>
   simp only[cM,HT.sIx,iR,show(1:Int)>0 by decide,if_true];by_cases h:i<0
   .simp only[h,if_true]<;>omega
   .simp only[h,if_false]<;>omega
 .cases hi with
  |none=>simp[cM,HT.sIx]
  |some i =>
   simp only[cM,HT.sIx,iR,show(1:Int)>0 by decide,if_true];by_cases h:i<0
   .simp only[h,if_true]<;>omega
   .simp only[h,if_false]<;>omega
theorem Lz(its:List a9)(lo hi:Option Int):slicePick its.toArray lo hi a6=((its.drop (HT.sIx its.length 0 lo)).take (HT.sIx its.length its.length hi-HT.sIx its.length 0 lo)).toArray:=by obtain⟨h1,h2,h3⟩:=Ih lo hi its.toArray.size;unfold slicePick;rw[h1,h2,h3];simp only[sliceRange_one,pick_run,X7]<;>rfl
def jjy(K:k90):V->Option Int->Option Int->Hp->VK->Prop:=λx lo hi H Q=>∃a xs,x=.ref a/\SqL K H a xs/\∀p,H p=a6->Q (.ref p) (upd H p (.lst (Wy xs lo hi)))
theorem jab:SlR X (jjy X.K):=by intro pins s σ H x v vl vu lo hi sl Q I rx hs pl pu h;obtain⟨a,xs,rfl,hx,q⟩:=h;cases rx;obtain⟨its,r,ht,hz⟩:=I.list hx;have hlen:=r.length;refine⟨"list",_,slot_list_getitem.lookup,ht.isList.typeIs,?_⟩;refine wpAny_getItem_list_slice ht.isList hs pl pu .none (by simp) ?_ (by rw[X7]<;>omega);rw[Lz,<-hlen];refine⟨.ref s.heap.objs.size,_,I.laid (t':=s.toks) (o:=.lst (Wy xs lo hi)) (λb ob q=>xj _ q) (X5 _) ?_,rfl,q _ (I.hok.fresh (X5 _))⟩;exact⟨Xk (Mm xs lo hi) hz,_,0,(r.drop (HT.sIx xs.length 0 lo)).take (HT.sIx xs.length xs.length hi-HT.sIx xs.length 0 lo),X6 _ rfl⟩
theorem R8:Ja X (.builtin "len") (λxs H Q=>∃p ys,xs=[.ref p]/\(SqL X.K H p ys\/SqT X.K H p ys)/\Q (.int ys.length) H):=by
 intro pins s σ H xs us Q I r h;obtain⟨p,ys,rfl,hq,q⟩:=h;obtain⟨u,rfl,rx⟩:=vals1 r;cases rx;have hn:=U9;rcases hq with hq|hq
 .obtain⟨its,r',pl,hz⟩:=I.list hq;have hlen:=r'.length;exact Calls.call_len_list pl.isList (by simp only[X7]<;>omega) ⟨.int ys.length,H,I.tok _,⟨s.toks+1,by rw[X7,hlen]⟩,q⟩
 .obtain⟨its,r',pl,hz⟩:=I.tuple hq;have hlen:=r'.length;exact len_tuple pl (by simp only[X7]<;>omega) ⟨.int ys.length,H,I.tok _,⟨s.toks+1,by rw[X7,hlen]⟩,q⟩
theorem j0n:Ja X (.builtin "len") (λxs H Q=>∃z,xs=[.str z]/\z.length<=aj/\Q (.int z.length) H):=by intro pins s σ H xs us Q I r h;obtain⟨z,rfl,hz,q⟩:=h;obtain⟨u,rfl,t,rfl⟩:=vals1 r;have hn:=U9;exact len_str nofun ⟨.int z.length,H,I.tok _,⟨_,rfl⟩,q⟩
theorem j0m:Ja X (.type "list") (λxs H Q=>∃p ys,xs=[.ref p]/\(SqL X.K H p ys\/SqT X.K H p ys)/\∀l,H l=a6->Q (.ref l) (upd H l (.lst ys))):=by
 intro pins s σ H xs us Q I r h;obtain⟨p,ys,rfl,hq,q⟩:=h;obtain⟨u,rfl,rx⟩:=vals1 r;cases rx;have fin:∀(its:List a9),Vals ys its->ys.length<=aj->∀(h':aD)(c':Nat),(∀b o',s.heap.get? b=a3 o'->h'.get? b=a3 o') ->
   h'.get? s.heap.objs.size=a3 { cls:=.type "list",dict:=a6,data:=.seq its.toArray c',slots:=#[] }->EP X pins σ Q (.ref s.heap.objs.size) { s with heap:=h' }:=λits r' hz h' c' kp e =>
  ⟨.ref s.heap.objs.size,_,I.laid (t':=s.toks) kp (X5 _) (show ji X.prog X.w _ h' _ (.lst ys) from⟨hz,its,c',r',e⟩),rfl,q _ (I.hok.fresh (X5 _))⟩
 rcases hq with hq|hq
 .obtain⟨its,r',pl,hz⟩:=I.list hq;have hlen:=r'.length;obtain⟨o,ho,hc,n,hd⟩:=pl.isList;exact md p (.inl rfl) ho hc hd (λh' c' kp e=>fin its r' hz h' c' kp e) (by simp only[X7]<;>omega)
 .obtain⟨its,r',pl,hz⟩:=I.tuple hq;have hlen:=r'.length;obtain⟨o,ho,hc,n,hd⟩:=pl;exact md p (.inr rfl) ho hc hd (λh' c' kp e=>fin its r' hz h' c' kp e) (by simp only[X7]<;>omega)
theorem K6:Ja X (.type "tuple") (λxs H Q=>∃p ys,xs=[.ref p]/\((SqL X.K H p ys/\∀l,H l=a6->Q (.ref l) (upd H l (.tup ys)))\/(SqT X.K H p ys/\Q (.ref p) H))):=by
 intro pins s σ H xs us Q I r h;obtain⟨p,ys,rfl,h⟩:=h;obtain⟨u,rfl,rx⟩:=vals1 r;cases rx;rcases h with ⟨hq,q⟩|⟨hq,q⟩
 .obtain⟨its,r',pl,hz⟩:=I.list hq;have hlen:=r'.length;refine call_tuple_list pl.isList (λh' kp=>?_) (by simp only[X7]<;>omega);have I1:Inv X pins σ H { s with heap:=h' }:=I.kept (t':=s.toks) kp;have I2:Inv X pins σ (upd H h'.objs.size (.tup ys)) { s with heap:=h'.push { cls:=.type "tuple",data:=.seq its.toArray } } :=
   I1.laid (t':=s.toks) (λb o e=>xj _ e) (X5 _) (show ji X.prog X.w _ _ _ (.tup ys) from⟨hz,its,r',IsTup.new _ _,Zf.new _ _⟩)
  exact⟨.ref h'.objs.size,_,I2,rfl,q _ (I1.hok.fresh (X5 _))⟩
 .obtain⟨its,r',pl,hz⟩:=I.tuple hq;exact call_tuple_same pl ⟨.ref p,H,I,rfl,q⟩
def tyV(K:k90)(T:String)(x:V)(H:Hp):Prop:=match x with
 |.str _=>T = "str"
 |.int _=>T = "int"
 |.ref p=>(T = "list"/\∃xs,SqL K H p xs)\/(T = "tuple"/\∃xs,SqT K H p xs) \/
   (T = "dict"/\((∃kvs,H p=a3 (.dK kvs))\/∃kvs,H p=a3 (.dT kvs)))\/(T = "set"/\∃S n,H p=a3 (.set S n))
 |_=>False
theorem j42{pins:k92}{σ:St}{H:Hp}{s:ae}{T:String}{x:V}{v:a9}(I:Inv X pins σ H s)(r:RelV x v)(ty:tyV X.K T x H) :
  s.TypeIs v T/\∀a,v=.ref a->∃ob,s.heap.get? a=a3 ob/\ob.dict=a6:=by
 cases x with
 |str z =>obtain⟨t,rfl⟩:=r;cases(show T = "str" from ty);exact⟨hU s z t,λ_ e=>nomatch e⟩
 |int i =>obtain⟨t,rfl⟩:=r;cases(show T = "int" from ty);exact⟨fF s i t,λ_ e=>nomatch e⟩
 |ref p =>
  cases r;rcases ty with ⟨rfl,xs,hq⟩|⟨rfl,xs,hq⟩|⟨rfl,hk⟩|⟨rfl,S,n,hk⟩
  .obtain⟨its,_,pl,_⟩:=I.list hq;refine⟨pl.isList.typeIs,λa e=>?_⟩;cases e;obtain⟨o,n,e,c,hd,_⟩:=pl;exact⟨o,e,hd⟩
  .obtain⟨its,_,⟨o,e1,e2,_⟩,_⟩:=I.tuple hq;refine⟨⟨o,e1,e2⟩,λa e=>?_⟩;cases e;exact⟨o,e1,I.tupD hq o e1⟩
  .have z:∃o,s.heap.get? p=a3 o/\o.ExactDict:=by
    rcases hk with ⟨kvs,hk⟩|⟨kvs,hk⟩
    .obtain⟨_,_,_,_,o,_,_,e,ex,_⟩:=I.hok p _ hk;exact⟨o,e,ex⟩
    .obtain⟨_,_,_,_,o,_,_,e,ex,_⟩:=I.hok p _ hk;exact⟨o,e,ex⟩
   obtain⟨o,e,ex⟩:=z;refine⟨⟨o,e,ex.1⟩,λa e2=>?_⟩;cases e2;exact⟨o,e,ex.2.1⟩
  .obtain⟨o,_,_,_,e,ex,_⟩:=I.hok p _ hk;refine⟨⟨o,e,ex.1⟩,λa e2=>?_⟩;cases e2;exact⟨o,e,ex.2.1⟩
 |_=>exact aY ty
def jjr(K:k90)(T:String)(r:V->List V->Hp->VK->Prop)(to:TE):TE:=λσ H Q=>to σ H λx H1=>tyV K T x H1/\r x [] H1 Q
def tBM(K:k90)(T:String)(r:V->List V->Hp->VK->Prop)(to:TE)(t:TA):TE:=λσ H Q=>to σ H λx H1=>tyV K T x H1/\t σ H1 λxs H2=>r x xs H2 Q
variable{o e:ai}{es:List ai}{to:TE}{t:TA}{name:af}{apos cpos:aJ}{T id:String}{r:V->List V->Hp->VK->Prop}
theorem je3 (pa:PlainAttrs T) (slot:Slot T name id) (hty:lW (.builtin id)=pure (.type "method_descriptor")) (hm:MtR X id r) (ho:PE X o to)
  (hbase:aF o name X.env (ay o X.env)=ay o X.env:=by rfl) (hline:(apos.endLine==cpos.line)=a5:=by rfl):PE X (.Call (.Attribute o name apos) [] [] cpos) (jjr X.K T r to):=by
 intro pins s σ H Q I h;refine iK hbase hline (thn (ho pins s σ H _ I h) λv s1 ⟨x,H1,I1,r1,ty,q1⟩=>?_);obtain⟨h1,h2⟩:=j42 I1 r1 ty;exact⟨T,id,pa,slot,hty,h1,h2,dn rfl (iq (hm pins s1 σ H1 x [] v [] Q I1 r1 .nil q1))⟩
theorem Uj (pa:PlainAttrs T) (slot:Slot T name id) (hty:lW (.builtin id)=pure (.type "method_descriptor")) (hm:MtR X id r) (ho:PE X o to) (ha:PA X (e::es) t)
  (hbase:aF o name X.env (ay o X.env)=ay o X.env:=by rfl)
  (hfew:((aK cpos (a7 (e::es) X.env)).all (λx=>!x.1)&&(bA cpos (aX [] X.env)).all (λx=>x.1.isSome)
   && decide ((e::es).length+([]:List aT).length+(if ([]:List aT).isEmpty then 0 else 1)<30))=a5:=by rfl)
  (hline:(apos.endLine==cpos.line)=a5:=by rfl) (hs:a7 (e::es) X.env=(a4,ay e X.env)::a7 es X.env:=by rfl) (hplain:(aK cpos (a7 es X.env)).any (·.1)=a4:=by rfl) :
  PE X (.Call (.Attribute o name apos) (e::es) [] cpos) (tBM X.K T r to t):=by
 intro pins s σ H Q I h;refine wpAny_Call_method_late hbase hfew hline rfl (thn (ho pins s σ H _ I h) λv s1 ⟨x,H1,I1,r1,ty,q1⟩=>?_);obtain⟨h1,h2⟩:=j42 I1 r1 ty;refine⟨T,id,pa,slot,hty,h1,h2,?_⟩;have hA:=ha cpos pins s1 σ H1 _ I1 q1;rw[hs]at hA ⊢;refine dn (by show(a4 || (aK cpos (a7 es X.env)).any (·.1))=a4;rw[hplain]<;>rfl) (gZ ?_);exact thn hA λus s2 ⟨vs,H2,I2,r2,q2⟩=>hm pins s2 σ H2 x vs v us Q I2 r1 r2 q2
/- xs.append(e),list.index on a module's tuple .. are MtR facts of 06m -/
end
def MtM(X:Cx)(id:String)(r:V->List V->Hp->VK->Prop):Prop :=
 ∀(pins:k92) (s:ae) (σ:St) (H:Hp) (x:V) (xs:List V) (v:a9) (us:List a9) (Q:VK),Inv X pins σ H s->RelV x v->Vals xs us->r x xs H Q ->
  ao (ax X.prog X.w) X.A (call (.builtin id) (v::us)) (EP X pins σ Q) X.xe s
theorem Vals.one{x:V}{us:List a9}(h:Vals [x] us):∃u,us=[u]/\RelV x u:=by cases h with|cons r t=>cases t;exact⟨_,rfl,r⟩
theorem Vals.two:∀{x y:V}{us:List a9},Vals [x,y] us->∃u v,us=[u,v]/\RelV x u/\RelV y v
 |_,_,_,.cons r (.cons q .nil)=>⟨_,_,rfl,r,q⟩
theorem Vals.zero:∀{us:List a9},Vals [] us->us=[]
 |_,.nil=>rfl
theorem Vals.dropLast{xs:List V}{us:List a9}(h:Vals xs us):Vals xs.dropLast us.dropLast:=by
 induction h with
 |nil=>exact .nil
 |cons r t ih =>
  cases t with
  |nil=>exact .nil
  |cons q t'=>exact .cons r ih
theorem Vals.reverse{xs:List V}{us:List a9}(h:Vals xs us):Vals xs.reverse us.reverse:=by
 induction h with
 |nil=>exact .nil
 |cons r t ih=>rw[jB,jB];exact Vals.append ih (.cons r .nil)
theorem Vals.rep{xs:List V}{us:List a9}(h:Vals xs us):∀k:Nat,Vals (aq k xs).flatten (aq k us).flatten
 |0=>.nil
 |k+1=>by rw[T3,T3,S9,S9];exact Vals.append h (Vals.rep h k)
theorem foldl_rep(its:List a9):∀(k:Nat)(acc:List a9),
  cQ (λx1 x2=>x1++x2) acc.toArray (aq k its.toArray)=(acc++(aq k its).flatten).toArray
 |0,acc=>by simp
 |k+1,acc=>by
  have e:acc.toArray++its.toArray=(acc++its).toArray:=by simp
  have e2:(acc++its)++(aq k its).flatten=acc++(aq (k+1) its).flatten:=by rw[T3,S9,Ti]
  rw[<-e2,<-foldl_rep its k (acc++its),<-e,T3,Tf]
section
variable{X:Cx}{pins:k92}{σ:St}{H:Hp}{s:ae}{l b:aa}{xs ys zs:List V}
theorem Inv.lset{its its':List a9}{n:Nat}{f:Array a9->Array a9}{t':Nat}(I:Inv X pins σ H s)(hH:H l=a3 (.lst xs))
  (e:s.heap.get? l=a3 { cls:=.type "list",data:=.seq its.toArray n }) (hf:f its.toArray=its'.toArray) (hv:Vals ys its') (hz:ys.length<=aj) :
  Inv X pins σ (upd H l (.lst ys)) { s with heap:=s.heap.update l (cS f),toks:=t' }:=by
 have q:=PySem.IsL.update e f;rw[hf]at q;refine I.write (x:=l) (e:=l) (by rw[hH];exact trivial) (.inl rfl) (λb' u hb hu=>(Heap.get?_update_other s.heap (cS f) (bJ hb)).trans hu) ⟨_,q⟩ ?_;exact⟨hz,its',_,hv,q⟩
theorem Inv.lnew{its:List a9}{t':Nat}(I:Inv X pins σ H s)(hv:Vals ys its)(hz:ys.length<=aj) :
  Inv X pins σ (upd H s.heap.objs.size (.lst ys)) { s with heap:=s.heap.push { cls:=.type "list",data:=.seq its.toArray },toks:=t' } :=
 I.laid (λ_ _ q=>xj _ q) (X5 _) ⟨hz,its,0,hv,X6 _ rfl⟩
theorem Inv.fresh(I:Inv X pins σ H s):H s.heap.objs.size=a6:=I.hok.fresh (X5 _)
theorem Inv.lstM(I:Inv X pins σ H s)(hH:H l=a3 (.lst xs)):xs.length<=aj/\∃(its:List a9)(n:Nat),Vals xs its/\xs.length=its.length/\s.heap.get? l=a3 { cls:=.type "list",data:=.seq its.toArray n }:=by obtain⟨z,its,n,r,e⟩:=I.hok l _ hH;exact⟨z,its,n,r,r.length,e⟩
theorem Eo{n:Nat}(h:n<=aj):bH n=a4:=by unfold bH;exact decide_eq_false nofun
end
section
variable{X:Cx}
def jau:V->List V->Hp->VK->Prop:=λx vs H Q=>∃l xs y,x=.ref l/\vs=[y]/\H l=a3 (.lst xs)/\xs.length<aj/\Q .non (upd H l (.lst (xs++[y])))
theorem Ck:MtM X "list.append" jau:=by intro pins s σ H x vs v us Q I rx rv h;obtain⟨l,xs,y,rfl,rfl,hH,hz,q⟩:=h;cases rx;obtain⟨u,rfl,ru⟩:=rv.one;obtain⟨z,its,n,r,hl,e⟩:=I.lstM hH;refine bc gX ⟨_,e,rfl⟩ F.entry_list_append (F.args_list_append_2 _ _) (PySem.list_append l its.toArray n u (by rw[X7];omega)) ⟨e,?_⟩;refine⟨.non,_,I.lset (its':=its++[u]) hH e (by simp) (r.append (.cons ru .nil)) ?_,rfl,q⟩;rw[Xe,T8];omega
def jat:V->List V->Hp->VK->Prop:=λx vs H Q=>∃l b xs zs,x=.ref l/\vs=[.ref b]/\H l=a3 (.lst xs)/\H b=a3 (.lst zs)/\xs.length+zs.length<=aj/\Q .non (upd H l (.lst (xs++zs)))
theorem j55:MtM X "list.extend" jat:=by
 intro pins s σ H x vs v us Q I rx rv h;obtain⟨l,b,xs,zs,rfl,rfl,hH,hB,hz,q⟩:=h;cases rx;obtain⟨u,rfl,ru⟩:=rv.one;cases ru;obtain⟨z,its,n,r,hl,e⟩:=I.lstM hH;obtain⟨z2,its2,n2,r2,hl2,e2⟩:=I.lstM hB;have hsz:its.toArray.size+its2.toArray.size<=aj:=by rw[X7,X7];omega
 have hlong:¬(!its.toArray.isEmpty&&bH (its.toArray.size+its2.toArray.size))=a5:=by rw[Eo hsz,fZ];exact xg
 refine bc gR ⟨_,e,rfl⟩ F.entry_list_extend (F.args_list_extend_2 _ _)
  (AutoSeq1.list_extend_list_list_0 l its.toArray n b its2.toArray n2 hlong (by rw[X7];omega) nofun) ⟨e,e2,?_⟩
 refine⟨.non,_,I.lset (its':=its++its2) hH e (by simp) (r.append r2) ?_,rfl,q⟩;rw[Xe];omega
def jdr:V->List V->Hp->VK->Prop:=λx vs H Q=>∃l xs,x=.ref l/\vs=[]/\H l=a3 (.lst xs)/\Q .non (upd H l (.lst []))
theorem j7m:MtM X "list.clear" jdr:=by intro pins s σ H x vs v us Q I rx rv h;obtain⟨l,xs,rfl,rfl,hH,q⟩:=h;cases rx;have hus:=rv.zero;subst hus;obtain⟨z,its,n,r,hl,e⟩:=I.lstM hH;refine bc ig ⟨_,e,rfl⟩ F.entry_list_clear (F.args_list_clear_1 _) (AutoSeq1.list_clear_list_0 l its.toArray n (by rw[X7];omega)) ⟨e,?_⟩;exact⟨.non,_,I.lset (its':=[]) (ys:=[]) hH e rfl .nil (T6 _),rfl,q⟩
def jk0:R2:=λx y H Q=>∃l k xs,x=.ref l/\y=.int k/\H l=a3 (.lst xs)/\-(2^63)<=k/\k<2^63/\xs.length*k.toNat<=aj /\
 ∀p,H p=a6->Q (.ref p) (upd H p (.lst (aq k.toNat xs).flatten))
theorem len_rep{α:Type}(xs:List α)(k:Nat):(aq k xs).flatten.length=k*xs.length:=by
 induction k with
 |zero=>simp
 |succ k ih=>rw[T3,S9,Xe,ih,l9,Nat.add_comm]
theorem je9:OpR X (b0 .Mult) jk0:=by
 intro pins s σ H x y v u Q I rx ry h;obtain⟨l,k,xs,rfl,rfl,hH,h1,h2,hz,q⟩:=h;cases rx;obtain⟨t,rfl⟩:=ry;obtain⟨z,its,n,r,hl,e⟩:=I.lstM hH;have hlen:its.toArray.size*k.toNat<=aj:=by rw[X7,<-hl];exact hz
 have hcap:¬its.toArray.size*k.toNat>(2^63-1)/8:=by
  have:(aj:Nat)<=(2^63-1)/8:=by decide
  omega
 have hfit:¬(!Builtin.List.listFitsIndex k)=a5:=by rw[fitsIndex_both h1 h2];exact xg
 have hlong:¬bH (its.toArray.size*k.toNat)=a5:=by rw[Eo hlen];exact xg
 have hnew:cQ (λx1 x2=>x1++x2) #[] (aq (if its.toArray.isEmpty=a5 then 0 else k.toNat) its.toArray)=(aq k.toNat its).flatten.toArray:=by
  have f0:∀m:Nat,cQ (λx1 x2=>x1++x2) #[] (aq m its.toArray)=(aq m its).flatten.toArray:=λm=>by have:=foldl_rep its m [];rw[dz]at this;exact this
  rw[f0];cases its with
  |nil=>simp
  |cons a r'=>rw[if_neg (by simp)]
 refine ip (T:="list") (U:="int") (by decide) ⟨_,e,rfl⟩ (λs'=>fF s' k t) noFill_list_mul kA dN repeat_list F.slot_int_index.lookup
  (bc dN (fF s k t) kl (kc _ _) (int___rmul___int_list k t l its.toArray n)
   ⟨e,rfl,⟨_,e,rfl⟩,bc F.slot_list_mul ⟨_,e,rfl⟩ F.entry_list_mul (F.args_list_mul_2 _ _) (AutoListH.list___mul___list_int_3 l its.toArray n k t hfit hcap hlong) ⟨e,?_⟩⟩)
 rw[hnew];exact⟨.ref _,_,I.lnew (t':=s.toks) (r.rep k.toNat) (by rw[len_rep,cN];exact hz),rfl,q _ I.fresh⟩
end
section
variable{prog:au}{w:aA}{A:aB}{E:k91}{s:ae}
end
section
variable{X:Cx}
end
end L2
namespace Att
open PySem PySem.W PySem.Calls PyProof.Rows
theorem Bo{P:lZ}{h:aD}:∀(ns:List Int)(vs:List a9),WellAll P h vs (ns.map WData.int)->cL vs ns:=by
 intro ns;induction ns with
 |nil =>intro vs w;rw[Pr]at w;cases w;exact .nil
 |cons n ns ih =>
  intro vs w;rw[xr]at w;cases w with
  |cons a b =>cases a;exact .cons _ _ (ih _ b)
theorem j4e{l:d6}{n:Nat}(hn:l.most=a3 n){P:lZ}{h:aD}{args:List WData}{vals:List a9}
  (hpre:l.row.toRowW.claim.pre args=a5) (hwl:WellAll P h vals args) :
  ∃a vs ns,vals=[az a]/\args=[WData.list (ns.map WData.int)]/\h.get? a=a3 { cls:=.type "list",data:=.seq vs.toArray }/\cL vs ns/\ns.length<=n:=by
 have hsh:WShape.hasAll [] args [.list .int]=a5:=(pre_splitW hpre).1;have hc:l.pre.holds [] { args:=args }=a5:=(pre_splitW hpre).2;obtain⟨d,r,rfl,h1,h2⟩:=hasAllW_cons hsh;obtain rfl:=hasAllW_nil h2;obtain⟨xs,rfl,h3⟩:=hasW_list h1;obtain⟨ns,rfl⟩:=items_int h3;have hlen:ns.length<=n:=by
  unfold OpenLaw.pre at hc;have h4:(WTm.not (.lt (.lit (.int (n:Int))) (.len (.arg 0)))).holds [] { args:=[.list (ns.map .int)] }=a5:=by have h4:=(holds_andW hc).1;rw[hn]at h4;exact h4
  have h5:=condW_of h4 (w_not (w_lt w_lit (w_len_list (w_arg rfl))));rw[kj]at h5;refine Nat.le_of_not_lt λq=>?_;have q':(n:Int)<((ns.length:Nat):Int):=by omega
  first
   |(rw[decide_eq_true q']at h5;exact absurd h5 (by decide))
   |(simp at h5;omega)
 cases hwl with
 |cons w1 w2 =>
  cases w2;cases w1 with
  |list ho hall=>exact⟨_,_,ns,rfl,rfl,ho,Bo ns _ hall,hlen⟩
theorem j4m(l:d6)(args:List WData):l.row.toRowW.claim.post args (.bool a5) args=a5 :=
 postW_of (r:=l.row.toRowW) (X:=(a5==a5))
  (show WShape.has [] (.bool a5) .bool=a5 by first|rfl|decide|simp[WShape.has,WShape.arms,WShape.armsAll])
  (show(WTm.eq .res (.lit (.bool a5))).value [] { args:=args,res:=a3 (.bool a5),after:=args }=a3 (.bool (a5==a5))from w_eq_bool (w_res rfl) w_lit) rfl
theorem attach_call{l:d6}{n:Nat}{q:au}{loose:List af}{XP:(af->Option a9)->aD->Prop}{YP:aA->aD->Prop}{d:DefRec}
  (hn:l.most=a3 n) (hdf:d.params.defaults=[])
  (call:∀(w:aA)(s₀ s₁:ae)(mg mb:k93)(fa:aa)(o:cC)(pm cd doc:a9)(a:aa) (vs:List a9) (ns:List Int),
   Ground q loose [] XP w s₀ mg mb s₁.heap->YP w s₁.heap ->
   s₁.heap.get? fa=a3 o->o.data=.func (docDef d.name d.params d.body d.scope pm cd doc)->s₁.heap.CodeRec cd d.name->mg d.name=a3 (.ref fa) ->
   s₁.heap.get? a=a3 { cls:=.type "list",data:=.seq vs.toArray }->cL vs ns->ns.length<=n->s₁.gens = #[] ->
   cg (ax l.prog w) fT (.call (.ref fa) ⟨[.ref a],[]⟩) (λr s'=>r=.ok (.ret (.bool a5))/\OldK s₁.heap s'.heap/\s'.os=s₁.os/\dy s'.gens) s₁) :
  iw q loose XP YP l.row.toRowW d [] (λf vs=>iD f vs):=by
 intro w s₀ s₁ mg mb G Y fa o pm cd doc dV kV ho hd hcd hD hmg hg args vals as hpre hlay hrd hwl hlo;obtain rfl:dV=.none:=Dflts.none hD hdf;obtain rfl:kV=.none:=Dflts.noKw hD;obtain⟨a,vs,ns,rfl,rfl,hobj,hints,hlen⟩:=j4e hn hpre hwl;refine enter_call (bD (call w s₀ s₁ mg mb fa o pm cd doc a vs ns G Y ho (fd_plain hd) hcd hmg hobj hints hlen hg) λr s' hq=>?_);obtain⟨rfl,h2,h3,h4⟩:=hq;exact⟨.inl ⟨.bool a5,.bool a5,[],rfl,λ_=>rfl,.bool a5,j4m l _,λ_=>⟨List.Pairwise.nil,λ_ hm=>(nomatch hm)⟩⟩,h2,h3,h4⟩
section
variable{prog:au}{w:aA}{A:aB}{E:k91}{s:ae}{K:lS}
end
end Att
namespace L2
open PySem PySem.Spec PyProof.Rows
theorem Ds:∀{vs:List a9}{ns:List Int},cL vs ns->Vals (ns.map V.int) vs
 |_,_,.nil=>.nil
 |_,_,.cons n t h=>.cons ⟨t,rfl⟩ (Ds h)
def Only(ts:List (aa×af))(H:Hp):Prop:=(∀b,H b=a6\/(∃o xs,H b=a3 (.frz o (.lst xs)))\/∃q,(b,q)∈ts/\H b=a3 (.cod q))/\∀t∈ts,H t.1=a3 (.cod t.2)
def j94(ts:List (aa×af))(h:aD):Prop:=(ts.map (·.1)).Nodup/\∀t∈ts,(∃c,iX h c t.1)/\h.get? t.1=a3 (W.tabObj #[])
theorem j1f:∀{ts:List (aa×af)} {b:aa} {q:af},ts.lookup b=a3 q->(b,q)∈ts
 |p::r,b,q,h=>by
  rw[Xj]at h;cases e:b==p.1 with
  |true=>rw[e]at h;cases h;rw[beq_iff_eq.mp e];exact xm ..
  |false=>rw[e]at h;exact km _ (j1f h)
theorem lookup_tab:∀{ts:List (aa×af)},(ts.map (·.1)).Nodup->∀t∈ts,ts.lookup t.1=a3 t.2
 |[],_,_,h=>by cases h
 |p::r,nd,t,ht=>by
  rw[xr]at nd;rcases xn.mp ht with e|ht
  .subst e;rw[Xj,beq_self_eq_true]
  .have ne:(t.1==p.1)=a4:=beq_eq_false_iff_ne.mpr λz=>(Xo.mp nd).1 (z▸eA ht);rw[Xj,ne];exact lookup_tab (Xo.mp nd).2 t ht
theorem j7t{P:au}{w:aA}{K:k90}{mg mb:k93}{CX:CXT}{k:Nat}{fa a:aa}{fd:aN}{x:af}{sp:Sp}{s₁:ae}{vs:List a9}{ns:List Int}{ts:List (aa×af)}
  (KX:K.In s₁.heap) (hns:s₁.heap.Ns ak mg) (hb:s₁.heap.Ns di mb) (hbb:∀x:af,x ≠ "__name__"->mb x=bE x) (hlim:s₁.heap.NoLimit)
  (hbm:∃bm ob,mg "__builtins__" = a3 (.ref bm)/\bm≠di/\s₁.heap.get? bm=a3 ob/\ob.cls=.type "module"/\ob.dict=a3 di/\ob.data=.plain) (hT:j94 ts s₁.heap) (hK0:W.noTabs K=a5) (hg:s₁.gens = #[])
  (ha:s₁.heap.get? a=a3 { cls:=.type "list",data:=.seq vs.toArray }) (hi:cL vs ns) (hl:ns.length<=aj) (hr:Room k fT)
  (F:∀base:aD,K.In base->base.Ns ak mg->FnOk P w K mg base CX k fa fd [x] sp) (hbind:∀(s:ae)(u:a9),fV s fd ⟨[u],[]⟩ [(x,u)])
  (hsp:∀H:Hp,Only ts H->SqL K H a (ns.map V.int)->sp [.ref a] H (λv H'=>v=.bl a5/\∀b o,H b=a3 o->H' b=a3 o) λ_ _ _=>False)
  (hCX:∀H e s',CX [] H s₁ (λ_ _ _=>False) e s'->False) :
  cg (ax P w) fT (.call (.ref fa) ⟨[.ref a],[]⟩) (λr s'=>r=.ok (.ret (.bool a5))/\OldK s₁.heap s'.heap/\s'.os=s₁.os/\dy s'.gens) s₁:=by
 have rv:=Ds hi;have lenV:=hi.length;have at_:∀{q:af}{b:aa},(b,q)∈ts->s₁.heap.get? b=a3 (W.tabObj #[]):=λ{q b} h=>(hT.2 _ h).2;have core:∀H:Hp,Only ts H->SqL K H a (ns.map V.int)->HOk P w H s₁.heap->(∀b,H b≠a6->b=a\/∃q,(b,q)∈ts)->(H a≠a6->K.lookup a=a6) ->
   cg (ax P w) fT (.call (.ref fa) ⟨[.ref a],[]⟩) (λr s'=>r=.ok (.ret (.bool a5))/\OldK s₁.heap s'.heap/\s'.os=s₁.os/\dy s'.gens) s₁:=by
  intro H hO hS hok hA hK;have base_of:∀{b:aa}{o:cC},s₁.heap.get? b=a3 o->H b=a6->(Up s₁.heap H).get? b=a3 o:=λe n=>j84 e n;have noA:∀{b:aa}{o:cC},s₁.heap.get? b=a3 o->(∀vs n,o.data≠.seq vs n)->(∀vs,o.data≠.fields vs)->H b=a6:=λ{b o} e d d2=>by
   cases q:H b with
   |none=>rfl
   |some u =>
    rcases hA b (by rw[q];simp)with e'|⟨q',e'⟩
    .subst e';rw[ha]at e;cases e;exact absurd rfl (d _ _)
    .rw[at_ e']at e;cases e;exact absurd rfl (d2 _)
  have nsK:∀{b:aa}{m:k93},s₁.heap.Ns b m->(Up s₁.heap H).Ns b m:=λ{b m} ⟨o,es,ep,e,d,r⟩=>⟨o,es,ep,base_of e (noA e (λ_ _ z=>by rw[d]at z;cases z) λ_ z=>by rw[d]at z;cases z),d,r⟩
  have hKb:K.In (Up s₁.heap H):=λb o e=>base_of (KX b o e) (by
   cases q:H b with
   |none=>rfl
   |some u =>
    rcases hA b (by rw[q];simp)with e'|⟨q',e'⟩
    .subst e'
     rw[hK (by rw[q];simp)]at e;cases e
    .have e2:=KX b o e
     rw[at_ e']at e2
     have h2:=Pb.mp hK0 (b,o) (W.mem_of_lookupK e)
     cases e2
     exact absurd (show a4=a5 from h2) xg)
  have hM:Mod K mg (Up s₁.heap H):=⟨hKb,nsK hns,⟨mb,nsK hb,hbb⟩,(let ⟨mc,h1,h2⟩:=hlim;⟨mc,nsK h1,h2⟩),
   let ⟨bm,ob,b1,b2,b3,b4,b5,b6⟩:=hbm;⟨bm,ob,b1,b2,base_of b3 (noA b3 (λ_ _ z=>by rw[b6]at z;cases z) λ_ z=>by rw[b6]at z;cases z),b4,b5,b6⟩⟩
  have e0:Env0 P w K mg (Up s₁.heap H) fT [] s₁ H:=⟨rfl,hM,λb o e=>jb8 e,Nat.le_of_eq (j5k _ _),trivial,λb hb=>absurd (show b∈([]:List aa)from hb) (by simp),hok,.of_eq hg⟩
  refine bD ((F _ hKb (nsK hns)).run fT [] s₁ H ⟨[.ref a],[]⟩ [.ref a] [.ref a] _ _ hr e0 (hbind s₁ (.ref a)) (.cons rfl .nil) (hsp H hO hS)) λr s' h=>?_;cases r with
  |error e=>exact(hCX H e s' h).elim
  |ok fl =>
   cases fl with
   |next=>exact aY h
   |brk=>exact aY h
   |cont=>exact aY h
   |ret u =>
    obtain⟨v,H',os,bare,un,hok',r',q,sm⟩:=h;have q':v=.bl a5:=q;subst q';obtain rfl:u=bp a5:=r';have main:∀b o,s₁.heap.get? b=a3 o->s'.heap.get? b=a3 o\/((∃q,(b,q)∈ts)/\o=W.tabObj #[]/\∃ps,s'.heap.get? b=a3 (W.tabObj ps)):=λb o e=>by
     cases q:H b with
     |none=>exact .inl (un.keep b o e q (by intro z;exact absurd (show b∈([]:List aa)from z) (by simp)) (by simp))
     |some u =>
      rcases hO.1 b with z|⟨ob,xs,z⟩|⟨q',hq,z⟩
      .rw[q]at z;cases z
      .have z2:=un.frzs b ob _ z;obtain⟨e1,_⟩:=hok b _ z;obtain⟨e2,_⟩:=hok' b _ z2;rw[e]at e1;cases e1;exact .inl e2
      .obtain⟨ps,e2,_⟩:=(show ji P w H' s'.heap b (.cod q')from hok' b _ (sm b _ z))
       rw[at_ hq]at e;exact .inr ⟨⟨q',hq⟩,(aw e).symm,ps,e2⟩
    refine⟨rfl,⟨λb o e=>?_,λb o e=>?_⟩,os,bare⟩
    .rcases main b o e with z|⟨⟨q,hq⟩,rfl,ps,z⟩
     .exact .inl z
     .obtain⟨c,hc⟩:=(hT.2 _ hq).1;exact .inr (.inl ⟨(hc.tab (at_ hq)).isCodeTable,rfl,#[],ps,rfl,by rw[z,Array.empty_append]⟩)
    .rcases main b o e with z|⟨_,_,ps,z⟩
     .exact⟨o,z⟩
     .exact⟨_,z⟩
 have lkT:∀b q,ts.lookup b=a3 q->(b,q)∈ts:=λb q h=>j1f h;have ofT:∀t∈ts,ts.lookup t.1=a3 t.2:=lookup_tab hT.1;have okT:∀(H:Hp) b q,(b,q)∈ts->ji P w H s₁.heap b (.cod q):=λH b q h=>⟨#[],at_ h,trivial,λpos cv z=>by cases z⟩
 cases hk:K.lookup a with
 |some o =>
  have e:=KX a o hk;rw[ha]at e;cases e;refine core (λb=>(ts.lookup b).map HO.cod) ⟨λb=>?_,λt ht=>by show(ts.lookup t.1).map HO.cod=_;rw[ofT t ht];rfl⟩ (.inr ⟨_,vs.toArray,_,hk,rfl,rfl,rfl,by rw[X7,lenV];exact hl,by simpa using rv⟩) (λb u z=>?_) (λb z=>?_) λz=>?_
  .cases e:ts.lookup b with
   |none=>exact .inl (by show(ts.lookup b).map HO.cod=_;rw[e];rfl)
   |some q=>exact .inr (.inr ⟨q,lkT b q e,by show(ts.lookup b).map HO.cod=_;rw[e];rfl⟩)
  .obtain⟨q,e,rfl⟩:=Xu.mp z;exact okT _ b q (lkT b q e)
  .cases e:ts.lookup b with
   |none=>exact absurd (by show(ts.lookup b).map HO.cod=_;rw[e];rfl) z
   |some q=>exact .inr ⟨q,lkT b q e⟩
  .cases e:ts.lookup a with
   |none=>exact absurd (by show(ts.lookup a).map HO.cod=_;rw[e];rfl) z
   |some q=>have:=at_ (lkT a q e);rw[ha]at this;cases this
 |none =>
  have na:∀q,(a,q)∉ts:=λq h=>by have:=at_ h;rw[ha]at this;cases this
  refine core (λb=>if b=a then a3 (.frz { cls:=.type "list",data:=.seq vs.toArray } (.lst (ns.map V.int))) else(ts.lookup b).map HO.cod) ⟨λb=>?_,λt ht=>?_⟩ (.inl (.inr ⟨{ cls:=.type "list",data:=.seq vs.toArray },if_pos rfl⟩)) (λb u z=>?_) (λb z=>?_) λ_=>hk
  .by_cases hb:b=a
   .exact .inr (.inl ⟨_,_,if_pos hb⟩)
   .cases e:ts.lookup b with
    |none=>exact .inl (by show(if b=a then _ else _)=_;rw[if_neg hb,e];rfl)
    |some q=>exact .inr (.inr ⟨q,lkT b q e,by show(if b=a then _ else _)=_;rw[if_neg hb,e];rfl⟩)
  .have nb:t.1≠a:=λz=>na t.2 (z▸ht);show(if t.1=a then _ else _)=_;rw[if_neg nb,ofT t ht];rfl
  .by_cases hb:b=a
   .have z':=(if_pos hb).symm.trans z;cases z';subst hb;exact⟨ha,by rw[kj];exact hl,vs,_,rv,ha⟩
   .have z':=(if_neg hb).symm.trans z;obtain⟨q,e,rfl⟩:=Xu.mp z';exact okT _ b q (lkT b q e)
  .by_cases hb:b=a
   .exact .inl hb
   .cases e:ts.lookup b with
    |none=>exact absurd (by show(if b=a then _ else _)=_;rw[if_neg hb,e];rfl) z
    |some q=>exact .inr ⟨q,lkT b q e⟩
theorem walk_of{l:d6}{n k:Nat}{q:au}{loose:List af}{XP:(af->Option a9)->aD->Prop}{YP:aA->aD->Prop}{d:DefRec}{K:lZ->k90}{CX:aA->CXT}{sp:aA->Sp}{x:af}{ts:aA->List (aa×af)}
  (hn:l.most=a3 n) (hn2:n<=aj) (hdf:d.params.defaults=[]) (hr:Room k fT)
  (hY:∀(w:aA)(h:aD),YP w h->(K w.params).In h/\j94 (ts w) h) (hK0:∀w:aA,W.noTabs (K w.params)=a5)
  (F:∀(w:aA)(mg:k93)(fa:aa)(h:aD),(K w.params).In h->h.Ns ak mg->mg d.name=a3 (.ref fa) ->
   ∃fd:aN,(∀(s:ae)(u:a9),fV s fd ⟨[u],[]⟩ [(x,u)]) /\
    ∀base:aD,(K w.params).In base->base.Ns ak mg->FnOk l.prog w (K w.params) mg base (CX w) k fa fd [x] (sp w))
  (hsp:∀(w:aA)(H:Hp)(a:aa)(ns:List Int),ns.length<=n->Only (ts w) H->SqL (K w.params) H a (ns.map V.int)->sp w [.ref a] H (λv H'=>v=.bl a5/\∀b o,H b=a3 o->H' b=a3 o) λ_ _ _=>False)
  (hCX:∀(w:aA)(H:Hp)(s:ae)(e:a9)(s':ae),CX w [] H s (λ_ _ _=>False) e s'->False) :
  iw q loose XP YP l.row.toRowW d [] (λf vs=>iD f vs):=by
 refine Att.attach_call hn hdf λw s₀ s₁ mg mb fa o pm cd doc a vs ns G Y ho hd hcd hmg hobj hints hlen hg=>?_;obtain⟨KX,hT⟩:=hY w _ Y;obtain⟨fd,hb,hF⟩:=F w mg fa _ KX G.T.g hmg;exact j7t KX G.T.g G.T.b G.T.builtins G.T.nolimit G.T.bmain hT (hK0 w) hg hobj hints (Xk hlen hn2) hr hF hb (λH hO hS=>hsp w H a ns hlen hO hS) λH e s'=>hCX w H s₁ e s'
end L2
/- THE LAST THEOREM (shape;LID,My.* are yours):
 My.Adr: a structure of the addresses that your layer names (classes,functions);My.Txt K t: a structure (Prop) of the equations over K;
 My.txt_mk:{K} {implicit addresses ..} (e1:cY K ak "law" = a3 (a3 (.ref f))) (e2:K.lookup f=a3 ⟨oc,od,.func (fnOf "law" "law" params body scope dV kV doc pm an cdv ct),sl⟩) (e3:codeIn K cdv "law" = a5) ..:∃t,My.Txt K t
(the tactic k_is has no namespace: write k_is) -/
namespace L2
open PySem PySem.Spec PyProof.Rows
noncomputable def J0(s:aS):dH:=match s with
 |.FunctionDef _ a _ _ _ _ _ _ _ _=>a
 |_=>{ posonlyargs:=[],args:=[],vararg:=a6,kwonlyargs:=[],kw_defaults:=[],kwarg:=a6,defaults:=[] }
noncomputable def jy(s:aS):List aS:=match s with
 |.FunctionDef _ _ b _ _ _ _ _ _ _=>b
 |_=>[]
noncomputable def j9(s:aS):b9:=match s with
 |.FunctionDef _ _ _ _ _ _ sc _ _ _=>sc
 |_=>{ kind:=.function,names:=[],isGenerator:=a4,isCoroutine:=a4 }
noncomputable abbrev CX0:CXT:=λ_ _ _ _ _ _=>False
noncomputable abbrev E0:XK:=λ_ _ _=>False
theorem j35{X:Cx}:j0r CX0 X E0:=λ_ _ _ _ _ _ _ h=>h.elim
structure Fun(K:k90)(x qual:af)(st:aS)(f:aa)(fd:aN):Prop where
 ex:∃(oc:a9)(od:Option aa)(dV kV doc pm:a9)(an:Option aa)(cdv ct:a9)(osl:Array (Option a9)),
  fd=W.fnOf x qual (J0 st) (jy st) (j9 st) dV kV doc pm an cdv ct/\K.lookup f=a3 ⟨oc,od,.func fd,osl⟩/\W.codeIn K cdv qual=a5
 kp:W.keepIn K (.ref f)=a5
section
variable{P:au}{w:aA}{K:k90}{mg:k93}{base:aD}
theorem Fun.binds{x qual:af}{st:aS}{f:aa}{kV doc pm:a9}{an:Option aa}{cdv ct:a9}{ps:List af}(F:Fun K x qual st f (W.fnOf x qual (J0 st) (jy st) (j9 st) .none kV doc pm an cdv ct))
  (h:∀(kV doc pm:a9)(an:Option aa)(cdv ct:a9)(us:List a9),us.length=ps.length->dE (W.fnOf x qual (J0 st) (jy st) (j9 st) .none kV doc pm an cdv ct) ⟨us,[]⟩=pure (ps.zip us)):Binds K (W.fnOf x qual (J0 st) (jy st) (j9 st) .none kV doc pm an cdv ct) ps []:=.all (h kV doc pm an cdv ct)
theorem Wo{x qual:af}{st:aS}{f:aa}{oc:a9}{od an:Option aa}{osl:Array (Option a9)}{dV kV doc pm cdv ct:a9}(l:K.lookup f=a3 ⟨oc,od,.func (W.fnOf x qual (J0 st) (jy st) (j9 st) dV kV doc pm an cdv ct),osl⟩)
  (c:W.codeIn K cdv qual=a5) (k:W.keepIn K (.ref f)=a5):Fun K x qual st f (W.fnOf x qual (J0 st) (jy st) (j9 st) dV kV doc pm an cdv ct):=⟨⟨oc,od,dV,kV,doc,pm,an,cdv,ct,osl,rfl,l,c⟩,k⟩
end
section
variable{X:Cx}
end
theorem Fx{A B:Prop}(h:B):if a4=a5 then A else B:=by rw[if_neg xg];exact h
theorem Fw{A B:Prop}(h:A):if a5=a5 then A else B:=by rw[if_pos rfl];exact h
def j0(H H':Hp):Prop:=∀b o,H b=a3 o->H' b=a3 o
theorem j0.refl(H:Hp):j0 H H:=λ_ _ h=>h
theorem j0.trans{H H1 H2:Hp}(a:j0 H H1)(b:j0 H1 H2):j0 H H2:=λc o h=>b c o (a c o h)
theorem j0.free{H H':Hp}(e:j0 H H'){l:aa}(h:H' l=a6):H l=a6:=by
 cases q:H l with
 |none=>rfl
 |some o =>rw[e l o q]at h;cases h
theorem j0.seq{K:k90}{H H':Hp}{a:aa}{xs:List V}(e:j0 H H')(h:SqL K H a xs):SqL K H' a xs:=by
 rcases h with (h|⟨o,h⟩)|h
 .exact .inl (.inl (e _ _ h))
 .exact .inl (.inr ⟨o,e _ _ h⟩)
 .exact .inr h
set_option genInjectivity true in
inductive D where
 |non
 |bl (b:Bool)
 |int (i:Int)
 |str (x:af)
 |tup (ds:List D)
 |lst (ds:List D)
 |dct (ks:List (List Int)) (ds:List D)
 |sct (kvs:List (af×Int))
 |fn (x:af) (cs:List D)
noncomputable def kvI(kvs:List (af×Int)):List (Key×V):=kvs.map λp=>(.inr p.1,.int p.2)
noncomputable def q8(x:af):af:=x ++ ".<locals>." ++ "<lambda>"
noncomputable abbrev Tx:=dH×ai×b9
noncomputable def jk3:ai->Option Tx
 |.Lambda a b sc _=>a3 (a,b,sc)
 |.Call _ es _ _=>match es.getLast? with
  |some (.Lambda a b sc _)=>a3 (a,b,sc)
  |_=>a6
 |_=>a6
noncomputable def Fv(b:List aS):Option Tx:=match b.getLast? with
 |some (.Return (a3 e) _)=>jk3 e
 |_=>a6
noncomputable def V5(K:k90)(x:af):Option Tx:=match W.nsIn K ak x with
 |some (a3 (.ref f))=>match K.lookup f with
  |some ⟨_,_,.func fd,_⟩=>match fd.body with
   |.stmts b=>Fv b
   |_=>a6
  |_=>a6
 |_=>a6
noncomputable def J5(sc:b9):List af:=((sc.names.filter λp=>p.2==.free).map (·.1)).reverse
def vm(H:Hp):List aa->List V->Prop
 |[],vs=>vs=[]
 |c::cs,vs=>∃v r o u,vs=v::r/\H c=a3 (.frz o (.own 0))/\o.data=.cell (a3 u)/\RelV v u/\vm H cs r
theorem vm.mono{H H':Hp}(g:j0 H H'):∀{cs:List aa}{vs:List V},vm H cs vs->vm H' cs vs
 |[],_,h=>h
 |_::_,_,⟨v,r,o,u,e,h,d,rv,l⟩=>⟨v,r,o,u,e,g _ _ h,d,rv,l.mono g⟩
structure LamAt(K:k90)(H:Hp)(x:af)(a c:aa)(t:Tx)(cl:List (af×aa))(vs:List V):Prop where
 tx:V5 K x=a3 t
 fo:∃pm ctv,H a=a3 (.frz (W.kla_obj "<lambda>" (q8 x) t.1 t.2.1 t.2.2 cl pm c ctv) (.own 0))
 co:∃oc,H c=a3 (.frz oc (.own 0))/\Nf oc (q8 x)
 nm:cl.map (·.1)=J5 t.2.2
 nd:(cl.map (·.2)).Nodup
 cs:vm H (cl.map (·.2)) vs
theorem LamAt.mono{K:k90}{H H':Hp}{x:af}{a c:aa}{tx:Tx}{cl:List (af×aa)}{vs:List V}(g:j0 H H')(h:LamAt K H x a c tx cl vs):LamAt K H' x a c tx cl vs :=
 ⟨h.tx,let ⟨pm,ctv,e⟩:=h.fo;⟨pm,ctv,g _ _ e⟩,let ⟨oc,e,q⟩:=h.co;⟨oc,g _ _ e,q⟩,h.nm,h.nd,h.cs.mono g⟩
noncomputable def del(H:Hp)(A:List aa):Hp:=λb=>if b∈A then a6 else H b
section
variable{H H' F:Hp}{A A':List aa}{a b:aa}{o:HO}
theorem qt(h:b∈A):del H A b=a6:=if_pos h
theorem j6(h:b∉A):del H A b=H b:=if_neg h
theorem of_del(h:del H A b=a3 o):b∉A/\H b=a3 o:=by
 by_cases e:b∈A
 .rw[qt e]at h;cases h
 .rw[j6 e]at h;exact⟨e,h⟩
theorem jj(g:j0 H H'):j0 (del H A) (del H' A):=λb o h=>by obtain⟨n,e⟩:=of_del h;rw[j6 n];exact g b o e
end
theorem j0.seqT{K:k90}{H H':Hp}{a:aa}{xs:List V}(e:j0 H H')(h:SqT K H a xs):SqT K H' a xs:=by
 rcases h with (h|⟨o,h⟩)|h
 .exact .inl (.inl (e _ _ h))
 .exact .inl (.inr ⟨o,e _ _ h⟩)
 .exact .inr h
mutual
def Enc(K:k90)(H:Hp):D->V->Prop
 |.non,v=>v=.non
 |.bl b,v=>v=.bl b
 |.int i,v=>v=.int i
 |.str x,v=>v=.str x
 |.tup ds,v=>∃a xs,v=.ref a/\SqT K H a xs/\j5 K H ds xs
 |.lst ds,v=>∃a xs,v=.ref a/\SqL K H a xs/\j5 K H ds xs
 |.dct ks ds,v=>∃(a:aa)(xs:List (List Int×aa×a9)) (ep:Nat) (vs:List V),v=.ref a/\H a=a3 (.dI xs ep)/\ks=(xs.map λx=>x.1)/\(∀x∈xs,SqT K H x.2.1 (x.1.map V.int))/\Vals vs (xs.map λx=>x.2.2)/\j5 K H ds vs
 |.sct kvs,v=>∃a:aa,v=.ref a/\H a=a3 (.dK (kvI kvs))
 |.fn x ds,v=>∃(a c:aa)(tx:Tx)(cl:List (af×aa)) (vs:List V),v=.ref a/\LamAt K H x a c tx cl vs/\j5 K (del H (cl.map (·.2))) ds vs
def j5(K:k90)(H:Hp):List D->List V->Prop
 |[],xs=>xs=[]
 |d::ds,xs=>∃x r,xs=x::r/\Enc K H d x/\j5 K H ds r
end
mutual
theorem Enc.mono{K:k90}{H H':Hp}(g:j0 H H'):∀{d:D}{v:V},Enc K H d v->Enc K H' d v
 |.non,_,h=>h
 |.bl _,_,h=>h
 |.int _,_,h=>h
 |.str _,_,h=>h
 |.tup _,_,⟨a,xs,e,q,l⟩=>⟨a,xs,e,g.seqT q,j5.mono g l⟩
 |.lst _,_,⟨a,xs,e,q,l⟩=>⟨a,xs,e,g.seq q,j5.mono g l⟩
 |.dct _ _,_,⟨a,xs,ep,vs,e,q,ek,kt,rv,l⟩=>⟨a,xs,ep,vs,e,g _ _ q,ek,λx hx=>g.seqT (kt x hx),rv,j5.mono g l⟩
 |.sct _,_,⟨a,e,q⟩=>⟨a,e,g _ _ q⟩
 |.fn _ _,_,⟨a,c,tx,cl,vs,e,q,l⟩=>⟨a,c,tx,cl,vs,e,q.mono g,j5.mono (jj g) l⟩
theorem j5.mono{K:k90}{H H':Hp}(g:j0 H H'):∀{ds:List D}{xs:List V},j5 K H ds xs->j5 K H' ds xs
 |[],_,h=>h
 |_::_,_,⟨x,r,e,h,l⟩=>⟨x,r,e,Enc.mono g h,j5.mono g l⟩
end
section
variable{K:k90}{H H':Hp}{ds ds':List D}{xs ys:List V}
theorem j5.length:∀{ds:List D}{xs:List V},j5 K H ds xs->xs.length=ds.length
 |[],_,h=>by cases h;rfl
 |_::_,_,⟨x,r,e,_,l⟩=>by subst e;simp[j5.length l]
theorem j5.get:∀{ds:List D}{xs:List V}{i:Nat}{d:D},j5 K H ds xs->ds[i]?=a3 d->∃x,xs[i]?=a3 x/\Enc K H d x
 |[],_,i,d,_,e=>by simp at e
 |_::_,_,0,d,⟨x,r,e,h,_⟩,q=>by subst e;simp at q;subst q;exact⟨x,rfl,h⟩
 |_::_,_,i+1,d,⟨x,r,e,_,l⟩,q=>by subst e;simp at q;obtain⟨y,hy,hd⟩:=j5.get l q;exact⟨y,by simpa using hy,hd⟩
theorem j5.get':∀{ds:List D}{xs:List V}{i:Nat}{x:V},j5 K H ds xs->xs[i]?=a3 x->∃d,ds[i]?=a3 d/\Enc K H d x
 |[],_,i,d,h,e=>by cases h;simp at e
 |d::_,_,0,y,⟨x,r,e,h,_⟩,q=>by subst e;simp at q;subst q;exact⟨d,rfl,h⟩
 |_::_,_,i+1,y,⟨x,r,e,_,l⟩,q=>by subst e;simp at q;obtain⟨y,hy,hd⟩:=j5.get' l q;exact⟨y,by simpa using hy,hd⟩
theorem j5.append:∀{ds ds':List D}{xs ys:List V},j5 K H ds xs->j5 K H ds' ys->j5 K H (ds++ds') (xs++ys)
 |[],_,_,_,h,h'=>by cases h;exact h'
 |_::_,_,_,_,⟨x,r,e,h,l⟩,h'=>by subst e;exact⟨x,_,rfl,h,j5.append l h'⟩
theorem j5.one{d:D}{x:V}(h:Enc K H d x):j5 K H [d] [x]:=⟨x,[],rfl,h,rfl⟩
theorem j5.take:∀{ds:List D}{xs:List V}(n:Nat),j5 K H ds xs->j5 K H (ds.take n) (xs.take n)
 |[],_,n,h=>by cases h;simp;exact rfl
 |_::_,_,0,⟨x,r,e,h,l⟩=>by simp;exact rfl
 |_::_,_,n+1,⟨x,r,e,h,l⟩=>by subst e;exact⟨x,_,rfl,h,j5.take n l⟩
theorem j5.drop:∀{ds:List D}{xs:List V}(n:Nat),j5 K H ds xs->j5 K H (ds.drop n) (xs.drop n)
 |[],_,n,h=>by cases h;simp;exact rfl
 |_::_,_,0,h=>h
 |_::_,_,n+1,⟨x,r,e,h,l⟩=>by subst e;exact j5.drop n l
theorem j5.rep{ds:List D}{xs:List V}(h:j5 K H ds xs):∀k:Nat,j5 K H (aq k ds).flatten (aq k xs).flatten
 |0=>rfl
 |k+1=>by rw[T3,T3,S9,S9];exact h.append (j5.rep h k)
theorem j5.ints(ns:List Int):j5 K H (ns.map D.int) (ns.map V.int):=by
 induction ns with
 |nil=>exact rfl
 |cons n ns ih=>exact⟨_,_,rfl,rfl,ih⟩
end
section
variable{H H' F:Hp}{A A':List aa}{a b:aa}{o:HO}
theorem vz:del H []=H:=funext λb=>if_neg (by simp)
theorem jq:j0 (del H A) H:=λ_ _ h=>(of_del h).2
theorem v5(h:∀b,b∈A'->b∈A):j0 (del H A) (del H A'):=λb o e=>by obtain⟨n,e⟩:=of_del e;rw[j6 λz=>n (h b z)];exact e
theorem Ua(h:a∈A):del (upd H a o) A=del H A:=funext λb=>by
 by_cases e:b∈A
 .rw[qt e,qt e]
 .rw[j6 e,j6 e,je];rintro rfl;exact e h
noncomputable def mrg(A:List aa)(H F:Hp):Hp:=λb=>if b∈A then H b else F b
theorem J6(h:b∈A):mrg A H F b=H b:=if_pos h
theorem jk(h:b∉A):mrg A H F b=F b:=if_neg h
theorem Vr(h:∀a∈A,F a=a6):del (mrg A H F) A=F:=funext λb=>by
 by_cases e:b∈A
 .rw[qt e,h b e]
 .rw[j6 e,jk e]
theorem Mz(g:j0 (del H A) F):j0 H (mrg A H F):=λb o e=>by
 by_cases z:b∈A
 .rw[J6 z];exact e
 .rw[jk z];exact g b o (by rw[j6 z];exact e)
theorem j7(h:H a=a6):j0 H (upd H a o):=λb u q=>by rw[je (v7 q h)];exact q
end
def Hd(o:Option HO):Prop:=(∃xs,o=a3 (.lst xs))\/∃xs ep,o=a3 (.dI xs ep)
section
variable{X:Cx}{pins:k92}{σ σ':St}{H F:Hp}{s s':ae}{A:List aa}
theorem Inv.noFs(I:Inv X pins σ H s){b:aa}(hb:b∈X.fs):H b=a6:=by
 have q:b∈frs X.stack:=by
  rcases I.ok.stk with e|⟨e,_⟩
  .rw[e];exact hb
  .rw[e];have hb:b∈frs X.outer:=hb;unfold frs at hb ⊢;rw[bU];split
   .exact hb
   .exact km _ hb
 exact I.stkFree b q
theorem Inv.hide(I:Inv X pins σ H s)(hA:∀a∈A,Hd (H a)):Inv X (pins++Y0 A s.heap) σ (del H A) s where
 ok:=I.ok
 os:=I.os
 bare:=I.bare
 base:={
  keep:=I.base.keep
  slot:=I.base.slot
  free:=λb o e n hx=>by
   have q:=I.base.free b o e n hx
   by_cases z:b∈A
   .exact qt z
   .rw[j6 z];exact q
  there:=I.base.there
  tups:=λb xs e=>by
   have q:=I.base.tups b xs e
   rw[j6];exact q
   intro z;rcases hA b z with ⟨ys,e'⟩|⟨ys,ep,e'⟩<;>(rw[q]at e';cases e')
  frzs:=λb o u e=>by
   have q:=I.base.frzs b o u e
   rw[j6];exact q
   intro z;rcases hA b z with ⟨ys,e'⟩|⟨ys,ep,e'⟩<;>(rw[q]at e';cases e')
  tbls:=λb ps e=>by
   obtain⟨more,q⟩:=I.base.tbls b ps e
   refine⟨more,?_⟩
   rw[j6];exact q
   intro z;rcases hA b z with ⟨ys,e'⟩|⟨ys,ep,e'⟩<;>(rw[q]at e';cases e') }
 loc:=I.loc
 cell:=I.cell
 free:=by
  by_cases z:X.env.locals∈A
  .exact qt z
  .rw[j6 z];exact I.free
 freeC:=λx c e=>by
  by_cases z:c∈A
  .exact qt z
  .rw[j6 z];exact I.freeC x c e
 pin:=λp hp=>by
  rw[<-Ti]at hp;rcases Xn.mp hp with hp|hp
  .obtain⟨h1,h2,h3⟩:=I.pin p hp;refine⟨h1,?_,h3⟩;by_cases z:p.1∈A
   .exact qt z
   .rw[j6 z];exact h2
  .obtain⟨h1,h2⟩:=Cj hp;rcases hA _ h1 with ⟨xs,e⟩|⟨xs,ep,e⟩
   .refine⟨h2,qt h1,λz=>?_,λz=>?_,λv z=>?_⟩
    .rw[z,I.free]at e;cases e
    .rw[I.noFs z]at e;cases e
    .obtain⟨_,its,n,_,q⟩:=(show ji X.prog X.w H s.heap p.1 (.lst xs)from I.hok _ _ e)
     rw[h2]at q;rw[aw q]at z;cases z
   .refine⟨h2,qt h1,λz=>?_,λz=>?_,λv z=>?_⟩
    .rw[z,I.free]at e;cases e
    .rw[I.noFs z]at e;cases e
    .obtain⟨_,_,_,ob,es,q,_,qd,_⟩:=(show ji X.prog X.w H s.heap p.1 (.dI xs ep)from I.hok _ _ e)
     rw[h2]at q;rw[aw q,qd]at z;cases z
 hok:=λa o e=>by
  obtain⟨n,e⟩:=of_del e;refine ji.stay (I.hok a o e) (λb u _ q=>q) (λb q=>?_) (λb xs q=>?_) (λb _ _ q=>?_)
  .rw[j6];exact q;intro z;rcases hA b z with ⟨ys,e'⟩|⟨ys,ep,e'⟩<;>(rw[q]at e';cases e')
  .rw[j6];exact q;intro z;rcases hA b z with ⟨ys,e'⟩|⟨ys,ep,e'⟩<;>(rw[q]at e';cases e')
  .rw[j6];exact q;intro z;rcases hA b z with ⟨ys,e'⟩|⟨ys,ep,e'⟩<;>(rw[q]at e';cases e')
 len:=I.len
theorem Inv.unhide(I0:Inv X pins σ H s)(hA:∀a∈A,Hd (H a))(I:Inv X (pins++Y0 A s.heap) σ' F s') :
  (∀a∈A,F a=a6)/\Inv X pins σ' (mrg A H F) s':=by
 have pinned:∀a∈A,∃o,s.heap.get? a=a3 o/\s'.heap.get? a=a3 o/\F a=a6:=λa ha=>by
  have ob:∃o,s.heap.get? a=a3 o:=by
   rcases hA a ha with ⟨xs,e⟩|⟨xs,ep,e⟩
   .obtain⟨_,its,n,_,q⟩:=(show ji X.prog X.w H s.heap a (.lst xs)from I0.hok _ _ e)
    exact⟨_,q⟩
   .obtain⟨_,_,_,o,es,q,_⟩:=(show ji X.prog X.w H s.heap a (.dI xs ep)from I0.hok _ _ e)
    exact⟨_,q⟩
  obtain⟨o,q⟩:=ob;obtain⟨h1,h2,_⟩:=I.pin (a,_) (Xd _ (Xd _ (Qh ha q)));exact⟨_,q,h1,h2⟩
 have hF:∀a∈A,F a=a6:=λa ha=>let ⟨_,_,_,q⟩:=pinned a ha;q;have out:∀{b:aa}{o:HO},F b=a3 o->b∉A:=λ{b o} e z=>by rw[hF b z]at e;cases e
 refine⟨hF,?_⟩;exact{
  ok:=I.ok
  os:=I.os
  bare:=I.bare
  base:={
   keep:=I.base.keep
   slot:=I.base.slot
   free:=λb o e n hx=>by
    by_cases z:b∈A
    .rw[J6 z];exact I0.base.free b o e n hx
    .rw[jk z];exact I.base.free b o e n hx
   there:=I.base.there
   tups:=λb xs e=>by
    have q:=I.base.tups b xs e
    rw[jk (out q)];exact q
   frzs:=λb o u e=>by
    have q:=I.base.frzs b o u e
    rw[jk (out q)];exact q
   tbls:=λb ps e=>by
    obtain⟨more,q⟩:=I.base.tbls b ps e
    exact⟨more,by rw[jk (out q)];exact q⟩ }
  loc:=I.loc
  cell:=I.cell
  free:=by
   by_cases z:X.env.locals∈A
   .rw[J6 z];exact I0.free
   .rw[jk z];exact I.free
  freeC:=λx c e=>by
   by_cases z:c∈A
   .rw[J6 z];exact I0.freeC x c e
   .rw[jk z];exact I.freeC x c e
  pin:=λp hp=>by
   obtain⟨h1,h2,h3⟩:=I.pin p (by rw[<-Ti];exact P0 _ hp)
   refine⟨h1,?_,h3⟩
   by_cases z:p.1∈A
   .rw[J6 z];exact(I0.pin p hp).2.1
   .rw[jk z];exact h2
  hok:=λa o e=>by
   by_cases z:a∈A
   .rw[J6 z]at e
    obtain⟨o',q1,q2,_⟩:=pinned a z
    rcases hA a z with ⟨xs,e'⟩|⟨xs,ep,e'⟩
    .rw[e']at e;cases e
     obtain⟨hl,its,n,r,q⟩:=(show ji X.prog X.w H s.heap a (.lst xs)from I0.hok _ _ e')
     rw[q]at q1;cases q1
     exact⟨hl,its,n,r,q2⟩
    .rw[e']at e;cases e
     obtain⟨z1,z2,z3,ob,es,q,z4⟩:=(show ji X.prog X.w H s.heap a (.dI xs ep)from I0.hok _ _ e')
     rw[q]at q1;cases q1
     exact⟨z1,z2,z3,_,es,q2,z4⟩
   .rw[jk z]at e
    refine ji.stay (I.hok a o e) (λb u _ q=>q) (λb q=>?_) (λb xs q=>?_) (λb _ _ q=>?_)
    .rw[jk (out q)];exact q
    .rw[jk (out q)];exact q
    .rw[jk (out q)];exact q
  len:=I.len }
end
def Jo(X:Cx)(e:ai):TE:=λσ H Q=>∀pins s,Inv X pins σ H s->ao (ax X.prog X.w) X.A (ay e X.env) (EP X pins σ Q) X.xe s
def j6w(X:Cx)(e:ai):TT:=λσ H Q=>∀pins s,Inv X pins σ H s->ao (ax X.prog X.w) X.A (fG e X.env (ay e X.env)) (TP X pins σ Q) X.xe s
def Mx(X:Cx)(es:List ai):TA:=λσ H Q=>∀pos pins s,Inv X pins σ H s->ao (ax X.prog X.w) X.A (kE (aK pos (a7 es X.env))) (AP X pins σ Q) X.xe s
def j6x(X:Cx)(st:aS):TS:=λD σ H=>∀pins s,Inv X pins σ H s->ao (ax X.prog X.w) X.A (exec st X.env) (SP X pins D) X.xe s
def Zz(X:Cx)(sts:List aS):TS:=λD σ H=>∀pins s,Inv X pins σ H s->ao (ax X.prog X.w) X.A (execs sts X.env) (SP X pins D) X.xe s
def Ip(X:Cx)(tg iter:ai):TI:=λσ H R=>∀pins s,Inv X pins σ H s ->
 ao (ax X.prog X.w) X.A (ay iter X.env) (λv s1=>ao (ax X.prog X.w) X.A (j3 v) (PIE X pins σ tg R) X.xe s1) X.xe s
section
variable{X:Cx}{e tg:ai}{es:List ai}{st:aS}{sts:List aS}{σ:St}{H:Hp}
theorem peS:PE X e (Jo X e):=λpins s _ _ _ I h=>h pins s I
theorem ptS:PT X e (j6w X e):=λpins s _ _ _ I h=>h pins s I
theorem paS:PA X es (Mx X es):=λpos pins s _ _ _ I h=>h pos pins s I
theorem psS:PS X st (j6x X st):=λpins s _ _ _ I h=>h pins s I
theorem Qn:PSs X sts (Zz X sts):=λpins s _ _ _ I h=>h pins s I
theorem piS:PI X tg e (Ip X tg e):=λpins s _ _ _ I h=>h pins s I
theorem PE.to{t:TE}(h:PE X e t){Q:VK}(q:t σ H Q):Jo X e σ H Q:=λpins s I=>h pins s σ H Q I q
theorem PT.to{t:TT}(h:PT X e t){Q:Bool->Hp->Prop}(q:t σ H Q):j6w X e σ H Q:=λpins s I=>h pins s σ H Q I q
theorem PA.to{t:TA}(h:PA X es t){Q:List V->Hp->Prop}(q:t σ H Q):Mx X es σ H Q:=λpos pins s I=>h pos pins s σ H Q I q
theorem PS.to{t:TS}(h:PS X st t){D:Ends}(q:t D σ H):j6x X st D σ H:=λpins s I=>h pins s σ H D I q
theorem PSs.to{t:TS}(h:PSs X sts t){D:Ends}(q:t D σ H):Zz X sts D σ H:=λpins s I=>h pins s σ H D I q
theorem PI.to{t:TI}(h:PI X tg e t){R:It->Hp->Prop}(q:t σ H R):Ip X tg e σ H R:=λpins s I=>h pins s σ H R I q
theorem j2z{A:List aa}{Q Q':VK}(hA:∀a∈A,Hd (H a))(h:Jo X e σ (del H A) Q')(hq:∀v F,Q' v F->(∀a∈A,F a=a6)->Q v (mrg A H F)):Jo X e σ H Q :=
 λpins s I=>thn (h _ s (I.hide hA)) λv s' ⟨x,F,I',r,q⟩=>let ⟨n,I2⟩:=I.unhide hA I';⟨x,_,I2,r,hq x F q n⟩
theorem j2y{A:List aa}{R R':It->Hp->Prop}(hA:∀a∈A,Hd (H a))(h:Ip X tg e σ (del H A) R')(hq:∀J F,R' J F->(∀a∈A,F a=a6)->R J (mrg A H F)):Ip X tg e σ H R :=
 λpins s I=>thn (h _ s (I.hide hA)) λv s' h1=>thn h1 λitv s2 ⟨it,fp,tn,J,F,e,I',T,t0,fk,q⟩=>by
  obtain⟨n,I2⟩:=I.unhide hA I';refine⟨it,fp,tn,J,_,e,I2,T,t0,λb hb=>?_,hq J F q n⟩;obtain⟨f0,f1,f2,f3,f4,f5⟩:=fk b hb;refine⟨?_,f1,f2,f3,f4,λp hp=>f5 p (by rw[<-Ti];exact P0 _ hp)⟩;by_cases z:b∈A
  .exfalso;have ob:∃o,s.heap.get? b=a3 o:=by
    rcases hA b z with ⟨xs,e⟩|⟨xs,ep,e⟩
    .obtain⟨_,its,n,_,q⟩:=(show ji X.prog X.w H s.heap b (.lst xs)from I.hok _ _ e)
     exact⟨_,q⟩
    .obtain⟨_,_,_,o,es,q,_⟩:=(show ji X.prog X.w H s.heap b (.dI xs ep)from I.hok _ _ e)
     exact⟨_,q⟩
   obtain⟨o,q⟩:=ob;exact f5 (b,o) (Xd _ (Xd _ (Qh z q))) rfl
  .rw[jk z];exact f0
end
inductive Sl where
 |un
 |val (d:D)
 |own (a:aa) (ds:List D)
 |raw (a:aa) (o:cC) (x:af)
noncomputable abbrev Rho:=List Sl
noncomputable def Sl.addr:Sl->Option aa
 |.own a _=>a3 a
 |_=>a6
noncomputable def owns(ρ:Rho):List aa:=ρ.filterMap Sl.addr
theorem Q6{ρ:Rho}{i:Nat}{a:aa}{ds:List D}(h:ρ[i]?=a3 (.own a ds)):a∈owns ρ:=t6.mpr ⟨_,Xl h,rfl⟩
theorem V3{ρ:Rho}{a:aa}(h:a∈owns ρ):∃(i:Nat)(ds:List D),ρ[i]?=a3 (.own a ds):=by
 obtain⟨s,hs,e⟩:=t6.mp h;obtain⟨i,hi⟩:=List.mem_iff_getElem?.mp hs;cases s with
 |own b ds=>cases e;exact⟨i,ds,hi⟩
 |un=>cases e
 |val d=>cases e
 |raw b o x=>cases e
theorem jm(s:Sl)(ρ:Rho):owns (s::ρ)=(match s.addr with|some a=>a::owns ρ|none=>owns ρ):=by unfold owns;rw[bU];cases s.addr<;>rfl
theorem jf{s:Sl}(hs:s.addr=a6):∀{ρ:Rho}{i:Nat},(owns (ρ.set i s)).Sublist (owns ρ)
 |[],_=>cA _
 |x::r,0=>by
  rw[t7,jm,jm,hs];cases x.addr with
  |none=>exact cA _
  |some a=>exact List.sublist_cons_self _ _
 |x::r,i+1=>by
  rw[Pn,jm,jm];have ih:=jf hs (ρ:=r) (i:=i);cases x.addr with
  |none=>exact ih
  |some a=>exact ih.cons_cons a
theorem Vd{a:aa}{ds ds':List D}:∀{ρ:Rho}{i:Nat},ρ[i]?=a3 (.own a ds)->owns (ρ.set i (.own a ds'))=owns ρ
 |[],_,h=>by simp at h
 |x::r,0,h=>by simp at h;subst h;rw[t7,jm,jm];rfl
 |x::r,i+1,h=>by simp at h;rw[Pn,jm,jm,Vd h]
theorem Mg{s:Sl}(hs:s.addr=a6):∀{ρ:Rho}{i:Nat},(∀a l,ρ[i]?≠a3 (.own a l))->owns (ρ.set i s)=owns ρ
 |[],_,_=>rfl
 |x::r,0,h=>by
  rw[t7,jm,jm,hs];cases x with
  |own a l=>exact absurd rfl (h a l)
  |un=>rfl
  |val d=>rfl
  |raw a o x=>rfl
 |x::r,i+1,h=>by rw[Pn,jm,jm,Mg hs (λa l=>by simpa using h a l)]
theorem Jf{a:aa}{ds:List D}:∀{ρ:Rho}{i:Nat},(owns ρ).Nodup->a∉owns ρ->(owns (ρ.set i (.own a ds))).Nodup/\∀b∈owns (ρ.set i (.own a ds)),b=a\/b∈owns ρ
 |[],_,n,_=>⟨n,λb hb=>.inr hb⟩
 |x::r,0,n,h=>by
  rw[t7,jm];rw[jm]at n h;have e:(Sl.own a ds).addr=a3 a:=rfl;rw[e];cases q:x.addr with
  |none =>rw[q]at n h;exact⟨Xo.mpr ⟨h,n⟩,λb hb=>(xn.mp hb).elim .inl λz=>.inr (by rw[jm,q];exact z)⟩
  |some c =>rw[q]at n h;exact⟨Xo.mpr ⟨λz=>h (km _ z),(Xo.mp n).2⟩,λb hb=>(xn.mp hb).elim .inl λz=>.inr (by rw[jm,q];exact km _ z)⟩
 |x::r,i+1,n,h=>by
  rw[Pn,jm];rw[jm]at n h;cases q:x.addr with
  |none =>rw[q]at n h;obtain⟨i1,i2⟩:=Jf (ds:=ds) (i:=i) n h;exact⟨i1,λb hb=>(i2 b hb).elim .inl λz=>.inr (by rw[jm,q];exact z)⟩
  |some c =>
   rw[q]at n h;obtain⟨n1,n2⟩:=Xo.mp n;obtain⟨i1,i2⟩:=Jf (ds:=ds) (i:=i) n2 (λz=>h (km _ z));refine⟨Xo.mpr ⟨λz=>?_,i1⟩,λb hb=>?_⟩
   .rcases i2 c z with e|z
    .subst e;exact h (xm ..)
    .exact n1 z
   .rcases xn.mp hb with e|z
    .exact .inr (by rw[jm,q];exact e▸xm ..)
    .exact(i2 b z).elim .inl λz=>.inr (by rw[jm,q];exact km _ z)
theorem Y5{a:aa}{l l':List D}:∀{ρ:Rho}{i j:Nat},(owns ρ).Nodup->ρ[i]?=a3 (.own a l)->ρ[j]?=a3 (.own a l')->i=j
 |[],i,_,_,h,_=>by simp at h
 |x::r,0,0,_,_,_=>rfl
 |x::r,0,j+1,n,h,h'=>by simp at h h';subst h;rw[jm]at n;exact absurd (Q6 h') (Xo.mp n).1
 |x::r,i+1,0,n,h,h'=>by simp at h h';subst h';rw[jm]at n;exact absurd (Q6 h) (Xo.mp n).1
 |x::r,i+1,j+1,n,h,h'=>by
  simp at h h';have n':(owns r).Nodup:=by
   rw[jm]at n;cases q:x.addr with
   |none=>rw[q]at n;exact n
   |some c=>rw[q]at n;exact(Xo.mp n).2
  rw[Y5 n' h h']
noncomputable def Z9:List af:=["worst_cost_of_ask","least_numbers","whole_cost_of_ask","round_numbers"]
def TabOk(K:k90)(H:Hp):Prop:=∀x∈Z9,∀c P,W.tabIn K x=a3 (c,P)->H P=a3 (.cod (q8 x))
section
variable{K:k90}{H H':Hp}
theorem TabOk.mono(h:TabOk K H)(g:j0 H H'):TabOk K H':=λx hx c P e=>g _ _ (h x hx c P e)
theorem TabOk.upd{a:aa}{o u:HO}(h:TabOk K H)(e:H a=a3 u)(n:∀q,u≠.cod q):TabOk K (upd H a o):=λx hx c P z=>by have q:=h x hx c P z;rw[je];exact q;intro y;subst y;rw[e]at q;exact n _ (aw q)
theorem TabOk.del{A:List aa}(h:TabOk K H)(hA:∀a∈A,∃xs,H a=a3 (.lst xs)):TabOk K (del H A):=λx hx c P z=>by have q:=h x hx c P z;rw[j6];exact q;intro y;obtain⟨xs,e⟩:=hA _ y;rw[q]at e;cases e
end
structure Rep(K:k90)(ρ:Rho)(σ:St)(H:Hp):Prop where
 len:σ.length=ρ.length
 val:∀(i:Nat)(d:D),ρ[i]?=a3 (.val d)->∃v,σ[i]?=a3 (a3 v)/\Enc K (del H (owns ρ)) d v
 own:∀(i:Nat)(a:aa)(ds:List D),ρ[i]?=a3 (.own a ds)->σ[i]?=a3 (a3 (.ref a))/\∃xs,H a=a3 (.lst xs)/\j5 K (del H (owns ρ)) ds xs
 nd:(owns ρ).Nodup
 raw:∀(i:Nat)(a:aa)(o:cC)(x:af),ρ[i]?=a3 (.raw a o x)->σ[i]?=a3 (a3 (.ref a))/\del H (owns ρ) a=a3 (.frz o (.own a))/\W.nsIn K ak x=a3 (a3 o.cls)
 tb:TabOk K H
section
variable{K:k90}{ρ ρ':Rho}{σ:St}{H H':Hp}{i:Nat}{d:D}{v:V}{a:aa}{ds ds':List D}{xs:List V}
theorem Rep.owned(R:Rep K ρ σ H):∀a∈owns ρ,∃xs,H a=a3 (.lst xs):=λa h=>by obtain⟨i,ds,e⟩:=V3 h;obtain⟨_,xs,q,_⟩:=R.own i a ds e;exact⟨xs,q⟩
theorem Rep.fresh(R:Rep K ρ σ H)(h:H a=a6):a∉owns ρ:=λz=>by obtain⟨xs,e⟩:=R.owned a z;rw[h]at e;cases e
theorem Rep.grow(R:Rep K ρ σ H)(g:j0 H H'):Rep K ρ σ H' :=
 ⟨R.len,λi d e=>let ⟨v,q,h⟩:=R.val i d e;⟨v,q,h.mono (jj g)⟩,λi a ds e=>let ⟨q,xs,h,l⟩:=R.own i a ds e;⟨q,xs,g _ _ h,l.mono (jj g)⟩,R.nd,λi a o x e=>let ⟨q,h,z⟩:=R.raw i a o x e;⟨q,jj g _ _ h,z⟩,R.tb.mono g⟩
theorem getElem?_set_of{α:Type}{l:List α}{i j:Nat}{x y:α}(h:(l.set i x)[j]?=a3 y):(i=j/\y=x/\i<l.length)\/(i≠j/\l[j]?=a3 y):=by
 rw[d5]at h;split at h
 .rename_i e;subst e;split at h
  .rename_i z;cases h;exact .inl ⟨rfl,rfl,z⟩
  .cases h
 .rename_i e;exact .inr ⟨e,h⟩
theorem V8{α:Type}{l:List α}{i:Nat}{x:α}(h:i<l.length):(l.set i x)[i]?=a3 x:=by simp[h]
theorem qe{α:Type}{l:List α}{i j:Nat}{x:α}(h:i≠j):(l.set i x)[j]?=l[j]?:=by simp[h]
theorem Rep.set_val(R:Rep K ρ σ H)(e:Enc K (del H (owns ρ)) d v):Rep K (ρ.set i (.val d)) (σ.set i (a3 v)) H:=by
 have sub:(owns (ρ.set i (.val d))).Sublist (owns ρ):=jf rfl;have g:j0 (del H (owns ρ)) (del H (owns (ρ.set i (.val d)))):=v5 λb hb=>sub.subset hb;refine⟨by simp[R.len],λj d' h=>?_,λj a ds h=>?_,sub.nodup R.nd,λj a o x h=>?_,R.tb⟩
 .rcases getElem?_set_of h with ⟨rfl,z,hl⟩|⟨n,h⟩
  .cases z;exact⟨v,V8 (by rw[R.len];exact hl),e.mono g⟩
  .obtain⟨u,q,h⟩:=R.val j d' h;exact⟨u,by rw[qe n];exact q,h.mono g⟩
 .rcases getElem?_set_of h with ⟨rfl,z,_⟩|⟨n,h⟩
  .cases z
  .obtain⟨q,xs,h,l⟩:=R.own j a ds h;exact⟨by rw[qe n];exact q,xs,h,l.mono g⟩
 .rcases getElem?_set_of h with ⟨rfl,z,_⟩|⟨n,h⟩
  .cases z
  .obtain⟨q,h,z⟩:=R.raw j a o x h;exact⟨by rw[qe n];exact q,g _ _ h,z⟩
theorem Rep.set_un{v:Option V}(R:Rep K ρ σ H):Rep K (ρ.set i .un) (σ.set i v) H:=by
 have sub:(owns (ρ.set i .un)).Sublist (owns ρ):=jf rfl;have g:j0 (del H (owns ρ)) (del H (owns (ρ.set i .un))):=v5 λb hb=>sub.subset hb;refine⟨by simp[R.len],λj d' h=>?_,λj a ds h=>?_,sub.nodup R.nd,λj a o x h=>?_,R.tb⟩
 .rcases getElem?_set_of h with ⟨rfl,z,hl⟩|⟨n,h⟩
  .cases z
  .obtain⟨u,q,h⟩:=R.val j d' h;exact⟨u,by rw[qe n];exact q,h.mono g⟩
 .rcases getElem?_set_of h with ⟨rfl,z,_⟩|⟨n,h⟩
  .cases z
  .obtain⟨q,xs,h,l⟩:=R.own j a ds h;exact⟨by rw[qe n];exact q,xs,h,l.mono g⟩
 .rcases getElem?_set_of h with ⟨rfl,z,_⟩|⟨n,h⟩
  .cases z
  .obtain⟨q,h,z⟩:=R.raw j a o x h;exact⟨by rw[qe n];exact q,g _ _ h,z⟩
theorem Rep.set_own(R:Rep K ρ σ H)(g:j0 H H')(ha:H a=a6)(e:H' a=a3 (.lst xs))(l:j5 K (del H' (a::owns ρ)) ds xs):Rep K (ρ.set i (.own a ds)) (σ.set i (a3 (.ref a))) H':=by
 have na:=R.fresh ha;obtain⟨nd,sub⟩:=Jf (ds:=ds) (i:=i) R.nd na;have g1:j0 (del H' (a::owns ρ)) (del H' (owns (ρ.set i (.own a ds)))):=v5 λb hb=>by
  rcases sub b hb with e|z
  .exact e▸xm ..
  .exact km _ z
 have g2:j0 (del H (owns ρ)) (del H' (a::owns ρ)):=λb o q=>by
  obtain⟨n,q⟩:=of_del q;rw[j6];exact g b o q;intro z;rcases xn.mp z with e|z
  .subst e;rw[ha]at q;cases q
  .exact n z
 refine⟨by simp[R.len],λj d' h=>?_,λj b ds' h=>?_,nd,λj b o x h=>?_,R.tb.mono g⟩
 .rcases getElem?_set_of h with ⟨rfl,z,hl⟩|⟨n,h⟩
  .cases z
  .obtain⟨u,q,h⟩:=R.val j d' h;exact⟨u,by rw[qe n];exact q,h.mono (g2.trans g1)⟩
 .rcases getElem?_set_of h with ⟨rfl,z,hl⟩|⟨n,h⟩
  .cases z;exact⟨V8 (by rw[R.len];exact hl),xs,e,l.mono g1⟩
  .obtain⟨q,ys,h,l⟩:=R.own j b ds' h;exact⟨by rw[qe n];exact q,ys,g _ _ h,l.mono (g2.trans g1)⟩
 .rcases getElem?_set_of h with ⟨rfl,z,hl⟩|⟨n,h⟩
  .cases z
  .obtain⟨q,h,z⟩:=R.raw j b o x h;exact⟨by rw[qe n];exact q,g1 _ _ (g2 _ _ h),z⟩
theorem Rep.upd_own(R:Rep K ρ σ H)(h:ρ[i]?=a3 (.own a ds))(l:j5 K (del H (owns ρ)) ds' xs):Rep K (ρ.set i (.own a ds')) σ (upd H a (.lst xs)):=by
 have eo:owns (ρ.set i (.own a ds'))=owns ρ:=Vd h;have ed:del (upd H a (.lst xs)) (owns ρ)=del H (owns ρ):=Ua (Q6 h);refine⟨by simp[R.len],λj d' q=>?_,λj b l' q=>?_,by rw[eo];exact R.nd,λj b o x q=>?_,let ⟨_,_,z,_⟩:=R.own i a ds h;R.tb.upd z λ_ y=>by cases y⟩
 .rw[eo,ed];rcases getElem?_set_of q with ⟨_,z,_⟩|⟨n,q⟩
  .cases z
  .exact R.val j d' q
 .rw[eo,ed];rcases getElem?_set_of q with ⟨rfl,z,_⟩|⟨n,q'⟩
  .cases z;exact⟨(R.own i a ds h).1,xs,jc,l⟩
  .obtain⟨z,ys,y,l''⟩:=R.own j b l' q';refine⟨z,ys,?_,l''⟩;have nb:b≠a:=λe=>n (Y5 R.nd h (e▸q'));rw[je nb];exact y
 .rw[eo,ed];rcases getElem?_set_of q with ⟨_,z,_⟩|⟨n,q⟩
  .cases z
  .exact R.raw j b o x q
theorem Rep.freeze(R:Rep K ρ σ H)(h:ρ[i]?=a3 (.own a ds)):Rep K (ρ.set i (.val (.lst ds))) σ H:=by
 obtain⟨hs,xs,hx,l⟩:=R.own i a ds h;have sub:(owns (ρ.set i (.val (.lst ds)))).Sublist (owns ρ):=jf rfl;have g:j0 (del H (owns ρ)) (del H (owns (ρ.set i (.val (.lst ds))))):=v5 λb hb=>sub.subset hb;have na:a∉owns (ρ.set i (.val (.lst ds))):=λz=>by
  obtain⟨j,l',q⟩:=V3 z;rcases getElem?_set_of q with ⟨_,z,_⟩|⟨n,q⟩
  .cases z
  .exact n (Y5 R.nd h q)
 refine⟨by simp[R.len],λj d' q=>?_,λj b l' q=>?_,sub.nodup R.nd,λj b o x q=>?_,R.tb⟩
 .rcases getElem?_set_of q with ⟨rfl,z,_⟩|⟨n,q⟩
  .cases z;exact⟨_,hs,a,xs,rfl,.inl (.inl (by rw[j6 na];exact hx)),l.mono g⟩
  .obtain⟨u,q,h⟩:=R.val j d' q;exact⟨u,q,h.mono g⟩
 .rcases getElem?_set_of q with ⟨rfl,z,_⟩|⟨n,q⟩
  .cases z
  .obtain⟨q,ys,h,l⟩:=R.own j b l' q;exact⟨q,ys,h,l.mono g⟩
 .rcases getElem?_set_of q with ⟨_,z,_⟩|⟨n,q⟩
  .cases z
  .obtain⟨q,h,z⟩:=R.raw j b o x q;exact⟨q,g _ _ h,z⟩
end
def DE(X:Cx)(ρ:Rho)(e:ai)(d:D):Prop:=∀σ H Q,Rep X.K ρ σ H->(∀v H',j0 H H'->Enc X.K (del H' (owns ρ)) d v->Q v H')->Jo X e σ H Q
def DT(X:Cx)(ρ:Rho)(e:ai)(d:D):Prop:=∀σ H Q,Rep X.K ρ σ H->(∀v H',j0 H H'->Enc X.K H' d v->Q v H')->Jo X e σ H Q
def DO(X:Cx)(ρ:Rho)(e:ai)(ds:List D):Prop:=∀σ H Q,Rep X.K ρ σ H->(∀a xs H',j0 H H'->H a=a6->H' a=a3 (.lst xs)->j5 X.K (del H' (a::owns ρ)) ds xs->Q (.ref a) H')->Jo X e σ H Q
def DL(X:Cx)(ρ:Rho)(e:ai)(ds:List D):Prop:=∀σ H Q,Rep X.K ρ σ H->(∀a xs H',j0 H H'->H' a=a3 (.lst xs)->j5 X.K (del H' (owns ρ)) ds xs->Q (.ref a) H')->Jo X e σ H Q
def DB(X:Cx)(ρ:Rho)(e:ai)(b:Bool):Prop:=∀σ H Q,Rep X.K ρ σ H->(∀H',j0 H H'->Q b H')->j6w X e σ H Q
def DA(X:Cx)(ρ:Rho)(es:List ai)(ds:List D):Prop:=∀σ H Q,Rep X.K ρ σ H->(∀vs H',j0 H H'->j5 X.K (del H' (owns ρ)) ds vs->Q vs H')->Mx X es σ H Q
def DTA(X:Cx)(ρ:Rho)(es:List ai)(ds:List D):Prop:=∀σ H Q,Rep X.K ρ σ H->(∀vs H',j0 H H'->j5 X.K H' ds vs->Q vs H')->Mx X es σ H Q
def j6v(X:Cx)(e:ai):TT:=λσ H Q=>∀whole pins s,Inv X pins σ H s->ao (ax X.prog X.w) X.A (fG e X.env whole) (TP X pins σ Q) X.xe s
theorem pwS{X:Cx}{e:ai}:PW X e (j6v X e):=λwhole pins s _ _ _ I h=>h whole pins s I
theorem PW.to{X:Cx}{e:ai}{t:TT}{σ:St}{H:Hp}(h:PW X e t){Q:Bool->Hp->Prop}(q:t σ H Q):j6v X e σ H Q:=λwhole pins s I=>h whole pins s σ H Q I q
def DW(X:Cx)(ρ:Rho)(e:ai)(b:Bool):Prop:=∀σ H Q,Rep X.K ρ σ H->(∀H',j0 H H'->Q b H')->j6v X e σ H Q
mutual
noncomputable def vf:D->Bool
 |.lst _=>a4
 |.dct _ _=>a4
 |.sct _=>a4
 |.fn _ _=>a4
 |.tup ds=>jn ds
 |_=>a5
noncomputable def jn:List D->Bool
 |[]=>a5
 |d::ds=>vf d&&jn ds
end
mutual
theorem Enc.hide{K:k90}{H:Hp}{A:List aa}(hA:∀a∈A,Hd (H a)):∀{d:D}{v:V},vf d=a5->Enc K H d v->Enc K (del H A) d v
 |.non,_,_,h=>h
 |.bl _,_,_,h=>h
 |.int _,_,_,h=>h
 |.str _,_,_,h=>h
 |.lst _,_,n,_=>by cases n
 |.dct _ _,_,n,_=>by cases n
 |.sct _,_,n,_=>by cases n
 |.fn _ _,_,n,_=>by cases n
 |.tup ds,_,n,⟨a,xs,e,q,l⟩=>by
  refine⟨a,xs,e,?_,j5.hide hA (by simpa [vf]using n) l⟩;have out:∀{o:HO},H a=a3 o->(∀ys,o≠.lst ys)->(∀ys ep,o≠.dI ys ep)->del H A a=a3 o:=λ{o} h z z2=>by
   rw[j6];exact h;intro y;rcases hA a y with ⟨ys,e'⟩|⟨ys,ep,e'⟩
   .rw[h]at e';cases e';exact z ys rfl
   .rw[h]at e';cases e';exact z2 ys ep rfl
  rcases q with (q|⟨o,q⟩)|q
  .exact .inl (.inl (out q (λ_ z=>by cases z) λ_ _ z=>by cases z))
  .exact .inl (.inr ⟨o,out q (λ_ z=>by cases z) λ_ _ z=>by cases z⟩)
  .exact .inr q
theorem j5.hide{K:k90}{H:Hp}{A:List aa}(hA:∀a∈A,Hd (H a)):∀{ds:List D}{xs:List V},jn ds=a5->j5 K H ds xs->j5 K (del H A) ds xs
 |[],_,_,h=>h
 |d::ds,_,n,⟨x,r,e,h,l⟩=>by
  have n':vf d=a5/\jn ds=a5:=by simpa [jn]using n
  exact⟨x,r,e,Enc.hide hA n'.1 h,j5.hide hA n'.2 l⟩
end
section
variable{X:Cx}{ρ:Rho}{e a b c:ai}{es:List ai}{d da db:D}{ds ds':List D}{i j:Int}{pos:aJ}{k:Nat}{x:af}
theorem DE.toT(h:DE X ρ e d):DT X ρ e d:=λσ H Q R q=>h σ H Q R λv H' g l=>q v H' g (l.mono jq)
theorem DT.toE(h:DT X ρ e d)(n:vf d=a5:=by rfl):DE X ρ e d:=λσ H Q R q=>h σ H Q R λv H' g l=>q v H' g (l.hide (λa ha=>.inl ((R.grow g).owned a ha)) n)
theorem DO.toL(h:DO X ρ e ds):DL X ρ e ds:=λσ H Q R q=>h σ H Q R λa xs H' g n m l=>q a xs H' g m (l.mono (v5 λb hb=>km _ hb))
theorem DO.toE(h:DO X ρ e ds):DE X ρ e (.lst ds):=λσ H Q R q=>h σ H Q R λa xs H' g n m l =>q _ H' g ⟨a,xs,rfl,.inl (.inl (by rw[j6 (R.fresh n)];exact m)),l.mono (v5 λb hb=>km _ hb)⟩
theorem DL.toT(h:DL X ρ e ds):DT X ρ e (.lst ds):=λσ H Q R q=>h σ H Q R λa xs H' g m l=>q _ H' g ⟨a,xs,rfl,.inl (.inl m),l.mono jq⟩
theorem DW.toB{k:Bool}(h:DW X ρ e k):DB X ρ e k:=λσ H Q R q pins s I=>h σ H Q R q _ pins s I
theorem DE.eq(h:DE X ρ e d){d':D}(q:d=d'):DE X ρ e d':=q▸h
theorem DB.eq{b b':Bool}(h:DB X ρ e b)(q:b=b'):DB X ρ e b':=q▸h
end
section
variable{X:Cx}{ρ:Rho}{e a b c:ai}{es:List ai}{d da db:D}{ds ds':List D}{i j:Int}{pos p:aJ}{k:Nat}{x:af}
theorem DE.var(k:Nat)(h:ρ[k]?=a3 (.val d))(hN:X.N[k]?=a3 x:=by rfl)(hv:Vis X.env.scope x:=by first|exact aQ rfl|exact bf (aQ rfl)|exact bf (bf rfl))
  (hd:(x==k94)=a4:=by decide) (hcd:(x==k95)=a4:=by decide):DE X ρ (.Name x pos) d:=λσ H Q R q=>by
 obtain⟨v,hs,en⟩:=R.val k d h;exact(J4 hN hv hd hcd).to ⟨v,hs,q v H (j0.refl H) en⟩
theorem DL.var(k:Nat){l:aa}(h:ρ[k]?=a3 (.own l ds))(hN:X.N[k]?=a3 x:=by rfl)(hv:Vis X.env.scope x:=by first|exact aQ rfl|exact bf (aQ rfl)|exact bf (bf rfl))
  (hd:(x==k94)=a4:=by decide) (hcd:(x==k95)=a4:=by decide):DL X ρ (.Name x pos) ds:=λσ H Q R q=>by
 obtain⟨hs,xs,m,en⟩:=R.own k l ds h;exact(J4 hN hv hd hcd).to ⟨_,hs,q l xs H (j0.refl H) m en⟩
theorem DE.glob {u:a9} {v:V} (hg:Gl X x) (hm:X.mg x=a3 u) (r:RelV v u) (h:∀H,Enc X.K H d v) (hd:(x==k94)=a4:=by decide):DE X ρ (.Name x pos) d :=
 λσ H Q R q=>(Ro hg hm r hd).to (q v H (j0.refl H) (h _))
theorem DE.int{i:Int}{n:Nat}{pos:aJ}:DE X ρ (.Constant (.int i) n pos) (.int i):=λσ H Q R q=>je2.to (q _ H (j0.refl H) rfl)
theorem DE.bl{b:Bool}{n:Nat}:DE X ρ (.Constant (.bool b) n pos) (.bl b):=λσ H Q R q=>jhx.to (q _ H (j0.refl H) rfl)
theorem DE.non{n:Nat}:DE X ρ (.Constant .none n pos) .non:=λσ H Q R q=>Ej.to (q _ H (j0.refl H) rfl)
theorem DE.str{y:af}{n:Nat}:DE X ρ (.Constant (.str y) n pos) (.str y):=λσ H Q R q=>j4t.to (q _ H (j0.refl H) rfl)
theorem DE.arI0{op:jS}{g:Int->Int->Int}(ho:OpR X (b0 op) (rI0 λi j=>.int (g i j)))(ha:DT X ρ a (.int i))(hb:DT X ρ b (.int j)):DE X ρ (.BinOp a op b pos) (.int (g i j)):=λσ H Q R q =>(Yq ho peS peS).to (ha σ H _ R λv H1 g1 e1=>hb σ H1 _ (R.grow g1) λu H2 g2 e2=>⟨i,j,e1,e2,q _ H2 (g1.trans g2) rfl⟩)
theorem DE.arI{op:jS}{C:Int->Int->Prop}{g:Int->Int->Int}(ho:OpR X (b0 op) (rI C λi j=>.int (g i j)))(ha:DT X ρ a (.int i))(hb:DT X ρ b (.int j))(hC:C i j):DE X ρ (.BinOp a op b pos) (.int (g i j)):=λσ H Q R q =>(Yq ho peS peS).to (ha σ H _ R λv H1 g1 e1=>hb σ H1 _ (R.grow g1) λu H2 g2 e2=>⟨i,j,e1,e2,hC,q _ H2 (g1.trans g2) rfl⟩)
theorem DE.add(ha:DT X ρ a (.int i))(hb:DT X ρ b (.int j)):DE X ρ (.BinOp a .Add b pos) (.int (i+j)):=DE.arI0 jee ha hb
theorem DE.sub(ha:DT X ρ a (.int i))(hb:DT X ρ b (.int j)):DE X ρ (.BinOp a .Sub b pos) (.int (i-j)):=DE.arI0 je6 ha hb
theorem DE.mul(ha:DT X ρ a (.int i))(hb:DT X ρ b (.int j))(h:j40 i j):DE X ρ (.BinOp a .Mult b pos) (.int (i*j)):=DE.arI jeb ha hb h
theorem DE.mod(ha:DT X ρ a (.int i))(hb:DT X ρ b (.int j))(h:0<j):DE X ρ (.BinOp a .Mod b pos) (.int (i%j)):=DE.arI jec ha hb h
theorem DE.pow(ha:DT X ρ a (.int i))(hb:DT X ρ b (.int j))(h:j3z i j):DE X ρ (.BinOp a .Pow b pos) (.int (i^j.toNat)):=DE.arI jea ha hb h
theorem DE.shl(ha:DT X ρ a (.int i))(hb:DT X ρ b (.int j))(h:j3z i j):DE X ρ (.BinOp a .LShift b pos) (.int (i*2^j.toNat)):=DE.arI (g:=λi j=>i*2^j.toNat) je8 ha hb h
theorem DE.neg(ha:DT X ρ a (.int i)):DE X ρ (.UnaryOp .USub a pos) (.int (-i)):=λσ H Q R q =>(jhw jcw peS).to (ha σ H _ R λv H1 g1 e1=>⟨i,e1,q _ H1 g1 rfl⟩)
theorem DE.cmpI{op:jU}{g:Int->Int->Bool}(ho:OpR X (aP op) (rI0 λi j=>.bl (g i j)))(hm:aO op b=a4)(ha:DT X ρ a (.int i))(hb:DT X ρ b (.int j)):DE X ρ (.Compare a [op] [b] pos) (.bl (g i j)):=λσ H Q R q =>(Je ho peS peS hm).to (ha σ H _ R λv H1 g1 e1=>hb σ H1 _ (R.grow g1) λu H2 g2 e2=>⟨i,j,e1,e2,q _ H2 (g1.trans g2) rfl⟩)
theorem DB.cmpI{op:jU}{g:Int->Int->Bool}(ho:OpR X (aP op) (rI0 λi j=>.bl (g i j)))(hm:aO op b=a4)(ha:DT X ρ a (.int i))(hb:DT X ρ b (.int j)):DB X ρ (.Compare a [op] [b] pos) (g i j):=λσ H Q R q =>(Jd ho peS peS hm).to (ha σ H _ R λv H1 g1 e1=>hb σ H1 _ (R.grow g1) λu H2 g2 e2=>⟨i,j,e1,e2,_,rfl,q H2 (g1.trans g2)⟩)
theorem DB.lt(ha:DT X ρ a (.int i))(hb:DT X ρ b (.int j)):DB X ρ (.Compare a [.Lt] [b] pos) (decide (i<j)):=DB.cmpI Ka (zc _) ha hb
theorem DB.le(ha:DT X ρ a (.int i))(hb:DT X ρ b (.int j)):DB X ρ (.Compare a [.LtE] [b] pos) (decide (i<=j)):=DB.cmpI j9f (zc _) ha hb
theorem DB.gt(ha:DT X ρ a (.int i))(hb:DT X ρ b (.int j)):DB X ρ (.Compare a [.Gt] [b] pos) (decide (j<i)):=DB.cmpI j9g (zc _) ha hb
theorem DB.ge(ha:DT X ρ a (.int i))(hb:DT X ρ b (.int j)):DB X ρ (.Compare a [.GtE] [b] pos) (decide (j<=i)):=DB.cmpI j9h (zc _) ha hb
theorem DE.lt(ha:DT X ρ a (.int i))(hb:DT X ρ b (.int j)):DE X ρ (.Compare a [.Lt] [b] pos) (.bl (decide (i<j))):=DE.cmpI Ka (zc _) ha hb
theorem DE.le(ha:DT X ρ a (.int i))(hb:DT X ρ b (.int j)):DE X ρ (.Compare a [.LtE] [b] pos) (.bl (decide (i<=j))):=DE.cmpI j9f (zc _) ha hb
theorem DE.gt(ha:DT X ρ a (.int i))(hb:DT X ρ b (.int j)):DE X ρ (.Compare a [.Gt] [b] pos) (.bl (decide (j<i))):=DE.cmpI j9g (zc _) ha hb
theorem DE.ge(ha:DT X ρ a (.int i))(hb:DT X ρ b (.int j)):DE X ρ (.Compare a [.GtE] [b] pos) (.bl (decide (j<=i))):=DE.cmpI j9h (zc _) ha hb
noncomputable def D.sc:D->Option V
 |.non=>a3 .non
 |.bl b=>a3 (.bl b)
 |.int i=>a3 (.int i)
 |.str x=>a3 (.str x)
 |_=>a6
theorem D.sc_enc{K:k90}{H:Hp}{d:D}{u v:V}(h:d.sc=a3 u)(q:Enc K H d v):v=u:=by cases d<;>simp[D.sc]at h<;>subst h<;>exact q
theorem DE.eqS{u v:V}(ha:DT X ρ a da)(hb:DT X ρ b db)(h1:da.sc=a3 u:=by rfl)(h2:db.sc=a3 v:=by rfl)(h:Ny u v=a5:=by rfl):DE X ρ (.Compare a [.Eq] [b] pos) (.bl (decide (u=v))):=λσ H Q R q =>
 (Je j9i peS peS (zc _)).to (ha σ H _ R λx H1 g1 e1=>hb σ H1 _ (R.grow g1) λy H2 g2 e2=>by
  cases D.sc_enc h1 e1;cases D.sc_enc h2 e2;exact⟨h,q _ H2 (g1.trans g2) rfl⟩)
theorem DE.neS{u v:V}(ha:DT X ρ a da)(hb:DT X ρ b db)(h1:da.sc=a3 u:=by rfl)(h2:db.sc=a3 v:=by rfl)(h:Ny u v=a5:=by rfl):DE X ρ (.Compare a [.NotEq] [b] pos) (.bl (!decide (u=v))):=λσ H Q R q =>
 (Je j9e peS peS (zc _)).to (ha σ H _ R λx H1 g1 e1=>hb σ H1 _ (R.grow g1) λy H2 g2 e2=>by
  cases D.sc_enc h1 e1;cases D.sc_enc h2 e2;exact⟨h,q _ H2 (g1.trans g2) rfl⟩)
theorem DB.eqS{u v:V}(ha:DT X ρ a da)(hb:DT X ρ b db)(h1:da.sc=a3 u:=by rfl)(h2:db.sc=a3 v:=by rfl)(h:Ny u v=a5:=by rfl):DB X ρ (.Compare a [.Eq] [b] pos) (decide (u=v)):=λσ H Q R q =>
 (Jd j9i peS peS (zc _)).to (ha σ H _ R λx H1 g1 e1=>hb σ H1 _ (R.grow g1) λy H2 g2 e2=>by
  cases D.sc_enc h1 e1;cases D.sc_enc h2 e2;exact⟨h,_,rfl,q H2 (g1.trans g2)⟩)
theorem DB.neS{u v:V}(ha:DT X ρ a da)(hb:DT X ρ b db)(h1:da.sc=a3 u:=by rfl)(h2:db.sc=a3 v:=by rfl)(h:Ny u v=a5:=by rfl):DB X ρ (.Compare a [.NotEq] [b] pos) (!decide (u=v)):=λσ H Q R q =>
 (Jd j9e peS peS (zc _)).to (ha σ H _ R λx H1 g1 e1=>hb σ H1 _ (R.grow g1) λy H2 g2 e2=>by
  cases D.sc_enc h1 e1;cases D.sc_enc h2 e2;exact⟨h,_,rfl,q H2 (g1.trans g2)⟩)
theorem Uw(i j:Int):decide (V.int i=V.int j)=decide (i=j):=by
 by_cases h:i=j
 .subst h;simp
 .rw[decide_eq_false h,decide_eq_false (λz=>h (V.int.inj z))]
theorem j25(i j:Bool):decide (V.bl i=V.bl j)=(i==j):=by cases i<;>cases j<;>rfl
theorem j0f(i j:af):decide (V.str i=V.str j)=decide (i=j):=by
 by_cases h:i=j
 .subst h;simp
 .rw[decide_eq_false h,decide_eq_false (λz=>h (V.str.inj z))]
theorem DE.eqI(ha:DT X ρ a (.int i))(hb:DT X ρ b (.int j)):DE X ρ (.Compare a [.Eq] [b] pos) (.bl (decide (i=j))):=(DE.eqS ha hb).eq (by rw[Uw])
theorem DE.neI(ha:DT X ρ a (.int i))(hb:DT X ρ b (.int j)):DE X ρ (.Compare a [.NotEq] [b] pos) (.bl (!decide (i=j))):=(DE.neS ha hb).eq (by rw[Uw])
theorem DB.eqI(ha:DT X ρ a (.int i))(hb:DT X ρ b (.int j)):DB X ρ (.Compare a [.Eq] [b] pos) (decide (i=j)):=(DB.eqS ha hb).eq (by rw[Uw])
theorem DB.neI(ha:DT X ρ a (.int i))(hb:DT X ρ b (.int j)):DB X ρ (.Compare a [.NotEq] [b] pos) (!decide (i=j)):=(DB.neS ha hb).eq (by rw[Uw])
theorem DE.neB{x y:Bool}(ha:DT X ρ a (.bl x))(hb:DT X ρ b (.bl y)):DE X ρ (.Compare a [.NotEq] [b] pos) (.bl (x != y)):=(DE.neS ha hb).eq (by rw[j25];rfl)
theorem DB.neB{x y:Bool}(ha:DT X ρ a (.bl x))(hb:DT X ρ b (.bl y)):DB X ρ (.Compare a [.NotEq] [b] pos) (x != y):=(DB.neS ha hb).eq (by rw[j25];rfl)
noncomputable def D.isNon:D->Bool
 |.non=>a5
 |_=>a4
theorem Cp{K:k90}{H:Hp}{d:D}{v:V}(q:Enc K H d v):decide (v=V.non)=d.isNon:=by
 cases d with
 |non=>cases(show v=.non from q);rfl
 |bl b=>cases(show v=.bl b from q);rfl
 |int b=>cases(show v=.int b from q);rfl
 |str b=>cases(show v=.str b from q);rfl
 |tup l=>obtain⟨a,xs,e,_⟩:=q;subst e;rfl
 |lst l=>obtain⟨a,xs,e,_⟩:=q;subst e;rfl
 |dct ks l=>obtain⟨a,xs,ep,vs,e,_⟩:=q;subst e;rfl
 |sct k=>obtain⟨a,e,_⟩:=q;subst e;rfl
 |fn x l=>obtain⟨a,c,tx,cl,vs,e,_⟩:=q;subst e;rfl
theorem DB.val{k:Bool}(ha:DT X ρ a (.bl k))(he:∀whole,fG a X.env whole=(do let v <-whole;kD a.pos;kF [v] (truthy v)):=by intro _;rfl):DB X ρ a k:=λσ H Q R q =>(jdv peS he).to (ha σ H _ R λx H1 g1 e1=>⟨_,e1,q H1 g1⟩)
theorem DW.and1{k:Bool}(ha:DB X ρ a k):DW X ρ (.BoolOp .And [a] pos) k:=λσ H Q R q=>(jav ptS).to (ha σ H Q R q)
theorem DW.or1{k:Bool}(ha:DB X ρ a k):DW X ρ (.BoolOp .Or [a] pos) k:=λσ H Q R q=>(jdt ptS).to (ha σ H Q R q)
theorem DW.and{k m:Bool}{rest:List ai}(ha:DB X ρ a k)(hb:k=a5->DW X ρ (.BoolOp .And (b::rest) pos) m):DW X ρ (.BoolOp .And (a::b::rest) pos) (k&&m):=λσ H Q R q =>
 (jdu ptS pwS).to (ha σ H _ R λH1 g1=>by
  cases k with
  |false=>exact Fx (q H1 g1)
  |true=>exact Fw (hb rfl σ H1 Q (R.grow g1) λH2 g2=>q H2 (g1.trans g2)))
theorem DW.or{k m:Bool}{rest:List ai}(ha:DB X ρ a k)(hb:k=a4->DW X ρ (.BoolOp .Or (b::rest) pos) m):DW X ρ (.BoolOp .Or (a::b::rest) pos) (k || m):=λσ H Q R q =>
 (jhv ptS pwS).to (ha σ H _ R λH1 g1=>by
  cases k with
  |true=>exact Fw (q H1 g1)
  |false=>exact Fx (hb rfl σ H1 Q (R.grow g1) λH2 g2=>q H2 (g1.trans g2)))
theorem DB.not{k:Bool}(ha:DB X ρ a k):DB X ρ (.UnaryOp .Not a pos) (!k):=λσ H Q R q=>(jdw ptS).to (ha σ H _ R λH1 g1=>q H1 g1)
theorem DE.and{k m:Bool}{rest:List ai}(ha:DT X ρ a (.bl k))(hb:k=a5->DE X ρ (.BoolOp .And (b::rest) pos) (.bl m)):DE X ρ (.BoolOp .And (a::b::rest) pos) (.bl (k&&m)):=λσ H Q R q =>
 (je4 peS peS).to (ha σ H _ R λx H1 g1 e1=>⟨k,e1,by
  cases k with
  |false=>exact Fx (q _ H1 g1 rfl)
  |true=>exact Fw (hb rfl σ H1 Q (R.grow g1) λv H2 g2=>q v H2 (g1.trans g2))⟩)
theorem DE.ite{k:Bool}{d':D}(hc:DB X ρ c k)(ha:k=a5->DE X ρ a d)(hb:k=a4->DE X ρ b d'):DE X ρ (.IfExp c a b pos) (if k=a5 then d else d'):=λσ H Q R q =>
 (j7f ptS peS peS).to (hc σ H _ R λH1 g1=>by
  cases k with
  |true=>exact Fw (ha rfl σ H1 Q (R.grow g1) λv H2 g2 z=>q v H2 (g1.trans g2) (by rw[if_pos rfl];exact z))
  |false=>exact Fx (hb rfl σ H1 Q (R.grow g1) λv H2 g2 z=>q v H2 (g1.trans g2) (by rw[if_neg xg];exact z)))
theorem DA.nil:DA X ρ [] []:=λσ H Q R q=>jo.to (q [] H (j0.refl H) rfl)
theorem DA.cons(ha:DE X ρ a d)(hr:DA X ρ es ds)(hs:a7 (a::es) X.env=(a4,ay a X.env)::a7 es X.env:=by rfl):DA X ρ (a::es) (d::ds):=λσ H Q R q =>(jb peS paS hs).to (ha σ H _ R λv H1 g1 e1=>hr σ H1 _ (R.grow g1) λvs H2 g2 e2=>q _ H2 (g1.trans g2) ⟨v,vs,rfl,e1.mono (jj g2),e2⟩)
theorem DTA.nil:DTA X ρ [] []:=λσ H Q R q=>jo.to (q [] H (j0.refl H) rfl)
theorem DTA.cons(ha:DT X ρ a d)(hr:DTA X ρ es ds)(hs:a7 (a::es) X.env=(a4,ay a X.env)::a7 es X.env:=by rfl):DTA X ρ (a::es) (d::ds):=λσ H Q R q =>(jb peS paS hs).to (ha σ H _ R λv H1 g1 e1=>hr σ H1 _ (R.grow g1) λvs H2 g2 e2=>q _ H2 (g1.trans g2) ⟨v,vs,rfl,e1.mono g2,e2⟩)
theorem DE.tup{n:Nat}{x1}(h:DA X ρ es ds)(hl:ds.length<=aj:=by simp only[xq,Te];decide):DE X ρ (.Tuple es x1 pos) (.tup ds):=λσ H Q R q =>(j4s paS).to (h σ H _ R λvs H1 g1 e1=>⟨by rw[e1.length];exact hl,λp hp=>q _ _ (g1.trans (j7 hp)) ⟨p,vs,rfl,.inl (.inl (by rw[j6 ((R.grow g1).fresh hp)];exact jc)),e1.mono (jj (j7 hp))⟩⟩)
theorem DO.lst(h:DA X ρ es ds)(hl:ds.length<=aj:=by simp only[xq,Te];decide):DO X ρ (.List es pos) ds:=λσ H Q R q =>
 (je0 paS).to (h σ H _ R λvs H1 g1 e1=>⟨by rw[e1.length];exact hl,λp hp=>q p vs _ (g1.trans (j7 hp)) (g1.free hp) jc (e1.mono λb o z=>by
  obtain⟨n,z⟩:=of_del z
  rw[j6];exact j7 hp b o z
  intro y
  rcases xn.mp y with y|y
  .subst y;rw[hp]at z;cases z
  .exact n y)⟩)
theorem j5.atI{K:k90}{H:Hp}{xs:List V}(h:j5 K H ds xs)(q:atI ds i=a3 d):∃x,L2.atI xs i=a3 x/\Enc K H d x:=by
 unfold L2.atI at q ⊢;rw[h.length];cases z:ixN ds.length i with
 |none=>rw[z]at q;cases q
 |some k =>rw[z]at q;exact h.get q
noncomputable def cutD(ds:List D)(lo hi:Option Int):List D:=(ds.drop (HT.sIx ds.length 0 lo)).take (HT.sIx ds.length ds.length hi-HT.sIx ds.length 0 lo)
theorem j5.cut{K:k90}{H:Hp}{xs:List V}(h:j5 K H ds xs)(lo hi:Option Int):j5 K H (cutD ds lo hi) (Wy xs lo hi):=by unfold cutD Wy;rw[h.length];exact(h.drop _).take _
theorem Uu{K:k90}{H1:Hp}{A:List aa}{ds:List D}{xs:List V}{p:aa}{o:HO}(hp:H1 p=a6)(e1:j5 K (del H1 A) ds xs):j5 K (del (upd H1 p o) (p::A)) ds xs:=e1.mono λb o z=>by
 obtain⟨n,z⟩:=of_del z;rw[j6];exact j7 hp b o z;intro y;rcases xn.mp y with y|y
 .subst y;rw[hp]at z;cases z
 .exact n y
theorem DO.rep(ha:DL X ρ a ds)(hb:DT X ρ b (.int i))(h1:-(2^63)<=i)(h2:i<2^63)(hl:ds.length*i.toNat<=aj):DO X ρ (.BinOp a .Mult b pos) (aq i.toNat ds).flatten:=λσ H Q R q =>
 (Yq je9 peS peS).to (ha σ H _ R λl xs H1 g1 m1 e1=>hb σ H1 _ (R.grow g1) λu H2 g2 e2 =>
  ⟨l,i,xs,rfl,e2,g2 _ _ m1,h1,h2,by rw[e1.length];exact hl,λp hp=>q p _ _ ((g1.trans g2).trans (j7 hp)) ((g1.trans g2).free hp) jc (Uu hp ((e1.mono (jj g2)).rep _))⟩)
theorem DE.lenT (ha:DT X ρ a (.tup ds)) (hm:X.mg "len" = a6) (hg:Gl X "len":=by rfl) (hs:a7 [a] X.env=[(a4,ay a X.env)]:=by rfl) {p2:aJ}:DE X ρ (.Call (.Name "len" p2) [a] [] pos) (.int ds.length):=λσ H Q R q =>(zq R8 hg hm fU (jb peS jo hs) (by decide) (by decide) hs).to (ha σ H _ R λv H1 g1 ⟨l,xs,e,sq,en⟩=>⟨l,xs,by rw[e],.inr sq,q _ H1 g1 (by rw[en.length];rfl)⟩)
theorem DE.lenL (ha:DT X ρ a (.lst ds)) (hm:X.mg "len" = a6) (hg:Gl X "len":=by rfl) (hs:a7 [a] X.env=[(a4,ay a X.env)]:=by rfl) {p2:aJ}:DE X ρ (.Call (.Name "len" p2) [a] [] pos) (.int ds.length):=λσ H Q R q =>(zq R8 hg hm fU (jb peS jo hs) (by decide) (by decide) hs).to (ha σ H _ R λv H1 g1 ⟨l,xs,e,sq,en⟩=>⟨l,xs,by rw[e],.inl sq,q _ H1 g1 (by rw[en.length];rfl)⟩)
end
def framed(sp:Sp):Sp:=λvs H Q E=>∃A:List aa,(∀a∈A,∃xs,H a=a3 (.lst xs))/\sp vs (del H A) (λv F=>(∀a∈A,F a=a6)->Q v (mrg A H F)) E
theorem FnOk.framed{P:au}{w:aA}{K:k90}{mg:k93}{base:aD}{k:Nat}{f:aa}{fd:aN}{ps:List af}{sp:Sp}(F:FnOk P w K mg base CX0 k f fd ps sp) :
  FnOk P w K mg base CX0 k f fd ps (framed sp) where
 len:=λvs H Q E ⟨A,_,h⟩=>F.len vs _ _ _ h
 run:=by
  rintro A0 outer s H args us vs Q E hr e0 hb rv ⟨A,hA,h⟩;have nd:∀{b:aa},H b=a6->del H A b=a6:=λ{b} q=>by
   by_cases z:b∈A
   .exact qt z
   .rw[j6 z];exact q
  have out:∀{b:aa}{o:HO},H b=a3 o->(∀ys,o≠.lst ys)->del H A b=a3 o:=λ{b o} q z=>by rw[j6];exact q;intro y;obtain⟨ys,e'⟩:=hA b y;rw[q]at e';cases e';exact z ys rfl
  have e1:Env0 P w K mg base A0 outer s (del H A):=⟨e0.frames,e0.mod,λb o q=>⟨(e0.bs b o q).1,nd (e0.bs b o q).2⟩,e0.bsz,e0.funs,λb hb=>nd (e0.frf b hb),
   λa o q=>by
    obtain⟨_,q⟩:=of_del q
    exact ji.stay (e0.hok a o q) (λb u _ z=>z) (λb z=>out z λ_ y=>by cases y) (λb xs z=>out z λ_ y=>by cases y) (λb _ _ z=>out z λ_ y=>by cases y),e0.bare⟩
  refine bD (F.run A0 outer s (del H A) args us vs _ E hr e1 hb rv h) λr s' hq=>?_;cases r with
  |error e=>exact(show False from hq).elim
  |ok fl =>
   cases fl with
   |next=>exact(show False from hq).elim
   |brk=>exact(show False from hq).elim
   |cont=>exact(show False from hq).elim
   |ret u =>
    obtain⟨v,H',os,bare,un,hok',rel,q⟩:=(show CE outer P w (del H A) s _ u s' from hq)
    have kept:∀a∈A,∃o,s.heap.get? a=a3 o/\s'.heap.get? a=a3 o/\H' a=a6:=λa ha=>by
     obtain⟨xs,e⟩:=hA a ha;obtain⟨_,its,n,_,z⟩:=(show ji P w H s.heap a (.lst xs)from e0.hok _ _ e)
     have nf:a∉frs outer:=λy=>by rw[e0.frf a y]at e;cases e
     exact⟨_,z,un.keep a _ z (qt ha) nf (by simp),un.free a _ z (qt ha) (by simp)⟩
    have hF:∀a∈A,H' a=a6:=λa ha=>let ⟨_,_,_,z⟩:=kept a ha;z;have outF:∀{b:aa}{o:HO},H' b=a3 o->b∉A:=λ{b o} e z=>by rw[hF b z]at e;cases e
    refine⟨v,mrg A H H',os,bare,?_,λa o e=>?_,rel,q hF⟩
    .exact{
      keep:=λb o e n=>un.keep b o e (nd n)
      slot:=λb o e n=>un.slot b o e (nd n)
      free:=λb o e n hx=>by
       by_cases z:b∈A
       .rw[J6 z];exact n
       .rw[jk z];exact un.free b o e (nd n) hx
      there:=un.there
      tups:=λb xs e=>by
       have z:=un.tups b xs (out e λ_ y=>by cases y)
       rw[jk (outF z)];exact z
      frzs:=λb o u e=>by
       have z:=un.frzs b o u (out e λ_ y=>by cases y)
       rw[jk (outF z)];exact z
      tbls:=λb ps e=>by
       obtain⟨more,z⟩:=un.tbls b ps (out e λ_ y=>by cases y)
       exact⟨more,by rw[jk (outF z)];exact z⟩ }
    .by_cases z:a∈A
     .rw[J6 z]at e;obtain⟨xs,e'⟩:=hA a z;rw[e']at e;cases e;obtain⟨hl,its,n,r,y⟩:=(show ji P w H s.heap a (.lst xs)from e0.hok _ _ e')
      obtain⟨o',q1,q2,_⟩:=kept a z;rw[y]at q1;cases q1;exact⟨hl,its,n,r,q2⟩
     .rw[jk z]at e;refine ji.stay (hok' a o e) (λb u _ q=>q) (λb q=>?_) (λb xs q=>?_) (λb _ _ q=>?_)
      .rw[jk (outF q)];exact q
      .rw[jk (outF q)];exact q
      .rw[jk (outF q)];exact q
def spP(K:k90)(S:List D->D->Prop):Sp:=λvs H Q _=>∃A ds d,TabOk K H/\(∀a∈A,∃xs,H a=a3 (.lst xs))/\j5 K (del H A) ds vs/\S ds d/\∀v H',j0 H H'->Enc K (del H' A) d v->Q v H'
def spF(K:k90)(S:List D->List D->Prop):Sp:=λvs H Q _=>∃A ds l,TabOk K H/\(∀a∈A,∃xs,H a=a3 (.lst xs))/\j5 K (del H A) ds vs/\S ds l /\
 ∀a xs H',j0 H H'->H a=a6->H' a=a3 (.lst xs)->j5 K (del H' (a::A)) l xs->Q (.ref a) H'
def jju(K:k90)(S:List D->D->Prop):Sp:=λvs H Q _=>∃ds d,TabOk K H/\j5 K H ds vs/\S ds d/\∀v H',j0 H H'->Enc K H' d v->Q v H'
def jjv(K:k90)(S:List D->List D->Prop):Sp:=λvs H Q _=>∃ds l,TabOk K H/\j5 K H ds vs/\S ds l/\∀a xs H',j0 H H'->H a=a6->H' a=a3 (.lst xs)->j5 K (del H' [a]) l xs->Q (.ref a) H'
section
variable{P:au}{w:aA}{K:k90}{mg:k93}{base:aD}{k:Nat}{f:aa}{fd:aN}{ps:List af}
theorem FnOk.toP{S:List D->D->Prop}(F:FnOk P w K mg base CX0 k f fd ps (jju K S)):FnOk P w K mg base CX0 k f fd ps (spP K S) :=
 F.framed.imp λvs H Q E ⟨A,ds,d,tb,hA,en,hS,q⟩=>⟨A,hA,ds,d,tb.del hA,en,hS,λv F g e hF=>q v _ (Mz g) (by rw[Vr hF];exact e)⟩
theorem FnOk.toF{S:List D->List D->Prop}(F:FnOk P w K mg base CX0 k f fd ps (jjv K S)):FnOk P w K mg base CX0 k f fd ps (spF K S) :=
 F.framed.imp λvs H Q E ⟨A,ds,l,tb,hA,en,hS,q⟩=>⟨A,hA,ds,l,tb.del hA,en,hS,λa xs F g n e l' hF=>by
  have na:a∉A:=λz=>by rw[hF a z]at e;cases e
  refine q a xs _ (Mz g) (by rw[j6 na]at n;exact n) (by rw[jk na];exact e) (l'.mono λb o z=>?_)
  obtain⟨n1,z⟩:=of_del z
  have nb:b∉A:=λy=>by rw[hF b y]at z;cases z
  rw[j6,jk nb];exact z
  intro y
  rcases xn.mp y with y|y
  .exact n1 (by rw[y];exact xu.mpr rfl)
  .exact nb y⟩
end
noncomputable def jg3:List af:=["dearest_way","cost_on_whole","worst_table","worst_plan","foe_answer","whole_table","whole_plan","mean_price"]
noncomputable def kG(us ws:List a9):List a9:=match ws with
 |[w]=>us++[w]
 |_=>[]
noncomputable def kGV(vs zs:List V):List V:=match zs with
 |[z]=>vs++[z]
 |_=>[]
def Dfl(K:k90)(x:af)(fd:aN)(ps:List af):Prop:=x∈jg3->Binds K fd ps [.none]/\KBinds K fd ps ["prices"] kG kGV
structure Cal(X:Cx)(x:af)(sp:Sp):Prop where
 ex:∃(k:Nat)(f:aa)(fd:aN)(ps:List af),FnOk X.prog X.w X.K X.mg X.base CX0 k f fd ps sp/\Room (k+1) X.A/\X.mg x=a3 (.ref f)/\W.keepIn X.K (.ref f)=a5/\Binds X.K fd ps []/\Dfl X.K x fd ps
section
variable{X:Cx}{ρ:Rho}{e a:ai}{es:List ai}{d:D}{ds l:List D}{pos p:aJ}{x:af}
theorem DE.call{S:List D->D->Prop}(c:Cal X x (spP X.K S))(ha:DA X ρ (e::es) ds)(hS:S ds d)(hg:Gl X x:=by rfl)(hdb:(x==k94)=a4:=by decide)
  (he:a7 (e::es) X.env=(a4,ay e X.env)::a7 es X.env:=by rfl) (hpl:(aK pos (a7 es X.env)).any (·.1)=a4:=by rfl):DE X ρ (.Call (.Name x p) (e::es) [] pos) d:=λσ H Q R q=>by
 obtain⟨k,f,fd,ps,F,hr,hm,hk,hb,_⟩:=c.ex;refine(Ff F (hr.mono (Td _)) hg hm hk hb .nil j35 paS hdb he hpl).to (ha σ H _ R λvs H1 g1 e1=>?_);show spP X.K S (vs++[]) H1 Q E0;rw[Xv];exact⟨owns ρ,ds,d,R.tb.mono g1,(R.grow g1).owned,e1,hS,λv H2 g2 z=>q v H2 (g1.trans g2) z⟩
theorem DT.call{S:List D->D->Prop}(c:Cal X x (spP X.K S))(ha:DTA X ρ (e::es) ds)(hS:S ds d)(hg:Gl X x:=by rfl)(hdb:(x==k94)=a4:=by decide)
  (he:a7 (e::es) X.env=(a4,ay e X.env)::a7 es X.env:=by rfl) (hpl:(aK pos (a7 es X.env)).any (·.1)=a4:=by rfl):DT X ρ (.Call (.Name x p) (e::es) [] pos) d:=λσ H Q R q=>by
 obtain⟨k,f,fd,ps,F,hr,hm,hk,hb,_⟩:=c.ex;refine(Ff F (hr.mono (Td _)) hg hm hk hb .nil j35 paS hdb he hpl).to (ha σ H _ R λvs H1 g1 e1=>?_);show spP X.K S (vs++[]) H1 Q E0;rw[Xv];exact⟨[],ds,d,R.tb.mono g1,(λa h=>nomatch h),by rw[vz];exact e1,hS,λv H2 g2 z=>q v H2 (g1.trans g2) (by rw[vz]at z;exact z)⟩
theorem DO.call{S:List D->List D->Prop}(c:Cal X x (spF X.K S))(ha:DA X ρ (e::es) ds)(hS:S ds l)(hg:Gl X x:=by rfl)(hdb:(x==k94)=a4:=by decide)
  (he:a7 (e::es) X.env=(a4,ay e X.env)::a7 es X.env:=by rfl) (hpl:(aK pos (a7 es X.env)).any (·.1)=a4:=by rfl):DO X ρ (.Call (.Name x p) (e::es) [] pos) l:=λσ H Q R q=>by
 obtain⟨k,f,fd,ps,F,hr,hm,hk,hb,_⟩:=c.ex;refine(Ff F (hr.mono (Td _)) hg hm hk hb .nil j35 paS hdb he hpl).to (ha σ H _ R λvs H1 g1 e1=>?_);show spF X.K S (vs++[]) H1 Q E0;rw[Xv];exact⟨owns ρ,ds,l,R.tb.mono g1,(R.grow g1).owned,e1,hS,λa xs H2 g2 n m z=>q a xs H2 (g1.trans g2) (g1.free n) m z⟩
end
inductive Rt where
 |val (d:D)
 |fresh (ds:List D)
noncomputable def Rt.d:Rt->D
 |.val d=>d
 |.fresh l=>.lst l
structure Po where
 nx:Rho->Prop
 rt:Rt->Prop
 bk:Rho->Prop:=λ_=>False
 ct:Rho->Prop:=λ_=>False
 ex:af->Rho->Prop:=λ_ _=>False
structure Fl(N:aa->Prop)(H:Hp)(h:aD)(e:aa)(C:a9):Prop where
 new:∀b,N b->b≠e
 free:H e=a6
 obj:∃(oe:cC)(vs:Array a9)(a0:a9),h.get? e=a3 oe/\oe.cls=C/\oe.data=.fields vs/\vs[0]?=a3 a0 /\
  (vs[1]?=a3 .none\/∃(T:aa)(oT:cC)(ts:Array a9),vs[1]?=a3 (.ref T)/\T≠e/\h.get? T=a3 oT/\oT.data=.fields ts/\ts[3]?=a3 .none/\H T=a6/\∀b,N b->b≠T)
def Old(X:Cx)(pins:k92)(b:aa):Prop:=(∃o,X.s₀.heap.get? b=a3 o/\b∉X.ex)\/(∃p∈X.pn++pins,p.1=b)\/b=X.env.locals\/∃x,X.env.cells.lookup x=a3 b
def Dp(X:Cx)(σ:St)(H:Hp)(x:af):Prop:=∀(pins:k92) (H':Hp) (s':ae) (e:aa) (C:a9),Inv X pins σ H' s'->j0 H H'->X.mg x=a3 C->Fl (Old X pins) H' s'.heap e C->X.xe (.ref e) s'
def Fr0(ρ ρ':Rho)(H H':Hp):Prop:=j0 (del H (owns ρ)) (del H' (owns ρ'))
def Dq(K:k90)(ρ:Rho)(H H':Hp)(v:V):Rt->Prop
 |.val d=>j0 (del H (owns ρ)) H'/\Enc K H' d v
 |.fresh ds=>∃a xs,v=.ref a/\j0 (del H (owns ρ)) (del H' [a])/\H' a=a3 (.lst xs)/\j5 K (del H' [a]) ds xs
structure EndsOk(X:Cx)(ρ:Rho)(H:Hp)(P:Po)(E:Ends):Prop where
 nx:∀ρ' σ' H',P.nx ρ'->Rep X.K ρ' σ' H'->Fr0 ρ ρ' H H'->E.nx σ' H'
 bk:∀ρ' σ' H',P.bk ρ'->Rep X.K ρ' σ' H'->Fr0 ρ ρ' H H'->E.bk σ' H'
 ct:∀ρ' σ' H',P.ct ρ'->Rep X.K ρ' σ' H'->Fr0 ρ ρ' H H'->E.ct σ' H'
 rt:∀r v H',P.rt r->Dq X.K ρ H H' v r->E.rt v H'
 ex:∀x ρ' σ' H',P.ex x ρ'->Rep X.K ρ' σ' H'->Fr0 ρ ρ' H H'->Dp X σ' H' x
theorem Dq.step{K:k90}{ρ ρ1:Rho}{H H1 H':Hp}{v:V}{r:Rt}(f:Fr0 ρ ρ1 H H1)(h:Dq K ρ1 H1 H' v r):Dq K ρ H H' v r:=by
 cases r with
 |val d=>exact⟨f.trans h.1,h.2⟩
 |fresh ds=>obtain⟨a,xs,e,g,m,l⟩:=h;exact⟨a,xs,e,f.trans g,m,l⟩
theorem EndsOk.step{X:Cx}{ρ ρ1:Rho}{H H1:Hp}{P:Po}{E:Ends}(h:EndsOk X ρ H P E)(f:Fr0 ρ ρ1 H H1):EndsOk X ρ1 H1 P E :=
 ⟨λρ' σ' H' n R g=>h.nx ρ' σ' H' n R (f.trans g),λρ' σ' H' n R g=>h.bk ρ' σ' H' n R (f.trans g),λρ' σ' H' n R g=>h.ct ρ' σ' H' n R (f.trans g),λr v H' n g=>h.rt r v H' n (Dq.step f g),λx ρ' σ' H' n R g=>h.ex x ρ' σ' H' n R (f.trans g)⟩
theorem Fr0.grow{ρ:Rho}{H H':Hp}(g:j0 H H'):Fr0 ρ ρ H H':=jj g
theorem Fr0.refl(ρ:Rho)(H:Hp):Fr0 ρ ρ H H:=j0.refl _
theorem Fr0.drop{ρ ρ':Rho}{H:Hp}(h:∀b∈owns ρ',b∈owns ρ):Fr0 ρ ρ' H H:=v5 h
theorem Fr0.new{ρ:Rho}{H H':Hp}{i:Nat}{a:aa}{ds:List D}{K:k90}{σ:St}(R:Rep K ρ σ H)(g:j0 H H')(n:H a=a6):Fr0 ρ (ρ.set i (.own a ds)) H H':=λb o q=>by
 obtain⟨nb,q⟩:=of_del q;rw[j6];exact g b o q;intro z;rcases(Jf (ds:=ds) (i:=i) R.nd (R.fresh n)).2 b z with e|z
 .subst e;rw[n]at q;cases q
 .exact nb z
def DS(X:Cx)(ρ:Rho)(st:aS)(P:Po):Prop:=∀σ H E,Rep X.K ρ σ H->EndsOk X ρ H P E->j6x X st E σ H
def DSs(X:Cx)(ρ:Rho)(sts:List aS)(P:Po):Prop:=∀σ H E,Rep X.K ρ σ H->EndsOk X ρ H P E->Zz X sts E σ H
section
variable{X:Cx}{ρ:Rho}{e a b c:ai}{es:List ai}{st:aS}{rest sa sb body:List aS}{P:Po}{d:D}{ds ds':List D}{pos p p1 p2 p3:aJ}{x:af}{i:Nat}
theorem DSs.nil(h:P.nx ρ):DSs X ρ [] P:=λσ H E R q=>Nz.to (q.nx ρ σ H h R (Fr0.refl ρ H))
theorem DSs.cons{N:Rho->Prop}(h1:DS X ρ st { P with nx:=N })(h2:∀ρ1,N ρ1->DSs X ρ1 rest P):DSs X ρ (st::rest) P:=λσ H E R q =>(Q4 psS Qn).to (h1 σ H { E with nx:=Zz X rest E } R ⟨λρ' σ' H' n R' f=>h2 ρ' n σ' H' E R' (q.step f),q.bk,q.ct,q.rt,q.ex⟩)
theorem DSs.then{ρ1:Rho}(h1:DS X ρ st { P with nx:=(· = ρ1) })(h2:DSs X ρ1 rest P):DSs X ρ (st::rest) P:=.cons h1 λ_ e=>e▸h2
theorem DSs.freeze(i:Nat){l:aa}(h:ρ[i]?=a3 (.own l ds))(h2:DSs X (ρ.set i (.val (.lst ds))) body P):DSs X ρ body P:=λσ H E R q =>h2 σ H E (R.freeze h) (q.step (.drop λb hb=>(jf rfl).subset hb))
theorem DS.set(i:Nat)(he:DE X ρ e d)(h:P.nx (ρ.set i (.val d)))(hN:X.N.Nodup)(hi:X.N[i]?=a3 x:=by rfl)(hx:Loc X.env.scope x:=by first|exact aQ rfl|exact bf rfl)
  (hs:aG e (a3 (.Name x p)) pos.line X.env=pure a4:=by rfl) (hf:X.fn x=a5\/X.env.scope.names.lookup x=a3 .local:=by first|exact .inl rfl|exact .inr rfl):DS X ρ (.Assign [.Name x p] e pos) P:=λσ H E R q =>
 (Vy hN hi hx peS hs hf).to (he σ H _ R λv H1 g1 e1=>q.nx _ _ H1 h ((R.grow g1).set_val e1) (j0.trans (Fr0.grow g1) (Fr0.drop λb hb=>(jf rfl).subset hb)))
theorem DS.setO(i:Nat)(he:DO X ρ e ds)(h:∀l,P.nx (ρ.set i (.own l ds)))(hN:X.N.Nodup)(hi:X.N[i]?=a3 x:=by rfl)(hx:Loc X.env.scope x:=by first|exact aQ rfl|exact bf rfl)
  (hs:aG e (a3 (.Name x p)) pos.line X.env=pure a4:=by rfl) (hf:X.fn x=a5\/X.env.scope.names.lookup x=a3 .local:=by first|exact .inl rfl|exact .inr rfl):DS X ρ (.Assign [.Name x p] e pos) P:=λσ H E R q =>
 (Vy hN hi hx peS hs hf).to (he σ H _ R λl xs H1 g1 n m e1=>q.nx _ _ H1 (h l) (R.set_own g1 n m e1) (.new R g1 n))
theorem DS.if{k:Bool}(hc:DB X ρ c k)(ha:k=a5->DSs X ρ sa P)(hb:k=a4->DSs X ρ sb P):DS X ρ (.If c sa sb pos) P:=λσ H E R q =>
 (j32 ptS Qn Qn).to (hc σ H _ R λH1 g1=>by
  cases k with
  |true=>exact Fw (ha rfl σ H1 E (R.grow g1) (q.step (.grow g1)))
  |false=>exact Fx (hb rfl σ H1 E (R.grow g1) (q.step (.grow g1))))
theorem DS.ret(he:DT X ρ e d)(h:P.rt (.val d)):DS X ρ (.Return (a3 e) pos) P:=λσ H E R q =>(Wh peS).to (he σ H _ R λv H1 g1 e1=>q.rt _ v H1 h ⟨jq.trans g1,e1⟩)
theorem DS.retO(he:DO X ρ e ds)(h:P.rt (.fresh ds)):DS X ρ (.Return (a3 e) pos) P:=λσ H E R q =>
 (Wh peS).to (he σ H _ R λl xs H1 g1 n m e1=>q.rt _ _ H1 h ⟨l,xs,rfl,(λb o z=>by
  obtain⟨nb,z⟩:=of_del z
  rw[j6];exact g1 b o z
  intro y;rw[xu.mp y,n]at z;cases z),m,e1.mono (v5 λb hb=>by rw[xu.mp hb];exact xm ..)⟩)
theorem DS.retV(k:Nat){l:aa}(hk:ρ[k]?=a3 (.own l ds))(h:P.rt (.fresh ds))(hN:X.N[k]?=a3 x:=by rfl)(hv:Vis X.env.scope x:=by first|exact aQ rfl|exact bf (aQ rfl)|exact bf (bf rfl))
  (hd:(x==k94)=a4:=by decide) (hcd:(x==k95)=a4:=by decide):DS X ρ (.Return (a3 (.Name x p)) pos) P:=λσ H E R q=>by
 obtain⟨hs,xs,m,en⟩:=R.own k l ds hk;have g:j0 (del H (owns ρ)) (del H [l]):=v5 λb hb=>by rw[xu.mp hb];exact Q6 hk
 exact(Wh (J4 hN hv hd hcd)).to ⟨_,hs,q.rt _ _ H h ⟨l,xs,rfl,g,m,en.mono g⟩⟩
theorem DS.expr(he:DT X ρ e d)(h:P.nx ρ)(hs:aG e a6 pos.line X.env=pure a4:=by rfl):DS X ρ (.Expr e pos) P:=λσ H E R q =>(U7 peS hs).to (he σ H _ R λv H1 g1 e1=>q.nx ρ σ H1 h (R.grow g1) (.grow g1))
theorem j07{σ:St}{H H':Hp}{l:aa}{o:HO}(hk:ρ[i]?=a3 (.own l ds))(g:j0 H H'):Fr0 ρ (ρ.set i (.own l ds')) H (upd H' l o):=by unfold Fr0;rw[Vd hk,Ua (Q6 hk)];exact jj g
theorem DS.append(i:Nat){l:aa}(hk:ρ[i]?=a3 (.own l ds))(he:DE X ρ e d)(hl:ds.length<aj)(h:P.nx (ρ.set i (.own l (ds++[d]))))
  (hN:X.N[i]?=a3 x:=by rfl) (hv:Vis X.env.scope x:=by first|exact aQ rfl|exact bf (aQ rfl)|exact bf (bf rfl)) (hd:(x==k94)=a4:=by decide) (hcd:(x==k95)=a4:=by decide)
  (hst:a7 [e] X.env=[(a4,ay e X.env)]:=by rfl) (hline:(p1.endLine==p2.line)=a5:=by rfl)
  (hbase:aF (.Name x p) "append" X.env (ay (.Name x p) X.env)=ay (.Name x p) X.env:=by rfl) (hfew:((aK p2 (a7 [e] X.env)).all (λx=>!x.1)&&(bA p2 (aX [] X.env)).all (λx=>x.1.isSome)
   && decide (([e]:List ai).length+([]:List aT).length+(if ([]:List aT).isEmpty then 0 else 1)<30))=a5:=by rfl)
  (hs:aG (.Call (.Attribute (.Name x p) "append" p1) [e] [] p2) a6 pos.line X.env=pure a4:=by rfl) :
  DS X ρ (.Expr (.Call (.Attribute (.Name x p) "append" p1) [e] [] p2) pos) P:=λσ H E R q=>by
 obtain⟨hσ,xs,m,en⟩:=R.own i l ds hk;refine(U7 (Uj Tn gX PySem.F.type_list_append Ck (J4 hN hv hd hcd) (jb peS jo hst) hbase hfew hline hst rfl) hs).to ?_;refine⟨_,hσ,.inl ⟨rfl,xs,.inl (.inl m)⟩,he σ H _ R λv H1 g1 e1=>⟨l,xs,v,rfl,rfl,g1 _ _ m,by rw[en.length];exact hl,?_⟩⟩;exact q.nx _ σ _ h ((R.grow g1).upd_own hk ((en.mono (jj g1)).append (.one e1))) (j07 (σ:=σ) hk g1)
theorem DS.extend(i:Nat){l:aa}(hk:ρ[i]?=a3 (.own l ds))(he:DO X ρ e ds')(hl:ds.length+ds'.length<=aj)(h:P.nx (ρ.set i (.own l (ds++ds'))))
  (hN:X.N[i]?=a3 x:=by rfl) (hv:Vis X.env.scope x:=by first|exact aQ rfl|exact bf (aQ rfl)|exact bf (bf rfl)) (hd:(x==k94)=a4:=by decide) (hcd:(x==k95)=a4:=by decide)
  (hst:a7 [e] X.env=[(a4,ay e X.env)]:=by rfl) (hline:(p1.endLine==p2.line)=a5:=by rfl)
  (hbase:aF (.Name x p) "extend" X.env (ay (.Name x p) X.env)=ay (.Name x p) X.env:=by rfl) (hfew:((aK p2 (a7 [e] X.env)).all (λx=>!x.1)&&(bA p2 (aX [] X.env)).all (λx=>x.1.isSome)
   && decide (([e]:List ai).length+([]:List aT).length+(if ([]:List aT).isEmpty then 0 else 1)<30))=a5:=by rfl)
  (hs:aG (.Call (.Attribute (.Name x p) "extend" p1) [e] [] p2) a6 pos.line X.env=pure a4:=by rfl) :
  DS X ρ (.Expr (.Call (.Attribute (.Name x p) "extend" p1) [e] [] p2) pos) P:=λσ H E R q=>by
 obtain⟨hσ,xs,m,en⟩:=R.own i l ds hk;refine(U7 (Uj Tn gR PySem.F.type_list_extend j55 (J4 hN hv hd hcd) (jb peS jo hst) hbase hfew hline hst rfl) hs).to ?_;refine⟨_,hσ,.inl ⟨rfl,xs,.inl (.inl m)⟩,he σ H _ R λb ys H1 g1 n1 m1 e1=>⟨l,b,xs,ys,rfl,rfl,g1 _ _ m,m1,by rw[en.length,e1.length];exact hl,?_⟩⟩;exact q.nx _ σ _ h ((R.grow g1).upd_own hk ((en.mono (jj g1)).append (e1.mono (v5 λc hc=>km _ hc)))) (j07 (σ:=σ) hk g1)
theorem DS.clear(i:Nat){l:aa}(hk:ρ[i]?=a3 (.own l ds))(h:P.nx (ρ.set i (.own l [])))
  (hN:X.N[i]?=a3 x:=by rfl) (hv:Vis X.env.scope x:=by first|exact aQ rfl|exact bf (aQ rfl)|exact bf (bf rfl)) (hd:(x==k94)=a4:=by decide) (hcd:(x==k95)=a4:=by decide)
  (hline:(p1.endLine==p2.line)=a5:=by rfl) (hbase:aF (.Name x p) "clear" X.env (ay (.Name x p) X.env)=ay (.Name x p) X.env:=by rfl)
  (hs:aG (.Call (.Attribute (.Name x p) "clear" p1) [] [] p2) a6 pos.line X.env=pure a4:=by rfl) :
  DS X ρ (.Expr (.Call (.Attribute (.Name x p) "clear" p1) [] [] p2) pos) P:=λσ H E R q=>by
 obtain⟨hσ,xs,m,en⟩:=R.own i l ds hk;refine(U7 (je3 Tn ig PySem.F.type_list_clear j7m (J4 hN hv hd hcd) hbase hline) hs).to ?_;exact⟨_,hσ,.inl ⟨rfl,xs,.inl (.inl m)⟩,l,xs,rfl,rfl,m,q.nx _ σ _ h (R.upd_own hk rfl) (j07 (σ:=σ) hk (j0.refl H))⟩
def U5(K:k90)(F:Hp)(J:It)(ds:List D):Prop:=∀(i:Nat)(H:Hp)(A:List aa),j0 F (del H A)->(∀a∈A,H a≠a6) ->
 (i<ds.length->J.go i H)/\(ds.length<=i->J.stop i H)/\∀x H',J.yld i H x H'->j0 H H'/\∀d,ds[i]?=a3 d->Enc K (del H' A) d x
def DI(X:Cx)(ρ:Rho)(tg it:ai)(ds:List D):Prop:=∀σ H R,Rep X.K ρ σ H->(∀J H',j0 H H'->U5 X.K (del H' (owns ρ)) J ds->R J H')->Ip X tg it σ H R
variable{tg it:ai}
theorem j5h{K:k90}{F:Hp}{l:aa}{xs:List V}(sq:SqL K F l xs)(en:j5 K F ds xs):U5 K F (Itl K l) ds:=λi H A g hA=>by
 have sq':SqL K H l xs:=jq.seq (g.seq sq);refine⟨λh=>?_,λh=>⟨xs,sq',by rw[en.length];exact h⟩,λx H' ⟨e,y⟩=>?_⟩
 .obtain⟨v,hv,_⟩:=en.get (kh h);exact⟨xs,v,sq',hv⟩
 .subst e;refine⟨j0.refl _,λd hd=>?_⟩;obtain⟨v,hv,ev⟩:=en.get hd;have e:=y xs sq';rw[hv]at e;cases e;exact ev.mono g
theorem j7x{K:k90}{F:Hp}{l:aa}{xs:List V}(sq:SqT K F l xs)(en:j5 K F ds xs):U5 K F (Itt K l) ds:=λi H A g hA=>by
 have sq':SqT K H l xs:=jq.seqT (g.seqT sq);refine⟨λh=>?_,λh=>⟨xs,sq',by rw[en.length];exact h⟩,λx H' ⟨e,y⟩=>?_⟩
 .obtain⟨v,hv,_⟩:=en.get (kh h);exact⟨xs,v,sq',hv⟩
 .subst e;refine⟨j0.refl _,λd hd=>?_⟩;obtain⟨v,hv,ev⟩:=en.get hd;have e:=y xs sq';rw[hv]at e;cases e;exact ev.mono g
theorem DI.lst(h:DE X ρ it (.lst ds)):DI X ρ tg it ds:=λσ H R r q=>(jaz peS).to (h σ H _ r λv H1 g1 ⟨l,xs,e,sq,en⟩=>⟨l,e,⟨xs,jq.seq sq⟩,q _ H1 g1 (j5h sq en)⟩)
theorem DI.tup(h:DE X ρ it (.tup ds)):DI X ρ tg it ds:=λσ H R r q=>(jdz peS).to (h σ H _ r λv H1 g1 ⟨l,xs,e,sq,en⟩=>⟨l,e,⟨xs,jq.seqT sq⟩,q _ H1 g1 (j7x sq en)⟩)
noncomputable def upto(lo:Int)(n:Nat):List D:=(ar n).map λk=>D.int (lo+(k:Nat))
theorem Bm{K:k90}{F:Hp}(lo:Int)(n:Nat):U5 K F (Itr lo n) (upto lo n):=λi H A g hA=>by
 have hl:(upto lo n).length=n:=by unfold upto;rw[kj,Xh]
 rw[hl];refine⟨λh=>h,λh=>h,λx H' ⟨e,y⟩=>?_⟩;subst e;refine⟨j0.refl _,λd hd=>?_⟩;unfold upto at hd;rw[xx]at hd;cases z:(ar n)[i]? with
 |none=>rw[z]at hd;cases hd
 |some k =>
  rw[z]at hd;have ek:k=i:=by have:=Xw (n:=n) (i:=i) (by have:=(X3.mp z).1;rwa [Xh]at this);rw[this]at z;exact(aw z).symm
  subst ek;cases hd;exact y
theorem DI.range1 {n:Int} (h:DT X ρ a (.int n)) (hm:X.mg "range" = a6) (h1:-(2^62)<=n) (h2:n<2^62) (hg:Gl X "range":=by rfl) (hs:a7 [a] X.env=[(a4,ay a X.env)]:=by rfl):DI X ρ tg (.Call (.Name "range" p) [a] [] pos) (upto 0 n.toNat):=λσ H R r q =>(j4q hg hm (jb peS jo hs) hs).to (h σ H _ r λv H1 g1 e=>⟨n,by rw[show v=.int n from e],h1,h2,q _ H1 g1 (Bm 0 _)⟩)
theorem DI.range2 {m n:Int} (h:DT X ρ a (.int m)) (h':DT X ρ b (.int n)) (hm:X.mg "range" = a6) (h1:-(2^62)<=m) (h2:m<2^62) (h3:-(2^62)<=n) (h4:n<2^62) (hg:Gl X "range":=by rfl) (hs:a7 [a,b] X.env=[(a4,ay a X.env),(a4,ay b X.env)]:=by rfl)
  (hs2:a7 [b] X.env=[(a4,ay b X.env)]:=by rfl) (hs3:a7 [a,b] X.env=(a4,ay a X.env)::a7 [b] X.env:=by rfl):DI X ρ tg (.Call (.Name "range" p) [a,b] [] pos) (upto m (n-m).toNat):=λσ H R r q =>
 (j4p hg hm (jb peS (jb peS jo hs2) hs3) hs hs2).to (h σ H _ r λv H1 g1 e=>h' σ H1 _ (r.grow g1) λu H2 g2 e2=>⟨m,n,by rw[show v=.int m from e,show u=.int n from e2],⟨h1,h2,h3,h4⟩,q _ H2 (g1.trans g2) (Bm m _)⟩)
def j6y(X:Cx)(tg:ai):TG:=λv σ H Q=>∀pins s u,Inv X pins σ H s->RelV v u->ao (ax X.prog X.w) X.A (eU tg X.env u) (λ_ s'=>∃σ' H',Inv X pins σ' H' s'/\Q σ' H') X.xe s
theorem pgS:PG X tg (j6y X tg):=λpins s σ H v u Q I r h=>h pins s u I r
theorem PG.to{t:TG}{σ:St}{H:Hp}{v:V}{Q:St->Hp->Prop}(h:PG X tg t)(q:t v σ H Q):j6y X tg v σ H Q:=λpins s u I r=>h pins s σ H v u Q I r q
def DG(X:Cx)(ρ:Rho)(tg:ai)(d:D)(ρ':Rho):Prop:=(∀b∈owns ρ',b∈owns ρ)/\∀σ H v Q,Rep X.K ρ σ H->Enc X.K (del H (owns ρ)) d v->(∀σ',Rep X.K ρ' σ' H->Q σ' H)->j6y X tg v σ H Q
theorem DG.name(i:Nat)(hN:X.N.Nodup)(hi:X.N[i]?=a3 x:=by rfl)(hx:Loc X.env.scope x:=by first|exact aQ rfl|exact bf rfl)(hf:X.fn x=a5\/X.env.scope.names.lookup x=a3 .local:=by first|exact .inl rfl|exact .inr rfl):DG X ρ (.Name x p) d (ρ.set i (.val d)) :=
 ⟨λb hb=>(jf rfl).subset hb,λσ H v Q R en q=>(Zm hN hi hx hf).to (q _ (R.set_val en))⟩
theorem DS.for(W:Nat->Rho->Prop)(hi:DI X ρ tg it ds)(h0:W 0 ρ)(hs:∀i d ρ',ds[i]?=a3 d->W i ρ'->∃ρ2,DG X ρ' tg d ρ2/\DSs X ρ2 body { nx:=W (i+1),rt:=P.rt,bk:=P.nx,ct:=W (i+1),ex:=P.ex })
  (hd:∀ρ',W ds.length ρ'->P.nx ρ') (hc:X.calm=a5) (hp:dG (ax X.prog X.w) X.A X.env X.xe) (hf:∀x,aC it X.env x=pure x:=by intro _;rfl):DS X ρ (.For tg it body [] pos) P:=λσ H E R q=>by
 refine(Eg hp hc piS pgS Qn hf).to (hi σ H _ R λJ H1 g1 ok=>?_);refine⟨λi m σ' H'=>∃ρ',W i ρ'/\Rep X.K ρ' σ' H'/\Fr0 ρ ρ' H1 H'/\m=ds.length-i/\i<=ds.length,⟨ds.length,ρ,h0,R.grow g1,Fr0.refl _ _,rfl,T6 _⟩,?_⟩;rintro i m σ' H' ⟨ρ',w,R',f,rfl,hle⟩;obtain⟨go,stop,yld⟩:=ok i H' (owns ρ') f λa ha=>by obtain⟨xs,e⟩:=R'.owned a ha;rw[e];simp
 by_cases hlt:i<ds.length
 .refine .inr ⟨go hlt,λσ2 H2=>∃ρ2,W (i+1) ρ2/\Rep X.K ρ2 σ2 H2/\Fr0 ρ ρ2 H1 H2,λσ2 H2 ⟨ρ2,w2,R2,f2⟩=>⟨ds.length-(i+1),by omega,ρ2,w2,R2,f2,rfl,hlt⟩,λx H2 y=>?_⟩;obtain⟨g2,en⟩:=yld x H2 y;obtain⟨ρ2,⟨sub,hG⟩,hB⟩:=hs i ds[i] ρ' (kh hlt) w;refine hG σ' H2 x _ (R'.grow g2) (en _ (kh hlt)) λσ3 R3=>?_;have f2:Fr0 ρ ρ2 H1 H2:=j0.trans f (j0.trans (Fr0.grow g2) (Fr0.drop sub));refine hB σ3 H2 _ R3 ⟨λρ3 σ4 H4 n R4 f4=>⟨ρ3,n,R4,f2.trans f4⟩,λρ3 σ4 H4 n R4 f4=>q.nx ρ3 σ4 H4 n R4 ((Fr0.grow g1).trans (f2.trans f4)),λρ3 σ4 H4 n R4 f4=>⟨ρ3,n,R4,f2.trans f4⟩,λr v H4 n z=>q.rt r v H4 n (Dq.step ((Fr0.grow g1).trans f2) z),λx ρ3 σ4 H4 n R4 f4=>q.ex x ρ3 σ4 H4 n R4 ((Fr0.grow g1).trans (f2.trans f4))⟩
 .have e:i=ds.length:=by omega
  subst e;exact .inl ⟨stop (X5 _),q.nx ρ' σ' H' (hd ρ' w) R' ((Fr0.grow g1).trans f)⟩
end
noncomputable def qz(N:List af)(ds:List D):Rho:=ds.map Sl.val++aq (N.length-ds.length) Sl.un
theorem V1(N:List af)(ds:List D):owns (qz N ds)=[]:=by
 unfold owns qz;rw[List.filterMap_append];have h1:(ds.map Sl.val).filterMap Sl.addr=[]:=List.filterMap_eq_nil_iff.mpr λs hs=>by obtain⟨d,_,rfl⟩:=X8.mp hs;rfl
 have h2:(aq (N.length-ds.length) Sl.un).filterMap Sl.addr=[]:=List.filterMap_eq_nil_iff.mpr λs hs=>by rw[(Tz.mp hs).2];rfl
 rw[h1,h2];rfl
theorem Yo{K:k90}{H:Hp}{N:List af}{ds:List D}{vs:List V}(tb:TabOk K H)(h:j5 K H ds vs):Rep K (qz N ds) (start N vs) H:=by
 have ho:=V1 N ds;have hl:=h.length;refine⟨by unfold qz start;simp[hl],λi d e=>?_,λi a l e=>?_,by rw[ho];exact dO,λi a o y e=>?_,tb⟩
 .rw[ho,vz];unfold qz at e;by_cases z:i<ds.length
  .rw[Px (by simpa using z),xx]at e;rw[kh z]at e;cases e;obtain⟨v,hv,en⟩:=h.get (kh z);refine⟨v,?_,en⟩;unfold start;rw[Px (by rw[kj,hl];exact z),xx,hv];rfl
  .rw[cP (by simpa using z)]at e;have:=Xl e;cases(Tz.mp this).2
 .have:=Q6 e;rw[ho]at this;cases this
 .unfold qz at e;rcases Xn.mp (Xl e)with z|z
  .obtain⟨d,_,q⟩:=X8.mp z;cases q
  .cases(Tz.mp z).2
section
variable{P:au}{w:aA}{K:k90}{mg:k93}{base:aD}{x qual:af}{st:aS}{f:aa}{fd:aN}{N ps:List af}{k:Nat}
def Rg(K:k90)(f:aa)(cdv:a9):Prop:=∃(oc:a9)(od:Option aa)(fd:aN)(sl:Array (Option a9)),K.lookup f=a3 ⟨oc,od,.func fd,sl⟩/\fd.code=cdv
theorem Fun.okC{sp:Sp}(F:Fun K x qual st f fd)(S:FnScope N ps (j9 st))(len:∀vs H Q E,sp vs H Q E->vs.length=ps.length)
  (hbody:∀(cdv:a9)(A:aB)(outer:List dj)(s:ae)(H:Hp)(vs:List V)(Q:VK) (E:XK),Rg K f cdv->Room k (A.deeper (bo qual (j9 st) s.heap.objs.size f cdv))->sp vs H Q E ->
   ∃t,PSs (zu CX0 P w K mg base N qual (j9 st) f cdv A outer s H E).nox (jy st) t/\t { nx:=λ_ H'=>Q .non H',rt:=Q } (start N vs) H):FnOk P w K mg base CX0 (k+1) f fd ps sp:=by
 obtain⟨oc,od,dV,kV,doc,pm,an,cdv,ct,osl,rfl,lk,hcd⟩:=F.ex;refine j9p lk hcd S len λA outer s H vs Q E hr hsp=>?_;obtain⟨t,h,q⟩:=hbody cdv A outer s H vs Q E ⟨oc,od,_,osl,lk,rfl⟩ hr hsp;exact⟨t,h.nox,q⟩
theorem De{S:List D->D->Prop}(F:Fun K x qual st f fd)(Sc:FnScope N ps (j9 st))(hl:∀ds d,S ds d->ds.length=ps.length)
  (hbody:∀(cdv:a9)(A:aB)(outer:List dj)(s:ae)(H:Hp)(E:XK),Rg K f cdv->Room k (A.deeper (bo qual (j9 st) s.heap.objs.size f cdv))->∀ds d,S ds d ->
   DSs (zu CX0 P w K mg base N qual (j9 st) f cdv A outer s H E).nox (qz N ds) (jy st) { nx:=λ_=>d=.non,rt:=λr=>r.d=d }):FnOk P w K mg base CX0 (k+1) f fd ps (spP K S):=by
 refine FnOk.toP (F.okC Sc (λvs H Q E ⟨ds,d,tb,en,hS,_⟩=>by rw[en.length];exact hl ds d hS) λcdv A outer s H vs Q E hcv hr ⟨ds,d,tb,en,hS,q⟩=>⟨_,Qn,?_⟩);have ho:=V1 N ds;refine hbody cdv A outer s H E hcv hr ds d hS (start N vs) H _ (Yo tb en) ⟨λρ' σ' H' n R f=>?_,λ_ _ _ z=>z.elim,λ_ _ _ z=>z.elim,λr v H' n z=>?_,λ_ _ _ _ z=>z.elim⟩
 .subst n;unfold Fr0 at f;rw[ho,vz]at f;exact q _ H' (f.trans jq) rfl
 .cases r with
  |val d' =>cases(show d'=d from n);obtain⟨g,en'⟩:=z;rw[ho,vz]at g;exact q v H' g en'
  |fresh l =>cases(show D.lst l=d from n);obtain⟨a,xs,e,g,m,en'⟩:=z;rw[ho,vz]at g;exact q v H' (g.trans jq) ⟨a,xs,e,.inl (.inl m),en'.mono jq⟩
theorem j88{S:List D->List D->Prop}(F:Fun K x qual st f fd)(Sc:FnScope N ps (j9 st))(hl:∀ds d,S ds d->ds.length=ps.length)
  (hbody:∀(cdv:a9)(A:aB)(outer:List dj)(s:ae)(H:Hp)(E:XK),Rg K f cdv->Room k (A.deeper (bo qual (j9 st) s.heap.objs.size f cdv))->∀ds l,S ds l ->
   DSs (zu CX0 P w K mg base N qual (j9 st) f cdv A outer s H E).nox (qz N ds) (jy st) { nx:=λ_=>False,rt:=λr=>r=.fresh l }):FnOk P w K mg base CX0 (k+1) f fd ps (spF K S):=by
 refine FnOk.toF (F.okC Sc (λvs H Q E ⟨ds,d,tb,en,hS,_⟩=>by rw[en.length];exact hl ds d hS) λcdv A outer s H vs Q E hcv hr ⟨ds,l,tb,en,hS,q⟩=>⟨_,Qn,?_⟩);have ho:=V1 N ds;refine hbody cdv A outer s H E hcv hr ds l hS (start N vs) H _ (Yo tb en) ⟨λρ' σ' H' n R f=>n.elim,λ_ _ _ z=>z.elim,λ_ _ _ z=>z.elim,λr v H' n z=>?_,λ_ _ _ _ z=>z.elim⟩;cases(show r=.fresh l from n);obtain⟨a,xs,e,g,m,en'⟩:=z;rw[ho,vz]at g;subst e;refine q a xs H' (g.trans jq) ?_ m en';cases y:H a with
 |none=>rfl
 |some o=>have:=g a o y;rw[qt (xu.mpr rfl)]at this;cases this
end
section
variable{prog:au}{w:aA}{A:aB}{R:eV->ae->Prop}{s:ae}
theorem j0h{elt target iter:ai}{ifs:List ai}{scope:b9}{pos:aJ}{it acc:a9}{env:dj}(I:Nat->ae->Prop)
  (turn:∀n s,I n s->ao (ax prog w) A (eP it) (λr s₁=>match r with
   |none=>R (.ok .next) s₁
   |some v=>ao (ax prog w) A (dW target it v) (λ_ s₁'=>ao (ax prog w) A (eU target env v) (λ_ s₂ =>
     ao (ax prog w) A (forIn ifs a5 λc r=>if r=a5 then do let ok <-fG c env (ay c env);pure (bP ok)else pure (bP r)) (λok s₃ =>
      if ok=a5 then ao (ax prog w) A (ay elt env) (λx s₄ =>
       ao (ax prog w) A (call (.builtin "list.append") [acc,x]) (λ_ s₅=>∃m,m<n/\I m s₅) (λ_ _=>False) s₄) (λ_ _=>False) s₃
      else ∃m,m<n/\I m s₃) (λ_ _=>False) s₂) (λ_ _=>False) s₁') (λ_ _=>False) s₁) (λ_ _=>False) s)
  (n:Nat) (h:I n s) :
  cg (ax prog w) A (.compLoop (.ListComp elt [⟨target,iter,ifs,0⟩] scope pos) 0 it acc env) R s:=by
 refine codeAny_loop rfl I (λn s hI=>?_) n h;show ao _ A ((compTurn (.ListComp elt [⟨target,iter,ifs,0⟩] scope pos) 0 it acc env).onRaise (λx=>do gd x env;theTreesLotGoes x)) _ _ s;refine wpAny_noted ?_;rw[compTurn_list];refine a8 (iz (a8 (b7 (turn n s hI) (λr s₁ h₁=>?_) λ_ _ h'=>h'.elim)));cases r with
 |none=>exact ah h₁
 |some v =>
  refine a8 (b7 h₁ (λ_ s₁' h₁'=>?_) λ_ _ h'=>h'.elim);refine a8 (b7 h₁' (λ_ s₂ h₂=>a8 (b7 h₂ (λok s₃ h₃=>?_) λ_ _ h'=>h'.elim)) λ_ _ h'=>h'.elim);cases ok with
  |false=>exact ah ⟨rfl,h₃⟩
  |true =>exact a8 (a8 (b7 h₃ (λx s₄ h₄=>a8 (b7 h₄ (λ_ s₅ h₅=>ah (ah ⟨rfl,h₅⟩)) λ_ _ h'=>h'.elim)) λ_ _ h'=>h'.elim))
end
noncomputable def zx(env:dj):List (af×be)->List (af×aa)->List (af×aa)
 |[],acc=>acc
 |(n,k)::r,acc=>zx env r (if k==.free then(match env.cells.lookup n with|some a=>(n,a)::acc|none=>acc)else acc)
theorem By{scope:b9}{env:dj}(h:∀y∈scope.names,y.2=.free->(env.cells.lookup y.1).isSome=a5):fH scope env=pure (zx env scope.names []):=by
 simp only[fH];have step:∀(names:List (af×be)) (acc:List (af×aa)),(∀y∈names,y.2=.free->(env.cells.lookup y.1).isSome=a5) ->
   (forIn names acc (λx r=>(do if (x.2==ba)=a5 then(do let a <-cellOf env x.1;pure (bP ((x.1,a)::r)))else pure (bP r):lY _)):lY _)=pure (zx env names acc):=by
  intro names;induction names with
  |nil=>intro acc _;rfl
  |cons y r ih =>
   intro acc hy;obtain⟨n,k⟩:=y;rw[List.forIn_cons];by_cases e:(k==ba)=a5
   .have hk:k=.free:=by simpa using e
    have hs:=hy (n,k) (xm ..) hk;obtain⟨a,ha⟩:=Xq.mp hs;have hc:cellOf env n=pure a:=by unfold cellOf;rw[ha]
    simp only[e,if_true,hc,pure_bind];rw[ih _ λz hz=>hy z (km _ hz)];simp only[zx,e,if_true,ha]
   .have e':(k==ba)=a4:=by simpa using e
    simp only[e',Pa,if_false,pure_bind];rw[ih _ λz hz=>hy z (km _ hz)];simp only[zx,e',Pa,if_false]
 have:=step scope.names [] h;rw[show(forIn scope.names ([]:List (af×aa)) λx r=>_)=_ from this];rfl
theorem Lb{env:dj}{y:af}{c:aa}:∀{names:List (af×be)} {acc:List (af×aa)},(∀y c,acc.lookup y=a3 c->env.cells.lookup y=a3 c)->(zx env names acc).lookup y=a3 c->env.cells.lookup y=a3 c
 |[],acc,h,q=>h y c q
 |(n,k)::r,acc,h,q=>by
  unfold zx at q;refine Lb (acc:=_) ?_ q;intro z d hz;split at hz
  .split at hz
   .rename_i a ha;rw[Xj]at hz;split at hz
    .rename_i e;have e':z=n:=by simpa using e
     subst e';cases hz;exact ha
    .exact h z d hz
   .exact h z d hz
  .exact h z d hz
theorem N5{env:dj}{y:af}:∀{names:List (af×be)} {acc:List (af×aa)},(acc.lookup y).isSome=a5->((zx env names acc).lookup y).isSome=a5
 |[],acc,h=>h
 |(n,k)::r,acc,h=>by
  unfold zx;refine N5 ?_;split
  .split
   .rw[Xj];split
    .rfl
    .exact h
   .exact h
  .exact h
theorem Uy{env:dj}{y:af}(hs:(env.cells.lookup y).isSome=a5):∀{names:List (af×be)} {acc:List (af×aa)},(y,ba)∈names->((zx env names acc).lookup y).isSome=a5
 |[],acc,h=>nomatch h
 |(n,k)::r,acc,h=>by
  unfold zx;rcases xn.mp h with e|h
  .cases e;refine N5 ?_;obtain⟨a,ha⟩:=Xq.mp hs;rw[if_pos (by rfl),ha];rw[Xj];simp
  .exact Uy hs h
noncomputable def Jg(scope:b9)(env:dj)(N:List af)(cs:List Nat):Bool :=
 scope.names.all (λy=>(y.2 != .cell || scope.names.lookup y.1==a3 .cell)&&(y.2 != .local || scope.names.lookup y.1==a3 .local)&&(y.2 != .free || ((env.cells.lookup y.1).isSome&&(env.kindOf y.1==a3 .cell || env.kindOf y.1==a3 .free)))) &&
 (ar N.length).all (λj=>cs.contains j || (match N[j]? with|some y=>scope.names.lookup y != a3 .local&&scope.names.lookup y != a3 .cell|none=>a5))
theorem lookup_mem{α β:Type}[BEq α][LawfulBEq α]{l:List (α×β)}{a:α}{b:β}(h:l.lookup a=a3 b):(a,b)∈l:=by
 induction l with
 |nil=>cases h
 |cons x r ih =>
  obtain⟨c,d⟩:=x;rw[Xj]at h;split at h
  .rename_i e;cases h;have e':a=c:=by simpa using e
   subst e';exact xm ..
  .exact km _ (ih h)
theorem J7{env:dj}{x:af}{k':be}:∀{names:List (af×be)},
  (names.map λ(n,k)=>if (k==ba&&env.scope.kind==.function&&env.kindOf n==a3 .cell) then(n,bq) else(n,k)).lookup x=a3 k' ->
  ∃k,names.lookup x=a3 k/\(k'=k\/(k=.free/\k'=.cell))
 |[],h=>by cases h
 |(n,k)::r,h=>by
  rw[xr]at h;rw[Xj];by_cases hc:(k==ba&&env.scope.kind==.function&&env.kindOf n==a3 .cell)=a5
  .dsimp only at h;rw[if_pos hc,Xj]at h;cases e:x==n with
   |true =>
    rw[e]at h;cases h;have:(k==ba)=a5:=by
     cases z:k==ba with
     |true=>rfl
     |false=>rw[z]at hc;simp at hc
    exact⟨k,rfl,.inr ⟨by simpa using this,rfl⟩⟩
   |false=>rw[e]at h;exact J7 h
  .dsimp only at h;rw[if_neg hc,Xj]at h;cases e:x==n with
   |true=>rw[e]at h;cases h;exact⟨_,rfl,.inl rfl⟩
   |false=>rw[e]at h;exact J7 h
theorem Yh:∀(names:List (af×be)) (n:Nat) (acc:List (af×aa)),aL n names acc=aL n names []++acc
 |[],_,_=>rfl
 |(x,k)::r,n,acc=>by
  unfold aL;split
  .rw[Yh r (n+1) ((x,n)::acc),Yh r (n+1) [(x,n)],Ti];rfl
  .exact Yh r n acc
theorem N6:∀{names:List (af×be)} {n:Nat} {x:af} {c:aa},(x,c)∈aL n names []->(x,bq)∈names/\n<=c
 |[],_,_,_,h=>nomatch h
 |(y,k)::r,n,x,c,h=>by
  unfold aL at h;split at h
  .rename_i hk;rw[Yh]at h;rcases Xn.mp h with h|h
   .have q:=N6 h;exact⟨km _ q.1,Nat.le_of_succ_le q.2⟩
   .cases xu.mp h;have hk:k=bq:=by simpa using hk
    subst hk;exact⟨xm ..,X5 _⟩
  .have q:=N6 h;exact⟨km _ q.1,q.2⟩
theorem Vn{β:Type}:∀{l m:List (af×β)} {y:af},(l++m).lookup y=(l.lookup y).or (m.lookup y)
 |[],m,y=>rfl
 |(x,b)::r,m,y=>by
  rw[fv,Xj,Xj];split
  .rfl
  .exact Vn
theorem Ld{names:List (af×be)}{n:Nat}{acc:List (af×aa)}{y:af}{c:aa}(h:(aL n names acc).lookup y=a3 c) :
  ((y,c)∈aL n names []/\(y,bq)∈names/\n<=c)\/((aL n names []).lookup y=a6/\acc.lookup y=a3 c):=by
 rw[Yh,Vn]at h;cases e:(aL n names []).lookup y with
 |some c'=>rw[e]at h;cases h;have q:=lookup_mem e;exact .inl ⟨q,N6 q⟩
 |none=>rw[e]at h;exact .inr ⟨rfl,h⟩
theorem jgc{names:List (af×be)}{n:Nat}{acc:List (af×aa)}{y:af}(h:(y,bq)∉names):(aL n names acc).lookup y=acc.lookup y:=by
 rw[Yh,Vn];cases e:(aL n names []).lookup y with
 |some c'=>exact absurd (N6 (lookup_mem e)).1 h
 |none=>rfl
theorem jcg{names:List (af×be)}{n:Nat}{acc:List (af×aa)}{y:af}(h:(acc.lookup y).isSome=a5):∃c,(aL n names acc).lookup y=a3 c:=by
 rw[Yh,Vn];cases e:(aL n names []).lookup y with
 |some c'=>exact⟨c',rfl⟩
 |none=>obtain⟨c,hc⟩:=Xq.mp h;exact⟨c,hc⟩
theorem Er{M:iP}{A:aB}{E:k91}{s:ae}{scope:b9}{globals:aa}{closure:List (af×aa)}{qual:af}{env:dj}{Q:dj->ae->Prop}
  (hQ:Q { scope:=scope,locals:=s.heap.objs.size,globals:=globals,cells:=aL (s.heap.objs.size+1) scope.names closure,qual:=qual,func:=a6,code:=env.code,frame:=env.frame,builtins:=env.builtins }
   { s with heap:=iL (s.heap.push { cls:=.type "dict",data:=.dict #[] }) scope.names }) :
  ao M A (hV scope globals closure [] qual a6 .none (a3 env)) Q E s:=by
 simp only[hV,dY,if_true];refine a8 (wpAny_alloc ?_);refine a8 (wpAny_layCells _ (λname kind cells=>by cases hkc:kind==bq<;>simp[hkc]) _ _ _ _ ?_);rw[show({ s with heap:=s.heap.push { cls:=.type "dict",data:=.dict #[] } }:ae).heap.objs.size=s.heap.objs.size+1 from bK ..];exact a8 (ah (ah hQ))
noncomputable abbrev cCx(X:Cx)(scope:b9)(C:aa)(s:ae)(H:Hp)(fp:List aa)(pn:k92):Cx :=
 { X with env:=compEnvC scope (aL (C+1) scope.names (zx X.env scope.names [])) C X.env,s₀:=s,H₀:=H,outer:=X.stack,stack:=X.stack,ex:=fp,fn:=λx=>scope.names.lookup x==a3 .cell,pn:=pn,xe:=λ_ _=>False }
noncomputable def Ym(scope:b9)(y:af):Bool:=scope.names.lookup y==a3 .local || scope.names.lookup y==a3 .cell
theorem Zh{env:dj}:∀{names:List (af×be)} {x:af},names.lookup x=a3 .cell ->
  (names.map λ(n,k)=>if (k==ba&&env.scope.kind==.function&&env.kindOf n==a3 .cell) then(n,bq) else(n,k)).lookup x=a3 .cell
 |[],_,h=>by simp at h
 |(n,k)::r,x,h=>by
  have ih:=@Zh env r x;rw[xr];cases hx:x==n with
  |true =>simp only[Xj,hx]at h;cases h;simp[Xj,hx]
  |false =>
   simp only[Xj,hx]at h;dsimp only;by_cases hc:(k==ba&&env.scope.kind==.function&&env.kindOf n==a3 .cell)=a5
   .rw[if_pos hc];simp only[Xj,hx];exact ih h
   .rw[if_neg hc];simp only[Xj,hx];exact ih h
theorem Rj{X:Cx}{scope:b9}{C:aa}{s:ae}{H:Hp}{fp:List aa}{pn:k92}{y:af}(h:Ym scope y=a5):Loc (cCx X scope C s H fp pn).env.scope y:=by
 unfold Ym at h;rw[bX]at h;rcases h with h|h
 .exact .inl (jO (by simpa using h))
 .exact .inr (Zh (by simpa using h))
theorem Ou{X:Cx}{scope:b9}{C:aa}{s:ae}{H:Hp}{fp:List aa}{pn:k92}{y:af}(h:Ym scope y=a5):(cCx X scope C s H fp pn).fn y=a5\/(cCx X scope C s H fp pn).env.scope.names.lookup y=a3 .local:=by
 unfold Ym at h;rw[bX]at h;rcases h with h|h
 .exact .inr (jO (by simpa using h))
 .exact .inl h
def DTs(X:Cx)(ρ:Rho)(ifs:List ai)(b:Bool):Prop:=match ifs with
 |[]=>b=a5
 |[c]=>DB X ρ c b
 |_=>False
theorem DTs.nil{X:Cx}{ρ:Rho}:DTs X ρ [] a5:=rfl
theorem DTs.one{X:Cx}{ρ:Rho}{c:ai}{b:Bool}(h:DB X ρ c b):DTs X ρ [c] b:=h
theorem DTs.run{X:Cx}{ρ:Rho}{ifs:List ai}{b:Bool}(h:DTs X ρ ifs b){pins:k92}{σ:St}{H:Hp}{s:ae}(I:Inv X pins σ H s)(R:Rep X.K ρ σ H) :
  ao (ax X.prog X.w) X.A (forIn ifs a5 λc r=>if r=a5 then do let ok <-fG c X.env (ay c X.env);pure (bP ok)else pure (bP r)) (λok s'=>ok=b/\∃H',Inv X pins σ H' s'/\j0 H H') X.xe s:=by
 match ifs,h with
 |[],h=>exact wpAny_tests_nil ⟨h.symm,H,I,j0.refl H⟩
 |[c],h=>exact wpAny_tests_one (thn (h σ H (λk H'=>k=b/\j0 H H') R (λH' g=>⟨rfl,g⟩) pins s I) λk s' ⟨H',I',e,g⟩=>⟨e,H',I',g⟩)
theorem Rep.weaken{K:k90}{ρ:Rho}{σ σ':St}{H:Hp}(R:Rep K ρ σ H)(hl:σ'.length=σ.length)(h:∀(i:Nat),ρ[i]?≠a3 .un->σ'[i]?=σ[i]?):Rep K ρ σ' H :=
 ⟨by rw[hl,R.len],λi d e=>let ⟨v,q,z⟩:=R.val i d e;⟨v,by rw[h i (by rw[e];simp)];exact q,z⟩,λi a ds e=>let ⟨q,z⟩:=R.own i a ds e;⟨by rw[h i (by rw[e];simp)];exact q,z⟩,R.nd,λi a o x e=>let ⟨q,z⟩:=R.raw i a o x e;⟨by rw[h i (by rw[e];simp)];exact q,z⟩,R.tb⟩
noncomputable def mask(cs:List Nat)(σ:St):St:=σ.mapIdx λj v=>if cs.contains j then a6 else v
theorem Mj(cs:List Nat)(σ:St):(mask cs σ).length=σ.length:=by unfold mask;simp
theorem j7p{cs:List Nat}{σ:St}{j:Nat}{v:V}(h:(mask cs σ)[j]?=a3 (a3 v)):j∉cs/\σ[j]?=a3 (a3 v):=by
 unfold mask at h;rw[iu]at h;cases e:σ[j]? with
 |none=>rw[e]at h;cases h
 |some u =>
  rw[e]at h;have h':(if cs.contains j then a6 else u)=a3 v:=aw h;by_cases z:cs.contains j=a5
  .rw[if_pos z]at h';cases h'
  .rw[if_neg z]at h';subst h';exact⟨λy=>z (by simpa using y),rfl⟩
theorem j7o{cs:List Nat}{σ:St}{j:Nat}(h:j∉cs):(mask cs σ)[j]?=σ[j]?:=by
 unfold mask;rw[iu];cases e:σ[j]? with
 |none=>rfl
 |some u=>simp[h]
def Wk(ρ2 ρ:Rho):Prop:=∀K σ H,Rep K ρ2 σ H->Rep K ρ σ H
theorem Z5(H:Hp)(A B:List aa):del (del H A) B=del H (A++B):=funext λb=>by unfold del;by_cases h1:b∈A<;>by_cases h2:b∈B<;>simp[h1,h2]
structure Loose(X:Cx)(pins:k92)(H:Hp)(C:aa):Prop where
 free:H C=a6
 loc:C≠X.env.locals
 new:X.s₀.heap.objs.size<=C
 cell:∀x c,X.env.cells.lookup x=a3 c->c≠C
 pin:∀p∈X.pn++pins,p.1≠C
section
variable{X:Cx}{pins:k92}{σ:St}{H2:Hp}{s2:ae}{ρ:Rho}{tg elt iter:ai}{ifs:List ai}{scope:b9}{pos:aJ}{ds:List D}{cs:List Nat}{p:D->Bool}{g:D->D}
theorem Cz{J:It}{fp:List aa}{it:aa}{tn:Nat->aD->Prop}(I2:Inv X pins σ H2 s2)(R2:Rep X.K ρ σ H2)(T:Turn X.prog X.w X.K tg J fp it tn)(st2:tn 0 s2.heap)(f2:∀b∈fp,Qp X pins H2 b)
  (ok:U5 X.K (del H2 (owns ρ)) J ds) (hc:X.calm=a5) (hkind:scope.kind=.function) (hok:Jg scope X.env X.N cs=a5) (hcs:∀j∈cs,ρ[j]?=a3 .un) (hsz:ds.length<=aj)
  (hb:∀C s H fp pn,∀d∈ds,∃ρ2,DG (cCx X scope C s H fp pn) ρ tg d ρ2/\Wk ρ2 ρ/\owns ρ2=owns ρ/\DTs (cCx X scope C s H fp pn) ρ2 ifs (p d)/\(p d=a5->DE (cCx X scope C s H fp pn) ρ2 elt (g d)))
  {E:k91} {RR:a9->aa->eV->ae->Prop}
  (hRR:∀D C xs H' s' m,Inv X pins σ H' s'->j0 H2 H'->H2 D=a6->H' D=a3 (.lst xs)->j5 X.K (del H' (D::owns ρ)) ((ds.filter p).map g) xs->s'.heap.Ns C m->Loose X pins H' C->RR (.ref D) C (.ok .next) s') :
  ao (ax X.prog X.w) X.A (newList []) (λacc s₃=>ao (ax X.prog X.w) X.A (hV scope X.env.globals (zx X.env scope.names []) [] X.env.qual a6 .none (a3 X.env)) (λcenv s₄ =>
   cg (ax X.prog X.w) X.A (.compStart (.ListComp elt [⟨tg,iter,ifs,0⟩] scope pos) 0 (.ref it) acc { cenv with scope:=relabel scope X.env }) (RR acc cenv.locals) s₄) E s₃) E s2:=by
 unfold Jg at hok;rw[Xg]at hok;obtain⟨hn,hN⟩:=hok;have hn':∀y∈scope.names,(y.2=.cell->scope.names.lookup y.1=a3 .cell)/\(y.2=.free->(X.env.cells.lookup y.1).isSome=a5/\(X.env.kindOf y.1=a3 .cell\/X.env.kindOf y.1=a3 .free)):=λy hy=>by have:=Pb.mp hn y hy;simp only[Xg,bne_iff_ne,ne_eq,bX,beq_iff_eq]at this;obtain⟨⟨a,_⟩,c⟩:=this;exact⟨λe=>a.elim (λz=>absurd e z) id,λe=>c.elim (λz=>absurd e z) id⟩
 have nocell:∀{y:af},scope.names.lookup y=a3 .free->(y,bq)∉scope.names:=λ{y} h z=>by have q:=(hn' _ z).1 rfl;rw[h]at q;cases q
 have hloc:∀(j:Nat)(y:af),X.N[j]?=a3 y->j∉cs->scope.names.lookup y≠a3 .local/\scope.names.lookup y≠a3 .cell:=λj y hj hc=>by
  have hlt:j<X.N.length:=(X3.mp hj).1;have:=Pb.mp hN j (Xp.mpr hlt);rw[hj]at this;simp only[bX,Xg,bne_iff_ne,ne_eq]at this;rcases this with z|z
  .exact absurd (by simpa using z) hc
  .exact z
 have cl_of:∀{y:af}{c:aa},(zx X.env scope.names []).lookup y=a3 c->X.env.cells.lookup y=a3 c:=λ{y c} h=>Lb (λ_ _ z=>by cases z) h;refine aH (Er ?_);dsimp only;generalize hH2:s2.heap.push { cls:=.type "list",dict:=a6,data:=.seq ([]:List a9).toArray }=hp2;have keep1:∀b o,hp2.get? b=a3 o->(iL (hp2.push { cls:=.type "dict",data:=.dict #[] }) scope.names).get? b=a3 o:=λb o e=>lM _ _ b o (xj _ e);have hns₁:(iL (hp2.push { cls:=.type "dict",data:=.dict #[] }) scope.names).Ns hp2.objs.size (λ_=>a6):=(Heap.Ns.new hp2 (.type "dict")).keeps (lM _ _);have okl:=cellsFrom_ok scope.names (hp2.push { cls:=.type "dict",data:=.dict #[] }) (hp2.objs.size+1) [] ⟨λ_ _ hm=>(nomatch hm),List.Pairwise.nil⟩ (by rw[bK];exact X5 _);rw[bK]at okl;generalize iL (hp2.push { cls:=.type "dict",data:=.dict #[] }) scope.names=h₁ at keep1 hns₁ okl ⊢;have hC:hp2.objs.size=s2.heap.objs.size+1:=by rw[<-hH2,bK]
 have hDC:s2.heap.objs.size≠hp2.objs.size:=by rw[hC];exact Xb (du _)
 have hCle:s2.heap.objs.size<=hp2.objs.size:=by rw[hC];exact Td _
 have below:∀b,b<s2.heap.objs.size->b≠hp2.objs.size/\b≠s2.heap.objs.size:=λb hb=>⟨by rw[hC];exact Xb (d8 hb),Xb hb⟩
 have old:∀b o,s2.heap.get? b=a3 o->h₁.get? b=a3 o:=λb o e=>keep1 b o (hH2▸xj _ e);have hacc:h₁.get? s2.heap.objs.size=a3 { cls:=.type "list",dict:=a6,data:=.seq ([]:List a9).toArray }:=keep1 _ _ (hH2▸X6 _ rfl);have none_of:∀b,s2.heap.objs.size<=b->s2.heap.get? b=a6:=λb hb=>by
  cases e:s2.heap.get? b with
  |none=>rfl
  |some o'=>exact absurd (X4 e) (Nat.not_lt.mpr hb)
 have hD0:H2 s2.heap.objs.size=a6:=I2.fresh;generalize hDd:s2.heap.objs.size=Dd at *;generalize hCc:hp2.objs.size=C at *;have hC0:H2 C=a6:=I2.hok.fresh (by rw[hDd];exact hCle);have pinlt:∀p∈X.pn++pins,p.1<Dd:=λp hp=>by rw[<-hDd];exact X4 (I2.pin p hp).1
 have celllt:∀y c,X.env.cells.lookup y=a3 c->c<Dd:=λy c h=>by obtain⟨v,o,e,_⟩:=I2.cell y c h;rw[<-hDd];exact X4 e
 have loclt:X.env.locals<Dd:=by rw[<-hDd];exact I2.lt
 have fplt:∀b∈fp,b<Dd:=λb hb=>by obtain⟨o,e,_⟩:=T.obj _ _ st2 b hb;rw[<-hDd];exact X4 e
 have hDlt:Dd<C:=by omega
 have cellD:∀{y:af}{c:aa},(aL (C+1) scope.names (zx X.env scope.names [])).lookup y=a3 c->((y,c)∈aL (C+1) scope.names []/\C+1<=c)\/X.env.cells.lookup y=a3 c:=λ{y c} h=>by
  rcases Ld h with ⟨q,_,z⟩|⟨_,q⟩
  .exact .inl ⟨q,z⟩
  .exact .inr (cl_of q)
 have celln:∀{y:af}{c b:aa},(aL (C+1) scope.names (zx X.env scope.names [])).lookup y=a3 c->b<Dd->(∀c,X.env.cells.lookup y=a3 c->c≠b)->c≠b:=λ{y c b} h hb ho=>by
  rcases cellD h with ⟨_,z⟩|q
  .exact T5 (Pg hb (Pg hDlt (Sd z)))
  .exact ho c q
 have okc:(cCx X scope C s2 H2 fp (X.pn++pins)).Ok:={
  mod:=I2.ok.mod
  kind:=hkind
  glob:=I2.ok.glob
  blt:=I2.ok.blt
  above:=by show s2.heap.objs.size<=C;rw[hDd];exact hCle
  inj:=λx y c h1 h2=>by
   rcases cellD h1 with ⟨m1,z1⟩|q1<;>rcases cellD h2 with ⟨m2,z2⟩|q2
   .exact name_of_addr okl.apart m1 m2
   .exact absurd (Pg (celllt y c q2) (Pg hDlt (Sd z1))) (pq _)
   .exact absurd (Pg (celllt x c q1) (Pg hDlt (Sd z2))) (pq _)
   .exact I2.ok.inj x y c q1 q2
  has:=λx h=>by
   have key:∀k',(relabel scope X.env).names.lookup x=a3 k'->(k'=.cell\/k'=.free)->∃c,(aL (C+1) scope.names (zx X.env scope.names [])).lookup x=a3 c:=λk' hk hk'=>by
    obtain⟨k,hl,e⟩:=J7 hk
    have hm:=lookup_mem hl
    have hk0:k=.free\/k=.cell:=by
     rcases e with e|e
     .subst e
      exact hk'.symm
     .exact .inl e.1
    rcases hk0 with hk0|hk0
    .subst hk0
     exact jcg (Uy ((hn' _ hm).2 rfl).1 hm)
    .subst hk0
     exact Xq.mp (W.cellsFrom_some _ _ _ (.inl hl))
   rcases h with h|h
   .exact key _ h (.inl rfl)
   .exact key _ h (.inr rfl)
  cab:=λx c h h2=>by
   have hx:scope.names.lookup x=a3 .cell:=by simpa using h
   show s2.heap.objs.size<=c
   rw[hDd]
   rcases Ld h2 with ⟨_,_,z⟩|⟨z,_⟩
   .exact cO (Pg hDlt (Sd z))
   .obtain⟨c',hc'⟩:=Xq.mp (W.cellsFrom_some scope.names (C+1) [] (.inl hx))
    rw[z]at hc';cases hc'
  hd:=I2.ok.hd
  frames:=I2.ok.frames
  stk:=.inl rfl
  exf:=λb hb=>⟨Xb (Pg (fplt b hb) hDlt),λx c h=>celln h (fplt b hb) λc q=>(f2 b hb).2.2.2.2.1 x c q⟩
  bs:=I2.bs
  bsz:=Xk I2.ok.bsz I2.sz
  noex:=λb o e hb=>by
   rcases(f2 b hb).2.2.2.1 with z|z
   .exact I2.ok.noex b o e z
   .exact absurd (X4 e) (Nat.not_lt.mpr (Xk I2.ok.bsz z))
  exfs:=λb hb hf=>by
   rcases xn.mp (I2.stkSub b hf)with z|z
   .exact(f2 b hb).2.1 z
   .exact(f2 b hb).2.2.1 z
  funs:=I2.stack
  frf:=I2.stkFree }
 have hpush:HOk X.prog X.w (upd H2 Dd (.lst [])) h₁:=HOk.laid I2.hok old (by rw[hDd];exact X5 _) ⟨T6 _,[],_,.nil,hacc⟩;have I0:Inv (cCx X scope C s2 H2 fp (X.pn++pins)) [] (mask cs σ) (upd H2 Dd (.lst [])) { s2 with heap:=h₁ }:={
  ok:=okc
  os:=rfl
  bare:=I2.bare
  base:=Un.laid old (by rw[hDd];exact X5 _) hD0
  loc:=by
   refine⟨_,hns₁,λj y v hj hv hvis=>?_⟩
   obtain⟨hjc,hσ⟩:=j7p hv
   obtain⟨m,hm,hlook⟩:=I2.loc
   have key:∀k',(relabel scope X.env).names.lookup y=a3 k'->scope.names.lookup y=a3 .free:=λk' hk=>by
    obtain⟨k,hl,e⟩:=J7 hk
    have hmm:=lookup_mem hl
    have:k=.free:=by
     rcases e with e|e
     .subst e
      rcases hvis with z|z|z
      .have z:=hk.symm.trans z;cases z;exact absurd hl (hloc j y hj hjc).1
      .have z:=hk.symm.trans z;cases z;exact absurd hl (hloc j y hj hjc).2
      .have z:=hk.symm.trans z;cases z;rfl
     .exact e.1
    rw[hl,this]
   have hfree:scope.names.lookup y=a3 .free:=by rcases hvis with z|z|z<;>exact key _ z
   have hmm:=lookup_mem hfree
   obtain⟨hs,hk⟩:=(hn' _ hmm).2 rfl
   have hvis':Vis X.env.scope y:=by rcases hk with z|z;exact .inr (.inl z);exact .inr (.inr z)
   obtain⟨u,ru,look⟩:=hlook j y v hj hσ hvis'
   refine⟨u,ru,?_⟩
   rcases look with ⟨z,_⟩|⟨_,c,hcl,hcv⟩
   .rcases hk with y'|y'<;>rw[y']at z<;>cases z
   .refine .inr ⟨?_,c,?_,?_⟩
    .rcases hvis with z|z|z
     .exfalso
      obtain⟨k,hl,e⟩:=J7 z
      rw[hfree]at hl;cases hl
      rcases e with e|e
      .cases e
      .cases e.2
     .exact .inl z
     .exact .inr z
    .obtain⟨c',hc'⟩:=Xq.mp (Uy (acc:=[]) hs hmm)
     have:=cl_of hc'
     rw[hcl]at this;cases this
     exact(jgc (nocell hfree)).trans hc'
    .obtain⟨o,e,d⟩:=hcv
     exact⟨o,old _ _ e,d⟩
  cell:=λx c h=>by
   rcases cellD h with ⟨q,_⟩|q
   .exact⟨_,(okl.empty x c q).1⟩
   .obtain⟨v,o,e,d⟩:=I2.cell x c q
    exact⟨v,o,old _ _ e,d⟩
  free:=by show upd H2 Dd (.lst []) C=a6;rw[je (T5 hDlt)];exact hC0
  freeC:=λx c h=>by
   rcases cellD h with ⟨_,z⟩|q
   .rw[je (T5 (Pg hDlt (Sd z)))];exact I2.hok.fresh (by rw[hDd];exact cO (Pg hDlt (Sd z)))
   .rw[je (Xb (celllt x c q))];exact I2.freeC x c q
  pin:=λp hp=>by
   rw[Xv]at hp
   obtain⟨h1,h2,h3,h4,h5⟩:=I2.pin p hp
   have hlt:=pinlt p hp
   refine⟨old _ _ h1,by rw[je (Xb hlt)];exact h2,Xb (Pg hlt hDlt),λz=>?_,h5⟩
   rcases xn.mp (I2.stkSub _ z)with y|y
   .exact h3 y
   .exact h4 y
  hok:=hpush
  len:=by rw[Mj];exact I2.len }
 have hDo:Dd∉owns ρ:=R2.fresh hD0;have fpok:∀{H':Hp},(∀b∈fp,H' b=a6)->∀b∈fp,Qp (cCx X scope C s2 H2 fp (X.pn++pins)) [] H' b:=λ{H'} hn b hb =>⟨hn b hb,Xb (Pg (fplt b hb) hDlt),okc.exfs b hb,.inl hb,λx c h=>celln h (fplt b hb) λc q=>(f2 b hb).2.2.2.2.1 x c q,λp hp=>by rw[Xv]at hp;exact(f2 b hb).2.2.2.2.2 p hp⟩
 have R0:Rep X.K ρ (mask cs σ) H2:=R2.weaken (Mj _ _) λj hj=>j7o λz=>hj (hcs j z);have e0:del (upd H2 Dd (.lst [])) [Dd]=H2:=by
  rw[Ua (xu.mpr rfl)]
  funext b
  by_cases z:b∈[Dd]
  .rw[qt z,xu.mp z,hD0]
  .exact j6 z
 have loop:∀s₃:ae,s₃={ s2 with heap:=h₁ } ->
   cg (ax X.prog X.w) X.A (.compLoop (.ListComp elt [⟨tg,iter,ifs,0⟩] scope pos) 0 (.ref it) (.ref Dd) (compEnvC scope (aL (C+1) scope.names (zx X.env scope.names [])) C X.env)) (RR (.ref Dd) C) s₃:=by
  rintro s₃ rfl;refine j0h (λn s=>∃i σ' H' ys,Inv (cCx X scope C s2 H2 fp (X.pn++pins)) [] σ' H' s/\tn i s.heap/\(∀b∈fp,H' b=a6)/\i<=ds.length/\n=ds.length-i/\Rep X.K ρ σ' (del H' [Dd])/\j0 H2 (del H' [Dd])/\H' Dd=a3 (.lst ys) /\
   j5 X.K (del H' (Dd::owns ρ)) (((ds.take i).filter p).map g) ys) ?_ ds.length
   ⟨0,mask cs σ,upd H2 Dd (.lst []),[],I0,T.keep _ _ _ st2 (λb _ o e=>old b o e),λb hb=>by rw[je (Xb (fplt b hb))];exact(f2 b hb).1,T6 _,rfl,by rw[e0];exact R0,by rw[e0];exact j0.refl _,jc,rfl⟩
  rintro n s3 ⟨i,σ3,H3,ys,I3,st3,fr3,hle,rfl,R3,g3,m3,en3⟩;have F3:j0 (del H2 (owns ρ)) (del H3 (Dd::owns ρ)):=by
   have:del H3 (Dd::owns ρ)=del (del H3 [Dd]) (owns ρ):=by rw[Z5];rfl
   rw[this];exact jj g3
  obtain⟨go,stop,yld⟩:=ok i H3 (Dd::owns ρ) F3 λa ha=>by
   rcases xn.mp ha with e|ha
   .rw[e,m3];simp
   .obtain⟨xs,e⟩:=R3.owned a ha;rw[(of_del e).2];simp
  by_cases hlt:i<ds.length
  .refine thn (T.item (cCx X scope C s2 H2 fp (X.pn++pins)) rfl rfl rfl hc i [] s3 σ3 H3 (λ_ _=>False) I3 (fpok fr3) st3 (go hlt)) λr s4 ⟨u,hr,h4⟩=>?_;subst hr;refine thn h4 λ_ s5 ⟨x,H5,I5,r5,y5,st5,fr5⟩=>?_;obtain⟨g5,en5⟩:=yld x H5 y5;have hd:ds[i]?=a3 ds[i]:=kh hlt;obtain⟨ρ2,⟨sub,hG⟩,wk,eo,hT,hE⟩:=hb C s2 H2 fp (X.pn++pins) ds[i] (Xr hlt);have m5:H5 Dd=a3 (.lst ys):=g5 _ _ m3;have hA:∀a∈[Dd],Hd (H5 a):=λa ha=>.inl ⟨ys,by rw[xu.mp ha];exact m5⟩;have I5p:=I5.pinned (fpok fr5) (T.obj _ _ st5);have I5h:=I5p.hide hA;have R5:Rep X.K ρ σ3 (del H5 [Dd]):=R3.grow (jj g5);have en5':Enc X.K (del (del H5 [Dd]) (owns ρ)) ds[i] x:=by rw[Z5];exact en5 _ hd
   refine thn (hG σ3 (del H5 [Dd]) x (λσ6 F6=>F6=del H5 [Dd]/\Rep X.K ρ2 σ6 F6) R5 en5' (λσ6 R6=>⟨rfl,R6⟩) _ s5 u I5h r5) λ_ s6 ⟨σ6,F6,I6,e6,R6⟩=>?_;subst e6;refine thn (hT.run I6 R6) λokv s7 ⟨e7,F7,I7,g7⟩=>?_;subst e7;have R7:Rep X.K ρ σ6 F7:=wk _ _ _ (R6.grow g7);have g27:j0 H2 F7:=g3.trans ((jj g5).trans g7);have en7:j5 X.K (del F7 (owns ρ)) (((ds.take i).filter p).map g) ys:=en3.mono (by
    have:del H3 (Dd::owns ρ)=del (del H3 [Dd]) (owns ρ):=by rw[Z5];rfl
    rw[this];exact jj ((jj g5).trans g7))
   have iO:∀{F:Hp}{s':ae},Inv (cCx X scope C s2 H2 fp (X.pn++pins)) ([]++Y0 fp s5.heap) σ6 F s'->Inv (cCx X scope C s2 H2 fp (X.pn++pins)) [] σ6 F s'/\tn (i+1) s'.heap/\∀b∈fp,F b=a6:=λ{F s'} I=>by refine⟨I.unpinned,T.keep _ _ _ st5 λb hb o e=>(I.pin (b,o) (Xd _ (Xd _ (Qh hb e)))).1,λb hb=>?_⟩;obtain⟨o,e,d⟩:=T.obj _ _ st5 b hb;exact(I.pin (b,o) (Xd _ (Xd _ (Qh hb e)))).2.1
   have tk:ds.take (i+1)=ds.take i++[ds[i]]:=by rw[Tj,hd];rfl
   cases hp:p ds[i] with
   |false =>
    rw[if_neg xg];obtain⟨hF,I8⟩:=I5p.unhide hA I7;obtain⟨I9,st9,fr9⟩:=iO I8;refine⟨ds.length-(i+1),by omega,i+1,σ6,_,ys,I9,st9,fr9,hlt,rfl,by rw[Vr hF];exact R7,by rw[Vr hF];exact g27,by rw[J6 (xu.mpr rfl)];exact m5,?_⟩;have:del (mrg [Dd] H5 F7) (Dd::owns ρ)=del F7 (owns ρ):=by
     have e:del (mrg [Dd] H5 F7) (Dd::owns ρ)=del (del (mrg [Dd] H5 F7) [Dd]) (owns ρ):=by rw[Z5];rfl
     rw[e,Vr hF]
    rw[this,tk,sr];have e:[ds[i]].filter p=[]:=by simp[hp]
    rw[e,Xv];exact en7
   |true =>
    rw[if_pos rfl];refine thn (hE hp σ6 F7 (λv F8=>j0 F7 F8/\Enc X.K (del F8 (owns ρ2)) (g ds[i]) v) (R6.grow g7) (λv F8 g8 e8=>⟨g8,e8⟩) _ s7 I7) λy s8 ⟨v,F8,I8,r8,g8,e8⟩=>?_;obtain⟨hF,I8'⟩:=I5p.unhide hA I8;rw[eo]at e8;have eH:del (mrg [Dd] H5 F8) (Dd::owns ρ)=del F8 (owns ρ):=by
     have e:del (mrg [Dd] H5 F8) (Dd::owns ρ)=del (del (mrg [Dd] H5 F8) [Dd]) (owns ρ):=by rw[Z5];rfl
     rw[e,Vr hF]
    have hlen:ys.length<aj:=by have e1:=en7.length;have e2:((ds.take i).filter p).length<=(ds.take i).length:=Xz _ _;rw[kj]at e1;rw[Xi]at e2;omega
    refine thn (Ck _ s8 σ6 (mrg [Dd] H5 F8) (.ref Dd) [v] (.ref Dd) [y] (λ_ H9=>H9=upd (mrg [Dd] H5 F8) Dd (.lst (ys++[v]))) I8' rfl (.cons r8 .nil)
     ⟨Dd,ys,v,rfl,rfl,by rw[J6 (xu.mpr rfl)];exact m5,hlen,rfl⟩) λ_ s9 ⟨_,H9,I9,_,e9⟩=>?_
    subst e9;obtain⟨I10,st10,fr10⟩:=iO I9;have ed:del (upd (mrg [Dd] H5 F8) Dd (.lst (ys++[v]))) [Dd]=F8:=by rw[Ua (xu.mpr rfl),Vr hF]
    refine⟨ds.length-(i+1),by omega,i+1,σ6,_,ys++[v],I10,st10,fr10,hlt,rfl,by rw[ed];exact R7.grow g8,by rw[ed];exact g27.trans g8,jc,?_⟩;rw[Ua (xm ..),eH,tk,sr,Xf];have e:[ds[i]].filter p=[ds[i]]:=by simp[hp]
    rw[e];exact(en7.mono (jj g8)).append (.one e8)
  .have hi:i=ds.length:=by omega
   subst hi;refine thn (T.done (cCx X scope C s2 H2 fp (X.pn++pins)) rfl rfl rfl hc ds.length [] s3 σ3 H3 (λ_ _=>False) I3 (fpok fr3) st3 (stop (X5 _))) λr s4 ⟨hr,I4⟩=>?_;subst hr;rw[Tu]at en3;obtain⟨m,hm,_⟩:=I4.loc;refine hRR Dd C ys H3 s4 m ?_ (g3.trans jq) hD0 m3 en3 hm ⟨I4.free,T5 (Pg loclt hDlt),?_,λx c h=>Xb (Pg (celllt x c h) hDlt),λp hp=>Xb (Pg (pinlt p hp) hDlt)⟩
   .exact I2.call' (ch:=fp) I4.os I4.base I4.hok I4.bare λb hb=>⟨(f2 b hb).2.2.2.1,(f2 b hb).2.1,(f2 b hb).2.2.2.2.1,(f2 b hb).2.2.2.2.2⟩
   .have:=I2.sz;omega
 exact codeAny_compStart_list (loop _ rfl) (T.self _ 0 _ _ _ (T.keep _ _ _ st2 (λb _ o e=>old b o e)) (loop _ rfl))
end
section
variable{X:Cx}{ρ:Rho}{tg elt iter:ai}{ifs:List ai}{scope:b9}{pos p1 spos:aJ}{ds:List D}{cs:List Nat}{p:D->Bool}{g:D->D}{x:af}{P:Po}
theorem Mr{env:dj}{N:List af}(h:Jg scope env N cs=a5):∀y∈scope.names,y.2=.free->(env.cells.lookup y.1).isSome=a5:=λy hy e=>by unfold Jg at h;rw[Xg]at h;have:=Pb.mp h.1 y hy;simp only[Xg,bne_iff_ne,ne_eq,bX]at this;exact this.2.elim (λz=>absurd e z) λz=>z.1
theorem Wz{env:dj}{N:List af}(h:Jg scope env N cs=a5):∀y∈scope.names,y.2=.local->scope.names.lookup y.1=a3 .local:=λy hy e=>by unfold Jg at h;rw[Xg]at h;have:=Pb.mp h.1 y hy;simp only[Xg,bne_iff_ne,ne_eq,bX,beq_iff_eq]at this;exact this.1.2.elim (λz=>absurd e z) λz=>z
theorem Inv.loose{pins:k92}{σ:St}{H:Hp}{s:ae}{C:aa}{h':aD}(I:Inv X pins σ H s)(L:Loose X pins H C)(sb:cf C s.heap h'):Inv X pins σ H { s with heap:=h' } :=
 I.turned (t':=s.toks) (λb o hb e=>sb.extBut b o hb e) L.free L.loc (.inr L.new) L.cell L.pin
theorem DO.comp(cs:List Nat)(p:D->Bool)(g:D->D)(hi:DI X ρ tg iter ds)
  (hb:∀C s H fp pn,∀d∈ds,∃ρ2,DG (cCx X scope C s H fp pn) ρ tg d ρ2/\Wk ρ2 ρ/\owns ρ2=owns ρ/\DTs (cCx X scope C s H fp pn) ρ2 ifs (p d)/\(p d=a5->DE (cCx X scope C s H fp pn) ρ2 elt (g d)))
  (hcs:∀j∈cs,ρ[j]?=a3 .un) (hsz:ds.length<=aj) (hc:X.calm=a5:=by rfl) (hkind:scope.kind=.function:=by rfl) (hok:Jg scope X.env X.N cs=a5:=by rfl)
  (hs:∀x,aC iter X.env x=pure x:=by intro _;rfl):DO X ρ (.ListComp elt [⟨tg,iter,ifs,0⟩] scope pos) ((ds.filter p).map g):=λσ H Q R q pins s I=>by
 rw[eval_ListComp];refine iA (use:=a6) rfl hs (By (Mr hok)) hkind (Wz hok) (thn (hi σ H (λJ H'=>j0 H H'/\U5 X.K (del H' (owns ρ)) J ds) R (λJ H' g1 ok=>⟨g1,ok⟩) pins s I) λv s1 h1=>thn h1 λitv s2 h2=>?_);obtain⟨it,fp,tn,J,H2,e,I2,T,st2,f2,g2,ok⟩:=h2;subst e;refine Cz (RR:=λacc C=>compPost (ax X.prog X.w) X.A X.xe a6 (EP X pins σ Q) acc C) I2 (R.grow g2) T st2 f2 ok hc hkind hok hcs hsz hb ?_;intro D C xs H' s' m I' gg n m' en hm L;exact⟨m,hm,λh' sb=>⟨.ref D,H',I'.loose L sb,rfl,q D xs H' (g2.trans gg) (g2.free n) m' en⟩⟩
theorem Wk.set{i:Nat}{d:D}(h:ρ[i]?=a3 .un):Wk (ρ.set i (.val d)) ρ:=λK σ H R=>by
 have q:=R.set_un (i:=i) (v:=(σ[i]?).join);have e:σ.set i ((σ[i]?).join)=σ:=by
  apply Sg;intro j;rw[d5];split
  .rename_i h;subst h;split
   .rename_i h;rw[kh h];rfl
   .rename_i h;rw[ph nofun]
  .rfl
 have e2:(ρ.set i (.val d)).set i .un=ρ:=by
  rw[List.set_set];apply Sg;intro j;rw[d5];split
  .rename_i z;subst z;split
   .rw[h]
   .rename_i z;rw[ph nofun]at h;cases h
  .rfl
 rw[e,e2]at q;exact q
theorem V2{i:Nat}{d:D}(h:ρ[i]?=a3 .un):owns (ρ.set i (.val d))=owns ρ:=Mg rfl λa l z=>by rw[h]at z;cases z
end
section
variable{prog:au}{w:aA}{A:aB}{E:k91}{s:ae}
theorem j3n{j t:aa}{k:Nat}{its:Array a9}{y:a9}{Q:k91}(hj:s.heap.IsTupleIter j t k)(ht:s.heap.IsTuple t its)(hy:its[k]?=a3 y)
  (q:∀h',h'.IsTupleIter j t (k+1)->cf j s.heap h'->Q y { s with heap:=h' }):ao (ax prog w) A (aV (.ref j)) Q E s:=by
 obtain⟨o,ho,hc,hd⟩:=id hj;obtain⟨ot,hot,_,m,hdt⟩:=ht;unfold aV;refine a8 (bu (name:=aU "__next__") hj.typeIs bR (br bR hj.typeIs gn ?_ (g9 _)));show ao _ _ (field (.ref j) 0 >>= _) _ _ s;refine a8 (bV ho hd (x:=.ref t) rfl ?_);show ao _ _ (if (az t==aR)=a5 then _ else _) _ _ s;rw[if_neg (show ¬((az t==aR)=a5)from xg)];show ao _ _ (field (.ref j) 1 >>= _) _ _ s;refine a8 (bV ho hd (x:=.int k 0) rfl ?_);show ao _ _ (gc (.ref t) >>= _) _ _ s;refine a8 (df hot hdt ?_);simp only[Xm,hy];refine a8 (eO ho hd (by simp) (ah ⟨y,rfl,ah (q _ ?_ (T4 ..))⟩));exact⟨_,gO _ ho (ib (cT hd _)),(jE ..).trans hc,by rw[cT hd];simp[dh]⟩
theorem j5r{j t:aa}{k:Nat}{its:Array a9}{Q:k91}(hh:A.handled=a6)(hj:s.heap.IsTupleIter j t k)(ht:s.heap.IsTuple t its)(hy:its[k]?=a6)
  (q:∀h' x,dM j s.heap h'->(∃o,h'.get? x=a3 o/\o.cls=.type "StopIteration")->E (.ref x) { s with heap:=h' }):ao (ax prog w) A (aV (.ref j)) Q E s:=by
 obtain⟨o,ho,hc,hd⟩:=id hj;obtain⟨ot,hot,_,m,hdt⟩:=ht;unfold aV;refine a8 (bu (name:=aU "__next__") hj.typeIs bR (br bR hj.typeIs gn ?_ (g9 _)));show ao _ _ (field (.ref j) 0 >>= _) _ _ s;refine a8 (bV ho hd (x:=.ref t) rfl ?_);show ao _ _ (if (az t==aR)=a5 then _ else _) _ _ s;rw[if_neg (show ¬((az t==aR)=a5)from xg)];show ao _ _ (field (.ref j) 1 >>= _) _ _ s;refine a8 (bV ho hd (x:=.int k 0) rfl ?_);show ao _ _ (gc (.ref t) >>= _) _ _ s;refine a8 (df hot hdt ?_);simp only[Xm,hy];refine a8 (wpAny_rule (a8 (eO ho hd (by simp) ?_)));show ao _ _ (lX (.type "StopIteration") [] >>= _) _ _ _;refine a8 ?_;simp only[lX,newTuple];refine a8 (aH ?_ (by size_fits));refine a8 (m:=eT _ _) (gp (a:=aR) (by first|rfl|(simp only[eT];rfl)) ?_);refine aH ?_ (by size_fits);simp only[raiseNew];refine a8 (m8 ?_)
 first|rw[show A.in1.handled=a6 from hh]|rw[hh]
 refine a8 (ah (wpAny_throw ?_));exact q _ _ (((T4 ..).extBut.push _).push _) ⟨_,X6 _ rfl,rfl⟩
end
def z9(lst:Bool)(h:aD)(j t:aa)(k:Nat):Prop:=if lst=a5 then h.IsListIter j t k else h.IsTupleIter j t k
def qw(lst:Bool)(h:aD)(t:aa)(its:Array a9):Prop:=if lst=a5 then h.IsList t its else h.IsTuple t its
section
variable{prog:au}{w:aA}{A:aB}{E:k91}{s:ae}{lst:Bool}{h h':aD}{j t b:aa}{k:Nat}{its:Array a9}
theorem z9.ext(x:z9 lst h j t k)(e:dM b h h')(n:j≠b):z9 lst h' j t k:=by
 unfold z9 at x ⊢;cases lst with
 |true=>rw[if_pos rfl]at x ⊢;exact x.extBut e n
 |false=>rw[if_neg xg]at x ⊢;exact x.extBut e n
theorem z9.stay(x:z9 lst h j t k)(e:∀o,h.get? j=a3 o->h'.get? j=a3 o):z9 lst h' j t k:=by
 unfold z9 at x ⊢;cases lst with
 |true=>rw[if_pos rfl]at x ⊢;exact x.at e
 |false=>rw[if_neg xg]at x ⊢;exact x.at e
theorem z9.obj(x:z9 lst h j t k):∃o,h.get? j=a3 o/\∀v,o.data≠.cell v:=by
 unfold z9 at x;cases lst with
 |true=>rw[if_pos rfl]at x;obtain⟨o,e,c,d⟩:=x;exact⟨o,e,λv z=>by rw[d]at z;cases z⟩
 |false=>rw[if_neg xg]at x;obtain⟨o,e,c,d⟩:=x;exact⟨o,e,λv z=>by rw[d]at z;cases z⟩
theorem qw.ext(x:qw lst h t its)(e:dM b h h')(n:t≠b):qw lst h' t its:=by
 unfold qw at x ⊢;cases lst with
 |true=>rw[if_pos rfl]at x ⊢;exact x.extBut e n
 |false=>rw[if_neg xg]at x ⊢;exact x.extBut e n
theorem j4b{y:a9}{Q:k91}(hj:z9 lst s.heap j t k)(ht:qw lst s.heap t its)(hy:its[k]?=a3 y)
  (q:∀h',z9 lst h' j t (k+1)->cf j s.heap h'->Q y { s with heap:=h' }):ao (ax prog w) A (aV (.ref j)) Q E s:=by
 unfold z9 at hj q;unfold qw at ht;cases lst with
 |true=>rw[if_pos rfl]at hj ht;simp only[if_true]at q;exact wpAny_nextOf_list_item hj ht hy q
 |false=>rw[if_neg xg]at hj ht;simp only[Pa,if_false]at q;exact j3n hj ht hy q
theorem Ij{Q:k91}(hh:A.handled=a6)(hj:z9 lst s.heap j t k)(ht:qw lst s.heap t its)(hy:its[k]?=a6)
  (q:∀h' x,dM j s.heap h'->(∃o,h'.get? x=a3 o/\o.cls=.type "StopIteration")->E (.ref x) { s with heap:=h' }):ao (ax prog w) A (aV (.ref j)) Q E s:=by
 unfold z9 at hj;unfold qw at ht;cases lst with
 |true=>rw[if_pos rfl]at hj ht;exact wpAny_nextOf_list_end hh hj ht hy q
 |false=>rw[if_neg xg]at hj ht;exact j5r hh hj ht hy q
end
section
variable{prog:au}{w:aA}{A:aB}{E:k91}{s:ae}{l1 l2:Bool}{z TI TO i1 i2 t1 t2:aa}{k:Nat}{us vs:Array a9}{x y a b:a9}
end
noncomputable def Ik(lst:Bool):String:=if lst=a5 then "list_iterator" else "tuple_iterator"
noncomputable abbrev zh1(h:aD)(l1:Bool)(t1:aa):aD:=h.push { cls:=.type (Ik l1),data:=.fields #[.ref t1,.int 0 0] }
section
variable{prog:au}{w:aA}{A:aB}{E:k91}{s:ae}{l1 l2:Bool}{t1 t2:aa}{us vs:Array a9}
theorem Wn{lst:Bool}{t:aa}{its:Array a9}{Q:k91}(h:qw lst s.heap t its)(q:Q (.ref s.heap.objs.size) { s with heap:=zh1 s.heap lst t }):ao (ax prog w) A (j3 (.ref t)) Q E s:=by
 unfold qw at h;cases lst with
 |true=>rw[if_pos rfl]at h;exact bN h q
 |false=>rw[if_neg xg]at h;exact fD h q
end
def SqB(K:k90)(lst:Bool)(H:Hp)(a:aa)(xs:List V):Prop:=if lst=a5 then SqL K H a xs else SqT K H a xs
section
variable{X:Cx}{pins:k92}{σ:St}{H:Hp}{s:ae}{a p:aa}{xs ys:List V}{lst:Bool}{ch:List aa}{h':aD}
theorem j0.seqB{K:k90}{H':Hp}(e:j0 H H')(h:SqB K lst H a xs):SqB K lst H' a xs:=by
 unfold SqB at h ⊢;cases lst with
 |true=>rw[if_pos rfl]at h ⊢;exact e.seq h
 |false=>rw[if_neg xg]at h ⊢;exact e.seqT h
theorem Inv.side(I:Inv X pins σ H s)(h:SqB X.K lst H a xs):∃us:List a9,Vals xs us/\qw lst s.heap a us.toArray/\xs.length<=aj:=by
 unfold SqB at h;unfold qw;cases lst with
 |true=>rw[if_pos rfl]at h;obtain⟨its,r,q,l⟩:=I.list h;exact⟨its,r,by rw[if_pos rfl];exact q.isList,l⟩
 |false=>rw[if_neg xg]at h;obtain⟨its,r,q,l⟩:=I.tuple h;exact⟨its,r,by rw[if_neg xg];exact q,l⟩
theorem Inv.side_inj(I:Inv X pins σ H s)(h:SqB X.K lst H a xs)(h':SqB X.K lst H a ys):xs=ys:=by
 unfold SqB at h h';cases lst with
 |true=>rw[if_pos rfl]at h h';exact I.list_inj h h'
 |false=>rw[if_neg xg]at h h';exact I.tuple_inj h h'
theorem Inv.chg(I:Inv X pins σ H s)(hf:∀b∈ch,Qp X pins H b)(kp:∀c o,c∉ch->s.heap.get? c=a3 o->h'.get? c=a3 o):Inv X pins σ H { s with heap:=h' }:=by
 refine I.step (g':=s.gens) (t':=s.toks) (d':=s.drawn) (ch:=ch) (λb hb=>⟨(hf b hb).2.2.2.1,(hf b hb).2.1,(hf b hb).2.2.2.2.1,(hf b hb).2.2.2.2.2⟩) (λb o _ _ nc e _=>kp b o nc e) (λb o _ _ nc e _=>⟨o.slots,kp b o nc e⟩)
  (λb o _ _ n=>n) (λb o nc e=>⟨o,kp b o nc e⟩) (λb xs e=>e) (λb o u e=>e) (λb ps e=>⟨#[],by rw[e];simp⟩) (λm hm=>hm.at' λo e=>kp _ o (λz=>(hf _ z).2.1 rfl) e) (λc o e=>?_) I.bare
 have out:∀{b:aa}{u:HO},H b=a3 u->b∉ch:=λ{b u} q z=>by rw[(hf b z).1]at q;cases q
 refine ji.stay (I.hok c o e) (λb u hb q=>kp b u ?_ q) (λb q=>q) (λb xs q=>q) (λb _ _ q=>q);rcases hb with hb|hb
 .subst hb;exact out e
 .exact out hb
theorem Inv.chgT(I:Inv X pins σ H s)(hf:∀b∈ch,Qp X pins H b)(kp:∀c o,c∉ch->s.heap.get? c=a3 o->h'.get? c=a3 o){us:List a9}(rv:Vals xs us)(hl:xs.length<=aj)
  (hp:hZ h' s.heap.objs.size us.toArray) (hq:Zf h' s.heap.objs.size):Inv X pins σ (upd H s.heap.objs.size (.tup xs)) { s with heap:=h' }:=by
 have hn:=I.fresh;have nz:∀{b:aa}{o:cC},s.heap.get? b=a3 o->b≠s.heap.objs.size:=λ{b o} e=>Xb (X4 e);have tr:∀{b:aa}{u:HO},H b=a3 u->upd H s.heap.objs.size (.tup xs) b=a3 u:=λ{b u} e=>by rw[je (v7 e hn)];exact e
 refine I.step (g':=s.gens) (t':=s.toks) (d':=s.drawn) (ch:=ch) (λb hb=>⟨(hf b hb).2.2.2.1,(hf b hb).2.1,(hf b hb).2.2.2.2.1,(hf b hb).2.2.2.2.2⟩) (λb o _ _ nc e _=>kp b o nc e) (λb o _ _ nc e _=>⟨o.slots,kp b o nc e⟩)
  (λb o _ e n=>by rw[je (nz e)];exact n) (λb o nc e=>⟨o,kp b o nc e⟩) (λb xs e=>tr e) (λb o u e=>tr e) (λb ps e=>⟨#[],by rw[tr e];simp⟩) (λm hm=>hm.at' λo e=>kp _ o (λz=>(hf _ z).2.1 rfl) e) (λc o e=>?_) I.bare
 have out:∀{b:aa}{u:HO},H b=a3 u->b∉ch:=λ{b u} q z=>by rw[(hf b z).1]at q;cases q
 by_cases z:c=s.heap.objs.size
 .subst z;rw[jc]at e;cases e;exact⟨hl,us,rv,hp,hq⟩
 .rw[je z]at e;refine ji.stay (I.hok c o e) (λb u hb q=>kp b u ?_ q) (λb q=>tr q) (λb xs q=>tr q) (λb _ _ q=>tr q);rcases hb with hb|hb
  .subst hb;exact out e
  .exact out hb
end
section
variable{X:Cx}{ρ:Rho}{a b:ai}{es:List ai}{n:Nat}{pos p q1 q2:aJ}{ds ds':List D}{l1 l2:Bool}
noncomputable def D.seq(lst:Bool)(ds:List D):D:=if lst=a5 then .lst ds else .tup ds
theorem Zu{K:k90}{H:Hp}{lst:Bool}{v:V}(h:Enc K H (D.seq lst ds) v):∃t xs,v=.ref t/\SqB K lst H t xs/\j5 K H ds xs:=by
 unfold D.seq at h;unfold SqB;cases lst with
 |true=>rw[if_pos rfl]at h;obtain⟨t,xs,e,s,l⟩:=h;exact⟨t,xs,e,by rw[if_pos rfl];exact s,l⟩
 |false=>rw[if_neg xg]at h;obtain⟨t,xs,e,s,l⟩:=h;exact⟨t,xs,e,by rw[if_neg xg];exact s,l⟩
theorem DG.pair{x y:af}(i j:Nat){d d':D}(hij:i≠j)(hN:X.N.Nodup)(hi:X.N[i]?=a3 x:=by rfl)(hj:X.N[j]?=a3 y:=by rfl)(hx:Loc X.env.scope x:=by first|exact aQ rfl|exact bf rfl)(hy:Loc X.env.scope y:=by first|exact aQ rfl|exact bf rfl)
  (fx:X.fn x=a5\/X.env.scope.names.lookup x=a3 .local:=by first|exact .inl rfl|exact .inr rfl) (fy:X.fn y=a5\/X.env.scope.names.lookup y=a3 .local:=by first|exact .inl rfl|exact .inr rfl) (hc:X.calm=a5:=by rfl)
  (hn:(bF [.Name x q1,.Name y q2] X.env).length=2:=by rfl) (hst:(bF [.Name x q1,.Name y q2] X.env).findIdx? (·.1)=a6:=by rfl)
  (e1:(bF [.Name x q1,.Name y q2] X.env).map (·.2)=eU (.Name x q1) X.env::(bF [.Name y q2] X.env).map (·.2):=by rfl) (e2:(bF [.Name y q2] X.env).map (·.2)=eU (.Name y q2) X.env::(bF [] X.env).map (·.2):=by rfl) :
  DG X ρ (.Tuple [.Name x q1,.Name y q2] n pos) (.tup [d,d']) ((ρ.set i (.val d)).set j (.val d')):=by
 refine⟨λb hb=>(jf rfl).subset ((jf rfl).subset hb),λσ H v Q R en q=>?_⟩;obtain⟨t,xs,ev,sq,u,r,e,eu,u',r',e',eu',er⟩:=en;subst e e' ev er;refine(j4r hc (Y4 (Zm hN hi hx fx) (Y4 (Zm hN hj hy fy) j1m e2) e1) hn hst).to ⟨t,[u,u'],rfl,jq.seqT sq,rfl,u,[u'],rfl,u',[],rfl,rfl,?_⟩;refine q _ ?_;have R1:Rep X.K (ρ.set i (.val d)) (σ.set i (a3 u)) H:=R.set_val eu;exact R1.set_val (eu'.mono (v5 λb hb=>(jf rfl).subset hb))
end
noncomputable def D.ty:D->String
 |.non=>"NoneType"
 |.bl _=>"bool"
 |.int _=>"int"
 |.str _=>"str"
 |.tup _=>"tuple"
 |.lst _=>"list"
 |.dct _ _=>"dict"
 |.sct _=>"dict"
 |.fn _ _=>"function"
section
variable{X:Cx}{pins:k92}{σ:St}{H:Hp}{s:ae}{A:aB}{E:k91}{Q:k91}{c:a9}{b:Bool}
theorem jeu {d:D} {v:V} {u:a9} (I:Inv X pins σ H s) (en:Enc X.K H d v) (r:RelV v u) (nf:d.ty ≠ "function"):∃P:aD->Prop,jM X.K u (.type d.ty) P/\P s.heap/\u≠.builtin "__main__.__loader__#opaque":=by
 cases d with
 |non=>cases(show v=.non from en);cases(show u=aR from r);exact⟨_,W.kitx_none,trivial,λz=>nomatch z⟩
 |bl k=>cases(show v=.bl k from en);cases(show u=bp k from r);exact⟨_,W.kitx_bool,trivial,λz=>nomatch z⟩
 |int k=>cases(show v=.int k from en);obtain⟨t,q⟩:=(show ∃t,u=b8 k t from r);cases q;exact⟨_,W.kitx_int,trivial,λz=>nomatch z⟩
 |str k=>cases(show v=.str k from en);obtain⟨t,q⟩:=(show ∃t,u=bg k t from r);cases q;exact⟨_,W.kitx_str,trivial,λz=>nomatch z⟩
 |tup l =>obtain⟨a,xs,e,sq,_⟩:=en;subst e;cases(show u=az a from r);obtain⟨its,_,⟨o,h1,h2,_⟩,_⟩:=I.tuple sq;exact⟨_,W.kitx_tuple,⟨o,h1,h2⟩,λz=>nomatch z⟩
 |lst l =>obtain⟨a,xs,e,sq,_⟩:=en;subst e;cases(show u=az a from r);obtain⟨its,_,⟨o,n,h1,h2,_⟩,_⟩:=I.list sq;exact⟨_,W.kitx_list,⟨o,h1,h2⟩,λz=>nomatch z⟩
 |dct ks l =>
  obtain⟨a,xs,ep,vs,e,hx,_⟩:=en;subst e;cases(show u=az a from r);obtain⟨_,_,_,o,es,h1,h2,_⟩:=(show ji X.prog X.w H s.heap a (.dI xs ep)from I.hok _ _ hx)
  exact⟨_,W.kitx_dict,⟨o,h1,h2.1⟩,λz=>nomatch z⟩
 |sct k =>
  obtain⟨a,e,hx⟩:=en;subst e;cases(show u=az a from r);obtain⟨_,_,vs,_,o,es,ep,h1,h2,_⟩:=(show ji X.prog X.w H s.heap a (.dK (kvI k))from I.hok _ _ hx)
  exact⟨_,W.kitx_dict,⟨o,h1,h2.1⟩,λz=>nomatch z⟩
 |fn x l=>exact absurd rfl nf
theorem j6b:Ja X (.builtin "isinstance") (λxs H Q=>∃v d c b,xs=[v,.ty c]/\Enc X.K H d v/\d.ty ≠ "function"/\W.kitOne X.K (.type d.ty) (.type c)=a3 b/\Q (.bl b) H):=by rintro pins s σ H xs us Q I r ⟨v,d,c,b,e,en,nf,k,q⟩;subst e;obtain⟨u,u',eu,r1,r2⟩:=vals2 r;subst eu;cases(show u'=eC c from r2);obtain⟨P,Z,hp,hn⟩:=jeu I en r1 nf;exact W.kia_one Z I.kIn hp k hn λtk=>⟨.bl b,H,I.tok tk,rfl,q⟩
end
section
variable{X:Cx}{ρ:Rho}{a b:ai}{d:D}{pos p p1 p2 p3:aJ}{T T1 T2:af}{c c1 c2:String}{k:Bool}{n:Nat}
theorem j9d (hg:Gl X T) (hm:X.mg T=a6) (hv:bE T=a3 (.type c)) (hn:T ≠ "__name__":=by decide) (hd:(T==k94)=a4:=by decide):PE X (.Name T p) (tC (.ty c)):=jb1 hg hm hv rfl hn hd
theorem DE.isi1 (ha:DT X ρ a d) (nf:d.ty ≠ "function") (hm:X.mg "isinstance" = a6) (hT:X.mg T=a6) (hv:bE T=a3 (.type c)) (hk:W.kitOne X.K (.type d.ty) (.type c)=a3 k) (hg:Gl X "isinstance":=by rfl) (hg2:Gl X T:=by rfl)
  (hn:T ≠ "__name__":=by decide) (hd:(T==k94)=a4:=by decide)
  (hs:a7 [a,.Name T p2] X.env=(a4,ay a X.env)::a7 [.Name T p2] X.env:=by rfl) (hs2:a7 [.Name T p2] X.env=(a4,ay (.Name T p2) X.env)::a7 [] X.env:=by rfl) (hpl:(aK pos (a7 [.Name T p2] X.env)).any (·.1)=a4:=by rfl) :
  DE X ρ (.Call (.Name "isinstance" p) [a,.Name T p2] [] pos) (.bl k):=λσ H Q R q =>
 (zq j6b hg hm dX (jb peS (jb (j9d hg2 hT hv hn hd) jo hs2) hs) (by decide) (by decide) hs hpl).to (ha σ H _ R λv H1 g1 e1=>⟨v,d,c,k,rfl,e1,nf,hk,q _ H1 g1 rfl⟩)
end
mutual
noncomputable def deq:D->D->Bool
 |.non,.non=>a5
 |.bl a,.bl b=>a==b
 |.bl a,.int b=>(if a then 1 else 0)==b
 |.int a,.bl b=>a==(if b then 1 else 0)
 |.int a,.int b=>a==b
 |.str a,.str b=>a==b
 |.tup xs,.tup ys=>zy xs ys
 |.lst xs,.lst ys=>zy xs ys
 |.dct k xs,.dct m ys=>decide (k=m)&&zy xs ys
 |.sct k,.sct m=>decide (k=m)
 |_,_=>a4
noncomputable def zy:List D->List D->Bool
 |[],[]=>a5
 |x::xs,y::ys=>deq x y&&zy xs ys
 |_,_=>a4
end
theorem jg4{a b:Bool}:deq (.bl a) (.bl b)=(a==b):=(rfl)
theorem j0d{a b:Int}:deq (.int a) (.int b)=(a==b):=(rfl)
theorem j0b{a b:af}:deq (.str a) (.str b)=(a==b):=(rfl)
theorem Bv{a b:List D}:deq (.tup a) (.tup b)=zy a b:=(rfl)
theorem j0c{a b:List D}:deq (.lst a) (.lst b)=zy a b:=(rfl)
theorem Yc:zy [] []=a5:=(rfl)
theorem Qc{x y:D}{xs ys:List D}:zy (x::xs) (y::ys)=(deq x y&&zy xs ys):=(rfl)
theorem Rz{y:D}{ys:List D}:zy [] (y::ys)=a4:=(rfl)
theorem M3{x:D}{xs:List D}:zy (x::xs) []=a4:=(rfl)
mutual
noncomputable def D.dep:D->Nat
 |.tup xs=>D.depL xs+1
 |.lst xs=>D.depL xs+1
 |.dct _ _=>20000
 |.sct _=>20000
 |.fn _ _=>20000
 |_=>0
noncomputable def D.depL:List D->Nat
 |[]=>0
 |x::xs=>max x.dep (D.depL xs)
end
mutual
theorem Ol:∀d:D,d.dep<10000->deq d d=a5
 |.non,_=>rfl
 |.bl b,_=>by rw[jg4];simp
 |.int i,_=>by rw[j0d];simp
 |.str x,_=>by rw[j0b];simp
 |.tup xs,h=>by rw[Bv];exact Ww xs (by simp only[D.dep]at h;omega)
 |.lst xs,h=>by rw[j0c];exact Ww xs (by simp only[D.dep]at h;omega)
 |.dct _ _,h=>by simp[D.dep]at h
 |.sct _,h=>by simp[D.dep]at h
 |.fn _ _,h=>by simp[D.dep]at h
theorem Ww:∀ds:List D,D.depL ds<10000->zy ds ds=a5
 |[],_=>rfl
 |d::ds,h=>by rw[D.depL]at h;rw[Qc,Ol d nofun,Ww ds nofun];rfl
end
theorem Yd:∀{xs ys:List D},xs.length≠ys.length->zy xs ys=a4
 |[],[],h=>absurd rfl h
 |[],_::_,_=>by simp[Yc,Qc,Rz,M3]
 |_::_,[],_=>by simp[Yc,Qc,Rz,M3]
 |x::xs,y::ys,h=>by have:=Yd (xs:=xs) (ys:=ys) (by simpa using h);simp[Yc,Qc,Rz,M3,this]
theorem Za{f:Nat->Bool}:∀{xs ys:List D},xs.length=ys.length->(∀(j:Nat) x y,xs[j]?=a3 x->ys[j]?=a3 y->f j=deq x y)->(ar xs.length).all f=zy xs ys
 |[],[],_,_=>by simp[Yc,Qc,Rz,M3]
 |[],_::_,h,_=>by simp at h
 |_::_,[],h,_=>by simp at h
 |x::xs,y::ys,h,hf=>by have ih:=Za (f:=λj=>f (j+1)) (xs:=xs) (ys:=ys) (by simpa using h) (λj a b ha hb=>hf (j+1) a b (by simpa using ha) (by simpa using hb));rw[xq,cj,gx,hf 0 x y rfl rfl,kK];simp only[Qc];rw[<-ih];rfl
section
variable{X:Cx}{pins:k92}{σ:St}{H:Hp}{s:ae}
theorem Em(I:Inv X pins σ H s){a:aa}{xs ys:List V}(h:SqT X.K H a xs)(h':SqL X.K H a ys):False:=by obtain⟨_,_,⟨o,h1,h2,_⟩,_⟩:=I.tuple h;obtain⟨_,_,⟨o',n,h1',h2',_⟩,_⟩:=I.list h';rw[h1]at h1';cases h1';rw[h2]at h2';injection h2' with e;exact absurd e (by decide)
noncomputable def D.atom:D->Option V
 |.non=>a3 .non
 |.bl b=>a3 (.bl b)
 |.int i=>a3 (.int i)
 |.str x=>a3 (.str x)
 |_=>a6
theorem Enc.at_{K:k90}{d:D}{v u:V}(h:Enc K H d v)(e:d.atom=a3 u):v=u:=by
 cases d with
 |non=>cases e;exact(show v=.non from h)
 |bl b=>cases e;exact(show v=.bl b from h)
 |int i=>cases e;exact(show v=.int i from h)
 |str x=>cases e;exact(show v=.str x from h)
 |_=>cases e
theorem Enc.ref{K:k90}{d:D}{v:V}(h:Enc K H d v)(e:d.atom=a6):∃a,v=.ref a:=by
 cases d with
 |tup l=>obtain⟨a,_,e,_⟩:=h;exact⟨a,e⟩
 |lst l=>obtain⟨a,_,e,_⟩:=h;exact⟨a,e⟩
 |dct k l=>obtain⟨a,_,_,_,e,_⟩:=h;exact⟨a,e⟩
 |sct k=>obtain⟨a,e,_⟩:=h;exact⟨a,e⟩
 |fn x l=>obtain⟨a,_,_,_,_,e,_⟩:=h;exact⟨a,e⟩
 |_=>cases e
theorem j91{d d':D}{u:V}(h:d.atom=a3 u)(h':d'.atom=a3 u):d=d':=by cases d<;>cases d'<;>first|(cases h;done)|(cases h';done)|(cases h;cases h';rfl)|(cases h;cases h')
theorem j0p{d:D}{a:aa}(h:d.atom=a3 (.ref a)):False:=by cases d<;>cases h
theorem jfa(I:Inv X pins σ H s){d d':D}{v:V}(hd:d.dep<10000)(hd':d'.dep<10000)(h:Enc X.K H d v)(h':Enc X.K H d' v) :
  d=d'\/∃ds ds' xs,((d=.tup ds/\d'=.tup ds')\/(d=.lst ds/\d'=.lst ds'))/\j5 X.K H ds xs/\j5 X.K H ds' xs:=by
 cases e:d.atom with
 |some u =>
  have ev:=h.at_ e;subst ev;cases e':d'.atom with
  |some u'=>exact .inl (j91 e ((h'.at_ e')▸e'))
  |none=>obtain⟨a,ea⟩:=h'.ref e';subst ea;exact(j0p e).elim
 |none =>
  cases e':d'.atom with
  |some u'=>have ev:=h'.at_ e';subst ev;obtain⟨a,ea⟩:=h.ref e;subst ea;exact(j0p e').elim
  |none =>
   cases d with
   |tup ds =>
    obtain⟨a,xs,ea,sq,l⟩:=h;cases d' with
    |tup ds' =>obtain⟨a',ys,eb,sq',l'⟩:=h';rw[ea]at eb;cases eb;rw[I.tuple_inj sq' sq]at l';exact .inr ⟨ds,ds',xs,.inl ⟨rfl,rfl⟩,l,l'⟩
    |lst ds'=>obtain⟨a',ys,eb,sq',l'⟩:=h';rw[ea]at eb;cases eb;exact(Em I sq sq').elim
    |dct _ _=>simp[D.dep]at hd'
    |sct _=>simp[D.dep]at hd'
    |fn _ _=>simp[D.dep]at hd'
    |_=>cases e'
   |lst ds =>
    obtain⟨a,xs,ea,sq,l⟩:=h;cases d' with
    |lst ds' =>obtain⟨a',ys,eb,sq',l'⟩:=h';rw[ea]at eb;cases eb;rw[I.list_inj sq' sq]at l';exact .inr ⟨ds,ds',xs,.inr ⟨rfl,rfl⟩,l,l'⟩
    |tup ds'=>obtain⟨a',ys,eb,sq',l'⟩:=h';rw[ea]at eb;cases eb;exact(Em I sq' sq).elim
    |dct _ _=>simp[D.dep]at hd'
    |sct _=>simp[D.dep]at hd'
    |fn _ _=>simp[D.dep]at hd'
    |_=>cases e'
   |dct _ _=>simp[D.dep]at hd
   |sct _=>simp[D.dep]at hd
   |fn _ _=>simp[D.dep]at hd
   |_=>cases e
theorem j83{n:Nat}(ih:∀{d d':D}{v:V},d.dep<=n->d.dep<10000->d'.dep<10000->Enc X.K H d v->Enc X.K H d' v->d=d'):∀{ds ds':List D}{xs:List V},D.depL ds<=n->D.depL ds<10000->D.depL ds'<10000->j5 X.K H ds xs->j5 X.K H ds' xs->ds=ds'
 |[],[],_,_,_,_,_,_=>rfl
 |[],_::_,_,_,_,_,h,⟨x,r,e,_⟩=>by cases h;cases e
 |_::_,[],_,_,_,_,⟨x,r,e,_⟩,h=>by cases h;cases e
 |d::ds,d'::ds',_,m,n1,n2,⟨x,r,e,h,l⟩,⟨x',r',e',h',l'⟩=>by subst e;cases e';rw[D.depL]at m n1 n2;rw[ih nofun nofun nofun h h',j83 ih nofun nofun nofun l l']
theorem j82(I:Inv X pins σ H s):∀(n:Nat){d d':D}{v:V},d.dep<=n->d.dep<10000->d'.dep<10000->Enc X.K H d v->Enc X.K H d' v->d=d'
 |0,d,d',v,hn,hd,hd',h,h'=>by
  rcases jfa I hd hd' h h' with e|⟨ds,ds',xs,⟨e,_⟩|⟨e,_⟩,_⟩
  .exact e
  .subst e;simp[D.dep]at hn
  .subst e;simp[D.dep]at hn
 |n+1,d,d',v,hn,hd,hd',h,h'=>by
  rcases jfa I hd hd' h h' with e|⟨ds,ds',xs,⟨e,e'⟩|⟨e,e'⟩,l,l'⟩
  .exact e
  .subst e e';simp only[D.dep]at hn hd hd';rw[j83 (λa b c=>j82 I n a b c) nofun nofun nofun l l']
  .subst e e';simp only[D.dep]at hn hd hd';rw[j83 (λa b c=>j82 I n a b c) nofun nofun nofun l l']
theorem Enc.inj(I:Inv X pins σ H s){d d':D}{v:V}(hd:d.dep<10000)(hd':d'.dep<10000)(h:Enc X.K H d v)(h':Enc X.K H d' v):d=d':=j82 I d.dep (X5 _) hd hd' h h'
end
section
variable{X:Cx}{pins:k92}{σ:St}{H:Hp}{s:ae}
theorem D.depL_le:∀{ds:List D}{j:Nat}{d:D},ds[j]?=a3 d->d.dep<=D.depL ds
 |[],_,_,h=>by simp at h
 |x::xs,0,d,h=>by simp at h;subst h;simp[D.depL];omega
 |x::xs,j+1,d,h=>by have:=D.depL_le (ds:=xs) (j:=j) (d:=d) (by simpa using h);simp[D.depL];omega
theorem Zk(I:Inv X pins σ H s):∀(n:Nat)(A:aB){d d':D}{v v':V}{u u':a9},d.dep<=n->A.units+n<aI->d'.dep<10000->Enc X.K H d v->RelV v u->Enc X.K H d' v'->RelV v' u' ->
  fM A s u u' (deq d d')/\cw A s u u' (deq d d')
 |0,A,d,d',v,v',u,u',hn,hu,nd,en,r,en',r'=>by
  have hu0:A.units<aI:=by omega
  cases d with
  |tup l=>simp[D.dep]at hn
  |lst l=>simp[D.dep]at hn
  |dct ks l=>simp[D.dep]at hn
  |sct k=>simp[D.dep]at hn
  |fn x l=>simp[D.dep]at hn
  |non =>
   cases(show v=.non from en);cases(show u=aR from r);cases d' with
   |dct ks' l'=>simp[D.dep]at nd
   |sct k'=>simp[D.dep]at nd
   |fn x' l'=>simp[D.dep]at nd
   |non=>cases(show v'=.non from en');cases(show u'=aR from r');exact⟨.none_none,.same _⟩
   |bl k=>cases(show v'=.bl k from en');cases(show u'=bp k from r');exact⟨.none_bool _,.none_bool _⟩
   |int k=>cases(show v'=.int k from en');obtain⟨t,q⟩:=(show ∃t,u'=b8 k t from r');subst q;exact⟨.none_int _ _,.none_int _ _⟩
   |str k=>cases(show v'=.str k from en');obtain⟨t,q⟩:=(show ∃t,u'=bg k t from r');subst q;exact⟨.none_str _ _,.none_str _ _⟩
   |tup l=>obtain⟨a,xs,e,sq,_⟩:=en';subst e;cases(show u'=az a from r');obtain⟨_,_,q,_⟩:=I.tuple sq;exact⟨.none_tuple q hu0,.none_tuple q hu0⟩
   |lst l=>obtain⟨a,xs,e,sq,_⟩:=en';subst e;cases(show u'=az a from r');obtain⟨_,_,q,_⟩:=I.list sq;exact⟨.none_list q.isList hu0,.none_list q.isList hu0⟩
  |bl b =>
   cases(show v=.bl b from en);cases(show u=bp b from r);cases d' with
   |dct ks' l'=>simp[D.dep]at nd
   |sct k'=>simp[D.dep]at nd
   |fn x' l'=>simp[D.dep]at nd
   |non=>cases(show v'=.non from en');cases(show u'=aR from r');exact⟨.bool_none _,.bool_none _⟩
   |bl k=>cases(show v'=.bl k from en');cases(show u'=bp k from r');exact⟨.bool_bool _ _,.bool_bool _ _⟩
   |int k=>cases(show v'=.int k from en');obtain⟨t,q⟩:=(show ∃t,u'=b8 k t from r');subst q;exact⟨.bool_int _ _ _,.bool_int _ _ _⟩
   |str k=>cases(show v'=.str k from en');obtain⟨t,q⟩:=(show ∃t,u'=bg k t from r');subst q;exact⟨.bool_str _ _ _,.bool_str _ _ _⟩
   |tup l=>obtain⟨a,xs,e,sq,_⟩:=en';subst e;cases(show u'=az a from r');obtain⟨_,_,q,_⟩:=I.tuple sq;exact⟨.bool_tuple _ q hu0,.bool_tuple _ q hu0⟩
   |lst l=>obtain⟨a,xs,e,sq,_⟩:=en';subst e;cases(show u'=az a from r');obtain⟨_,_,q,_⟩:=I.list sq;exact⟨.bool_list _ q.isList hu0,.bool_list _ q.isList hu0⟩
  |int b =>
   cases(show v=.int b from en);obtain⟨tk,q0⟩:=(show ∃t,u=b8 b t from r);subst q0;cases d' with
   |dct ks' l'=>simp[D.dep]at nd
   |sct k'=>simp[D.dep]at nd
   |fn x' l'=>simp[D.dep]at nd
   |non=>cases(show v'=.non from en');cases(show u'=aR from r');exact⟨.int_none _ _,.int_none _ _⟩
   |bl k=>cases(show v'=.bl k from en');cases(show u'=bp k from r');exact⟨.int_bool _ _ _,.int_bool _ _ _⟩
   |int k=>cases(show v'=.int k from en');obtain⟨t,q⟩:=(show ∃t,u'=b8 k t from r');subst q;exact⟨.int_int _ _ _ _,.int_int _ _ _ _⟩
   |str k=>cases(show v'=.str k from en');obtain⟨t,q⟩:=(show ∃t,u'=bg k t from r');subst q;exact⟨.int_str _ _ _ _,.int_str _ _ _ _⟩
   |tup l=>obtain⟨a,xs,e,sq,_⟩:=en';subst e;cases(show u'=az a from r');obtain⟨_,_,q,_⟩:=I.tuple sq;exact⟨.int_tuple _ _ q hu0,.int_tuple _ _ q hu0⟩
   |lst l=>obtain⟨a,xs,e,sq,_⟩:=en';subst e;cases(show u'=az a from r');obtain⟨_,_,q,_⟩:=I.list sq;exact⟨.int_list _ _ q.isList hu0,.int_list _ _ q.isList hu0⟩
  |str b =>
   cases(show v=.str b from en);obtain⟨tk,q0⟩:=(show ∃t,u=bg b t from r);subst q0;cases d' with
   |dct ks' l'=>simp[D.dep]at nd
   |sct k'=>simp[D.dep]at nd
   |fn x' l'=>simp[D.dep]at nd
   |non=>cases(show v'=.non from en');cases(show u'=aR from r');exact⟨.str_none _ _,.str_none _ _⟩
   |bl k=>cases(show v'=.bl k from en');cases(show u'=bp k from r');exact⟨.str_bool _ _ _,.str_bool _ _ _⟩
   |int k=>cases(show v'=.int k from en');obtain⟨t,q⟩:=(show ∃t,u'=b8 k t from r');subst q;exact⟨.str_int _ _ _ _,.str_int _ _ _ _⟩
   |str k=>cases(show v'=.str k from en');obtain⟨t,q⟩:=(show ∃t,u'=bg k t from r');subst q;exact⟨.str_str _ _ _ _,.str_str _ _ _ _⟩
   |tup l=>obtain⟨a,xs,e,sq,_⟩:=en';subst e;cases(show u'=az a from r');obtain⟨_,_,q,_⟩:=I.tuple sq;exact⟨.str_tuple _ _ q hu0,.str_tuple _ _ q hu0⟩
   |lst l=>obtain⟨a,xs,e,sq,_⟩:=en';subst e;cases(show u'=az a from r');obtain⟨_,_,q,_⟩:=I.list sq;exact⟨.str_list _ _ q.isList hu0,.str_list _ _ q.isList hu0⟩
 |n+1,A,d,d',v,v',u,u',hn,hu,nd,en,r,en',r'=>by
  have hu0:A.units<aI:=by omega
  have hu1:A.in1.units+n<aI:=by show A.units+1+n<aI;omega
  have low:d.dep<=n->fM A s u u' (deq d d')/\cw A s u u' (deq d d'):=λh=>Zk I n A h nofun nd en r en' r';cases d with
  |non=>exact low (by simp[D.dep])
  |bl b=>exact low (by simp[D.dep])
  |int b=>exact low (by simp[D.dep])
  |str b=>exact low (by simp[D.dep])
  |dct ks l=>exfalso;have:(9900:Nat)=aI:=rfl;simp only[D.dep]at hn;omega
  |sct k=>exfalso;have:(9900:Nat)=aI:=rfl;simp only[D.dep]at hn;omega
  |fn x l=>exfalso;have:(9900:Nat)=aI:=rfl;simp only[D.dep]at hn;omega
  |tup ds =>
   have hd:D.depL ds<=n:=by simp[D.dep]at hn;omega
   obtain⟨a,xs,e,sq,l⟩:=id en;subst e;cases(show u=az a from r);obtain⟨us,rv,q,_⟩:=I.tuple sq;cases d' with
   |dct ks' l'=>simp[D.dep]at nd
   |sct k'=>simp[D.dep]at nd
   |fn x' l'=>simp[D.dep]at nd
   |non=>cases(show v'=.non from en');cases(show u'=aR from r');exact⟨.tuple_none q hu0,.tuple_none q hu0⟩
   |bl k=>cases(show v'=.bl k from en');cases(show u'=bp k from r');exact⟨.tuple_bool _ q hu0,.tuple_bool _ q hu0⟩
   |int k=>cases(show v'=.int k from en');obtain⟨t,q'⟩:=(show ∃t,u'=b8 k t from r');subst q';exact⟨.tuple_int _ _ q hu0,.tuple_int _ _ q hu0⟩
   |str k=>cases(show v'=.str k from en');obtain⟨t,q'⟩:=(show ∃t,u'=bg k t from r');subst q';exact⟨.tuple_str _ _ q hu0,.tuple_str _ _ q hu0⟩
   |lst ds'=>obtain⟨a',ys,e,sq',_⟩:=en';subst e;cases(show u'=az a' from r');obtain⟨_,_,q',_⟩:=I.list sq';exact⟨.tuple_list q q'.isList hu0,.tuple_list q q'.isList hu0⟩
   |tup ds' =>
    obtain⟨a',ys,e,sq',l'⟩:=id en';subst e;cases(show u'=az a' from r');obtain⟨us',rv',q',_⟩:=I.tuple sq';have e1:us.length=ds.length:=by rw[<-rv.length,l.length]
    have e2:us'.length=ds'.length:=by rw[<-rv'.length,l'.length]
    have main:fM A s (.ref a) (.ref a') (deq (.tup ds) (.tup ds')):=by
     have item:∀(j:Nat)(h1:j<us.toArray.size)(h2:j<us'.toArray.size),cw A.in1 s us.toArray[j] us'.toArray[j] (deq (ds.getD j .non) (ds'.getD j .non)):=λj h1 h2=>by
      have k1:j<ds.length:=by rw[<-e1];simpa using h1
      have k2:j<ds'.length:=by rw[<-e2];simpa using h2
      obtain⟨x,hx,ex⟩:=l.get (kh k1);obtain⟨y,hy,ey⟩:=l'.get (kh k2);obtain⟨w1,hw1,rw1⟩:=rv.get hx;obtain⟨w2,hw2,rw2⟩:=rv'.get hy;have g1:us.toArray[j]=w1:=by simp at h1 ⊢;rw[kh (by simpa using h1)]at hw1;exact aw hw1
      have g2:us'.toArray[j]=w2:=by simp at h2 ⊢;rw[kh (by simpa using h2)]at hw2;exact aw hw2
      rw[g1,g2,xf,xf,kh k1,kh k2];exact(Zk I n A.in1 (Xk (D.depL_le (kh k1)) hd) hu1 (bZ (D.depL_le (kh k2)) (by simp only[D.dep]at nd;omega)) ex rw1 ey rw2).2
     have z:=SeqAt.RcAt.tuples (A:=A) (s:=s) q q' hu0 (e:=λj=>deq (ds.getD j .non) (ds'.getD j .non)) item;have ev:((ar (min us.toArray.size us'.toArray.size)).all (λj=>deq (ds.getD j .non) (ds'.getD j .non))&&us.toArray.size==us'.toArray.size)=deq (.tup ds) (.tup ds'):=by
      simp only[Bv,X7,e1,e2];by_cases hl:ds.length=ds'.length
      .rw[hl,lh,beq_self_eq_true,kx,<-hl];exact Za hl λj x y hx hy=>by rw[xf,xf,hx,hy];rfl
      .rw[Yd hl,beq_false_of_ne hl,fZ]
     rw[ev]at z;exact z
    refine⟨main,?_⟩;by_cases ea:a=a'
    .subst ea;have e9:(9900:Nat)=aI:=rfl;rw[Enc.inj I nofun nd en en',Ol _ nd];exact .same _
    .exact .of_refs ea main
  |lst ds =>
   have hd:D.depL ds<=n:=by simp[D.dep]at hn;omega
   obtain⟨a,xs,e,sq,l⟩:=id en;subst e;cases(show u=az a from r);obtain⟨us,rv,q0,_⟩:=I.list sq;have q:=q0.isList;cases d' with
   |dct ks' l'=>simp[D.dep]at nd
   |sct k'=>simp[D.dep]at nd
   |fn x' l'=>simp[D.dep]at nd
   |non=>cases(show v'=.non from en');cases(show u'=aR from r');exact⟨.list_none q hu0,.list_none q hu0⟩
   |bl k=>cases(show v'=.bl k from en');cases(show u'=bp k from r');exact⟨.list_bool _ q hu0,.list_bool _ q hu0⟩
   |int k=>cases(show v'=.int k from en');obtain⟨t,q'⟩:=(show ∃t,u'=b8 k t from r');subst q';exact⟨.list_int _ _ q hu0,.list_int _ _ q hu0⟩
   |str k=>cases(show v'=.str k from en');obtain⟨t,q'⟩:=(show ∃t,u'=bg k t from r');subst q';exact⟨.list_str _ _ q hu0,.list_str _ _ q hu0⟩
   |tup ds'=>obtain⟨a',ys,e,sq',_⟩:=en';subst e;cases(show u'=az a' from r');obtain⟨_,_,q',_⟩:=I.tuple sq';exact⟨.list_tuple q q' hu0,.list_tuple q q' hu0⟩
   |lst ds' =>
    obtain⟨a',ys,e,sq',l'⟩:=id en';subst e;cases(show u'=az a' from r');obtain⟨us',rv',q0',_⟩:=I.list sq';have q':=q0'.isList;have e1:us.length=ds.length:=by rw[<-rv.length,l.length]
    have e2:us'.length=ds'.length:=by rw[<-rv'.length,l'.length]
    have main:fM A s (.ref a) (.ref a') (deq (.lst ds) (.lst ds')):=by
     have item:∀(j:Nat)(h1:j<us.toArray.size)(h2:j<us'.toArray.size),cw A.in1 s us.toArray[j] us'.toArray[j] (deq (ds.getD j .non) (ds'.getD j .non)):=λj h1 h2=>by
      have k1:j<ds.length:=by rw[<-e1];simpa using h1
      have k2:j<ds'.length:=by rw[<-e2];simpa using h2
      obtain⟨x,hx,ex⟩:=l.get (kh k1);obtain⟨y,hy,ey⟩:=l'.get (kh k2);obtain⟨w1,hw1,rw1⟩:=rv.get hx;obtain⟨w2,hw2,rw2⟩:=rv'.get hy;have g1:us.toArray[j]=w1:=by simp at h1 ⊢;rw[kh (by simpa using h1)]at hw1;exact aw hw1
      have g2:us'.toArray[j]=w2:=by simp at h2 ⊢;rw[kh (by simpa using h2)]at hw2;exact aw hw2
      rw[g1,g2,xf,xf,kh k1,kh k2];exact(Zk I n A.in1 (Xk (D.depL_le (kh k1)) hd) hu1 (bZ (D.depL_le (kh k2)) (by simp only[D.dep]at nd;omega)) ex rw1 ey rw2).2
     simp only[j0c];by_cases hl:ds.length=ds'.length
     .have z:=SeqAt.RcAt.lists (A:=A) (s:=s) q q' (by simp[e1,e2,hl]) hu0 (e:=λj=>deq (ds.getD j .non) (ds'.getD j .non)) item;have ev:(ar us.toArray.size).all (λj=>deq (ds.getD j .non) (ds'.getD j .non))=zy ds ds':=by rw[X7,e1];exact Za hl λj x y hx hy=>by rw[xf,xf,hx,hy];rfl
      rw[ev]at z;exact z
     .rw[Yd hl];exact .lists_lengths q q' (by simp[e1,e2,hl]) hu0
    refine⟨main,?_⟩;by_cases ea:a=a'
    .subst ea;have e9:(9900:Nat)=aI:=rfl;rw[Enc.inj I nofun nd en en',Ol _ nd];exact .same _
    .exact .of_refs ea main
end
section
variable{X:Cx}{pins:k92}{σ:St}{H:Hp}{s:ae}{A:aB}
theorem j7z(I:Inv X pins σ H s){n:Nat}{ds ds':List D}{xs ys:List V}{us us':List a9}(l:j5 X.K H ds xs)(rv:Vals xs us)(l':j5 X.K H ds' ys)(rv':Vals ys us')(hd:D.depL ds<=n)(hu:A.units+1+n<aI)(nd:D.depL ds'<10000) :
  ∀(j:Nat)(h1:j<us.toArray.size)(h2:j<us'.toArray.size),cw A.in1 s us.toArray[j] us'.toArray[j] (deq (ds.getD j .non) (ds'.getD j .non)):=λj h1 h2=>by
 have k1:j<ds.length:=by rw[<-l.length,rv.length];simpa using h1
 have k2:j<ds'.length:=by rw[<-l'.length,rv'.length];simpa using h2
 obtain⟨x,hx,ex⟩:=l.get (kh k1);obtain⟨y,hy,ey⟩:=l'.get (kh k2);obtain⟨w1,hw1,rw1⟩:=rv.get hx;obtain⟨w2,hw2,rw2⟩:=rv'.get hy;have g1:us.toArray[j]=w1:=by simp at h1 ⊢;rw[kh (by simpa using h1)]at hw1;exact aw hw1
 have g2:us'.toArray[j]=w2:=by simp at h2 ⊢;rw[kh (by simpa using h2)]at hw2;exact aw hw2
 rw[g1,g2,xf,xf,kh k1,kh k2];exact(Zk I n A.in1 (Xk (D.depL_le (kh k1)) hd) hu (bZ (D.depL_le (kh k2)) nd) ex rw1 ey rw2).2
theorem j4y(hu:X.A.units+100<aI):OpR X (aP .Eq) (λx y H Q=>∃d d',Enc X.K H d x/\Enc X.K H d' y/\d.dep<=100/\d'.dep<10000/\Q (.bl (deq d d')) H):=by rintro pins s σ H x y v u Q I rx ry ⟨d,d',en,en',hd,nd,q⟩;exact(Zk I 100 X.A hd hu nd en rx en' ry).1 X.prog X.w X.xe _ ⟨.bl (deq d d'),H,I,rfl,q⟩
theorem j4w(hu:X.A.units+100<aI):OpR X (aP .NotEq) (λx y H Q=>∃ds ds' k,Enc X.K H (D.seq k ds) x/\Enc X.K H (D.seq k ds') y/\D.depL ds<=98/\D.depL ds'<10000/\Q (.bl (!zy ds ds')) H):=by
 rintro pins s σ H x y v u Q I rx ry ⟨ds,ds',k,en,en',hd,nd,q⟩;have h0:X.A.units<aI:=by omega
 obtain⟨t,xs,e,sq,l⟩:=Zu en;obtain⟨t',ys,e',sq',l'⟩:=Zu en';subst e e';cases rx;cases ry;obtain⟨us,rv,qs,_⟩:=I.side sq;obtain⟨us',rv',qs',_⟩:=I.side sq';have e1:us.length=ds.length:=by rw[<-rv.length,l.length]
 have e2:us'.length=ds'.length:=by rw[<-rv'.length,l'.length]
 have item:=j7z (A:=X.A) I l rv l' rv' hd nofun nd;unfold qw at qs qs';cases k with
 |true =>
  rw[if_pos rfl]at qs qs';by_cases hl:ds.length=ds'.length
  .have z:=SeqAt.RcNeAt.lists (A:=X.A) (s:=s) qs qs' (by simp[e1,e2,hl]) h0 (e:=λj=>deq (ds.getD j .non) (ds'.getD j .non)) item;have ev:(ar us.toArray.size).all (λj=>deq (ds.getD j .non) (ds'.getD j .non))=zy ds ds':=by rw[X7,e1];exact Za hl λj x y hx hy=>by rw[xf,xf,hx,hy];rfl
   rw[ev]at z;exact z X.prog X.w X.xe _ ⟨.bl (!zy ds ds'),H,I,rfl,q⟩
  .have z:=SeqAt.RcNeAt.lists_lengths (A:=X.A) (s:=s) qs qs' (by simp[e1,e2,hl]) h0;rw[Yd hl]at q;exact z X.prog X.w X.xe _ ⟨.bl a5,H,I,rfl,q⟩
 |false =>
  rw[if_neg xg]at qs qs';have z:=SeqAt.RcNeAt.tuples (A:=X.A) (s:=s) qs qs' h0 (e:=λj=>deq (ds.getD j .non) (ds'.getD j .non)) item;have ev:((ar (min us.toArray.size us'.toArray.size)).all (λj=>deq (ds.getD j .non) (ds'.getD j .non))&&us.toArray.size==us'.toArray.size)=zy ds ds':=by
   simp only[X7,e1,e2];by_cases hl:ds.length=ds'.length
   .rw[hl,lh,beq_self_eq_true,kx,<-hl];exact Za hl λj x y hx hy=>by rw[xf,xf,hx,hy];rfl
   .rw[Yd hl,beq_false_of_ne hl,fZ]
  rw[ev]at z;exact z X.prog X.w X.xe _ ⟨.bl (!zy ds ds'),H,I,rfl,q⟩
noncomputable def eqW(X:Cx)(H:Hp)(d:D)(y:a9):Bool:=@decide (∃e v,e.dep<10000/\Enc X.K H e v/\RelV v y/\deq e d=a5) (cX _)
theorem Wv(I:Inv X pins σ H s){d e:D}{v:V}{y:a9}(he:e.dep<10000)(en:Enc X.K H e v)(r:RelV v y):eqW X H d y=deq e d:=by
 unfold eqW;cases h:deq e d with
 |true=>exact @decide_eq_true _ (cX _) ⟨e,v,he,en,r,h⟩
 |false =>refine @decide_eq_false _ (cX _) λ⟨e',v',he',en',r',h'⟩=>?_;rw[r'.inj r]at en';rw[Enc.inj I he' he en' en,h]at h';cases h'
theorem Do(I:Inv X pins σ H s){d:D}:∀{ds:List D}{xs:List V}{us:List a9},D.depL ds<10000->j5 X.K H ds xs->Vals xs us->us.any (eqW X H d)=ds.any λe=>deq e d
 |[],_,_,_,h,r=>by cases h;cases r;rfl
 |e::ds,_,_,hd,⟨x,r,eq,h,l⟩,rv=>by
  subst eq;rw[D.depL]at hd;cases rv with
  |cons a b=>rw[S7,S7,Do I nofun l b,Wv I nofun h a]
theorem Ux(I:Inv X pins σ H s){d:D}:∀{ds:List D}{xs:List V}{us:List a9},D.depL ds<10000->j5 X.K H ds xs->Vals xs us->us.countP (eqW X H d)=ds.countP λe=>deq e d
 |[],_,_,_,h,r=>by cases h;cases r;rfl
 |e::ds,_,_,hd,⟨x,r,eq,h,l⟩,rv=>by
  subst eq;rw[D.depL]at hd;cases rv with
  |cons a b=>rw[Xx,Xx,Ux I nofun l b,Wv I nofun h a]
theorem Zo(I:Inv X pins σ H s){d:D}{v:V}{u:a9}(en:Enc X.K H d v)(r:RelV v u)(nd:d.dep<10000){n:Nat}(hu:A.units+n<aI):∀{ds:List D}{xs:List V}{us:List a9},D.depL ds<=n->j5 X.K H ds xs->Vals xs us->∀y∈us,cw A s y u (eqW X H d y)
 |[],_,_,_,h,rv,y,hy=>by cases h;cases rv;cases hy
 |e::ds,_,_,hd,⟨x,r',eq,h,l⟩,rv,y,hy=>by
  subst eq;have hd':e.dep<=n/\D.depL ds<=n:=by simp[D.depL]at hd;omega
  cases rv with
  |cons a b =>
   rcases xn.mp hy with rfl|hy
   .have e9:(9900:Nat)=aI:=rfl;rw[Wv I nofun h a];exact(Zk I n A hd'.1 hu nd h a en r).2
   .exact Zo I en r nd hu hd'.2 l b y hy
theorem j4x(hu:X.A.units+100<aI):OpR X (aP .In) (λx y H Q=>∃d ds k,Enc X.K H d x/\Enc X.K H (D.seq k ds) y/\D.depL ds<=98/\d.dep<10000/\Q (.bl (ds.any λe=>deq e d)) H):=by
 rintro pins s σ H x y v u Q I rx ry ⟨d,ds,k,en,en',hd,nd,q⟩;obtain⟨t,xs,e,sq,l⟩:=Zu en';subst e;cases ry;obtain⟨us,rv,qs,_⟩:=I.side sq;have me:=λy (hy:y∈us.toArray)=>Zo (A:=X.A.in1) I en rx nd (n:=98) (by show X.A.units+1+98<aI;omega) hd l rv y (by simpa using hy);have ev:us.toArray.any (eqW X H d)=ds.any λe=>deq e d:=by rw[jL];exact Do I nofun l rv
 unfold qw at qs;cases k with
 |true=>rw[if_pos rfl]at qs;exact SeqAt.in_listAt (eqW X H d) qs me (by rw[ev];exact⟨.bl _,H,I,rfl,q⟩)
 |false=>rw[if_neg xg]at qs;exact SeqAt.in_tupleAt (eqW X H d) qs me (by rw[ev];exact⟨.bl _,H,I,rfl,q⟩)
theorem Dz(hu:X.A.units+100<aI):OpR X (aP .NotIn) (λx y H Q=>∃d ds k,Enc X.K H d x/\Enc X.K H (D.seq k ds) y/\D.depL ds<=98/\d.dep<10000/\Q (.bl (!ds.any λe=>deq e d)) H):=by
 rintro pins s σ H x y v u Q I rx ry ⟨d,ds,k,en,en',hd,nd,q⟩;obtain⟨t,xs,e,sq,l⟩:=Zu en';subst e;cases ry;obtain⟨us,rv,qs,_⟩:=I.side sq;have me:=λy (hy:y∈us.toArray)=>Zo (A:=X.A.in1) I en rx nd (n:=98) (by show X.A.units+1+98<aI;omega) hd l rv y (by simpa using hy);have ev:us.toArray.any (eqW X H d)=ds.any λe=>deq e d:=by rw[jL];exact Do I nofun l rv
 unfold qw at qs;cases k with
 |true=>rw[if_pos rfl]at qs;exact SeqAt.notIn_listAt (eqW X H d) qs me (by rw[ev];exact⟨.bl _,H,I,rfl,q⟩)
 |false=>rw[if_neg xg]at qs;exact SeqAt.notIn_tupleAt (eqW X H d) qs me (by rw[ev];exact⟨.bl _,H,I,rfl,q⟩)
theorem j56 (hu:X.A.units+100<aI):MtR X "tuple.count" (λx vs H Q=>∃t xs ds d y,x=.ref t/\vs=[y]/\SqT X.K H t xs/\j5 X.K H ds xs/\Enc X.K H d y/\D.depL ds<=97/\d.dep<10000/\Q (.int (ds.countP λe=>deq e d)) H):=by
 rintro pins s σ H x vs v us Q I rx rv ⟨t,xs,ds,d,y,e,e',sq,l,en,hd,nd,q⟩;subst e e';cases rx;obtain⟨u,eu,ru⟩:=rv.one;subst eu;obtain⟨its,ri,⟨⟨cl,dd,da,sl⟩,h1,h2,n,h3⟩,_⟩:=I.tuple sq;have h2:cl=.type "tuple":=h2;have h3:da=.seq its.toArray n:=h3;subst h2 h3;refine bc gQ ⟨_,h1,rfl⟩ F.entry_tuple_count (F.args_tuple_count_2 _ _) (SeqAt.tuple_countAt t its.toArray n dd sl u (eqW X H d)) ⟨h1,λy hy=>Zo (n:=97) I en ru nd (by show X.A.units+1+97<aI;omega) hd l ri y (by simpa using hy),?_⟩;have ev:(its.toArray.toList.countP (eqW X H d):Nat)=ds.countP λe=>deq e d:=by rw[dZ];exact Ux I nofun l ri
 rw[ev];exact⟨.int _,H,I.tok _,⟨_,rfl⟩,q⟩
theorem j7k:OpR X (b0 .Add) (λx y H Q=>∃a b xs ys,x=.ref a/\y=.ref b/\SqT X.K H a xs/\SqT X.K H b ys/\xs.length+ys.length<=aj /\
  (xs=[]->Q (.ref b) H)/\(xs≠[]->ys=[]->Q (.ref a) H)/\(xs≠[]->ys≠[]->∀p,H p=a6->Q (.ref p) (upd H p (.tup (xs++ys))))):=by
 rintro pins s σ H x y v u Q I rx ry ⟨a,b,xs,ys,e,e',sa,sb,hz,q1,q2,q3⟩;by_cases hx:xs=[]
 .subst e e' hx;cases rx;cases ry;obtain⟨us,ru,⟨⟨c1,d1,f1,g1⟩,h1,k1,n1,m1⟩,_⟩:=I.tuple sa;obtain⟨vs,rv,⟨⟨c2,d2,f2,g2⟩,h2,k2,n2,m2⟩,_⟩:=I.tuple sb;cases ru;have k1:c1=.type "tuple":=k1;have m1:f1=.seq ([]:List a9).toArray n1:=m1;have k2:c2=.type "tuple":=k2;have m2:f2=.seq vs.toArray n2:=m2;subst k1 m1 k2 m2;exact fR ⟨_,h1,rfl⟩ ⟨_,h2,rfl⟩ gf iC d9 d4 (cU _ _)
   (tuple_addW0 a b ([]:List a9).toArray vs.toArray n1 n2 d1 d2 g1 g2 (by simp)) ⟨h1,h2,⟨.ref b,H,I,rfl,q1 rfl⟩⟩
 .exact jb5 pins s σ H x y v u Q I rx ry ⟨a,b,xs,ys,e,e',sa,sb,hx,hz,q2 hx,q3 hx⟩
theorem all_range:∀bs:List Bool,(ar bs.length).all (λi=>(bs[i]?).getD a5)=bs.all id
 |[]=>rfl
 |b::bs=>by rw[xq,cj,gx,kK,gx,<-all_range bs];rfl
theorem j1a (hc:X.calm=a5):Ja X (.builtin "all") (λxs H Q=>∃(l:aa)(bs:List Bool),xs=[.ref l]/\SqL X.K H l (bs.map V.bl)/\Q (.bl (bs.all id)) H):=by
 rintro pins s σ H xs us Q I r ⟨l,bs,e,sq,q⟩;subst e;obtain⟨u,eu,ru⟩:=vals1 r;subst eu;cases ru;obtain⟨its,rv,pl,_⟩:=I.list sq;have hlt:l<s.heap.objs.size:=by obtain⟨_,_,e,_⟩:=pl;exact X4 e
 have hl:its.length=bs.length:=by rw[<-rv.length,kj]
 refine call_all_walk (bN pl.isList ⟨s.heap.objs.size,[s.heap.objs.size,l],[s.heap.objs.size],its.toArray.size,_,_,λi=>(bs[i]?).getD a5,rfl,Walks.list (A:=X.A.in1) (I.ok.hd hc) _ _ (Xb hlt) its.toArray,⟨⟨_,X6 _ rfl,rfl,rfl⟩,pl.isList.push _⟩,?_,λh' tk kp=>?_⟩)
 .intro i v s' Q' E' hv hq;have hi:i<its.length:=by have:=Array.getElem?_eq_some_iff.mp hv;obtain⟨h,_⟩:=this;simpa using h
  have hb:i<bs.length:=by omega
  obtain⟨w1,hw,rw1⟩:=rv.get (x:=.bl bs[i]) (i:=i) (by rw[xx,kh hb];rfl);have:its.toArray[i]?=a3 w1:=by simpa using hw
  rw[this]at hv;cases hv;cases rw1;simp only[kh hb,d7]at hq;exact bh hq
 .have ev:(ar its.toArray.size).all (λi=>(bs[i]?).getD a5)=bs.all id:=by rw[X7,hl];exact all_range bs
  rw[ev];refine⟨.bl _,H,I.kept (t':=tk) λb o e=>kp b o ?_ (xj _ e),rfl,q⟩;intro z;rw[xu.mp z]at e;exact pq _ (X4 e)
end
section
variable{X:Cx}{ρ:Rho}{a b e:ai}{d d':D}{ds ds':List D}{i j:Int}{pos p p1 p2:aJ}{k:Nat}{x:af}{P:Po}
theorem DE.eqD(hu:X.A.units+100<aI)(ha:DT X ρ a d)(hb:DT X ρ b d')(hd:d.dep<=100)(nd:d'.dep<10000):DE X ρ (.Compare a [.Eq] [b] pos) (.bl (deq d d')):=λσ H Q R q =>(Je (j4y hu) peS peS (zc _)).to (ha σ H _ R λv H1 g1 e1=>hb σ H1 _ (R.grow g1) λu H2 g2 e2=>⟨d,d',e1.mono g2,e2,hd,nd,q _ H2 (g1.trans g2) rfl⟩)
theorem DB.eqD(hu:X.A.units+100<aI)(ha:DT X ρ a d)(hb:DT X ρ b d')(hd:d.dep<=100)(nd:d'.dep<10000):DB X ρ (.Compare a [.Eq] [b] pos) (deq d d'):=λσ H Q R q =>(Jd (j4y hu) peS peS (zc _)).to (ha σ H _ R λv H1 g1 e1=>hb σ H1 _ (R.grow g1) λu H2 g2 e2=>⟨d,d',e1.mono g2,e2,hd,nd,_,rfl,q H2 (g1.trans g2)⟩)
theorem DB.neD(s:Bool)(hu:X.A.units+100<aI)(ha:DT X ρ a (D.seq s ds))(hb:DT X ρ b (D.seq s ds'))(hd:D.depL ds<=98)(nd:D.depL ds'<10000):DB X ρ (.Compare a [.NotEq] [b] pos) (!zy ds ds'):=λσ H Q R q =>(Jd (j4w hu) peS peS (zc _)).to (ha σ H _ R λv H1 g1 e1=>hb σ H1 _ (R.grow g1) λu H2 g2 e2=>⟨ds,ds',s,e1.mono g2,e2,hd,nd,_,rfl,q H2 (g1.trans g2)⟩)
theorem DB.notIn(s:Bool)(hu:X.A.units+100<aI)(ha:DT X ρ a d)(hb:DT X ρ b (D.seq s ds))(hd:D.depL ds<=98)(nd:d.dep<10000)(hm:aO .NotIn b=a4:=by with_unfolding_all rfl):DB X ρ (.Compare a [.NotIn] [b] pos) (!ds.any λe=>deq e d):=λσ H Q R q =>(Jd (Dz hu) peS peS hm).to (ha σ H _ R λv H1 g1 e1=>hb σ H1 _ (R.grow g1) λu H2 g2 e2=>⟨d,ds,s,e1.mono g2,e2,hd,nd,_,rfl,q H2 (g1.trans g2)⟩)
theorem DB.in(s:Bool)(hu:X.A.units+100<aI)(ha:DT X ρ a d)(hb:DT X ρ b (D.seq s ds))(hd:D.depL ds<=98)(nd:d.dep<10000)(hm:aO .In b=a4:=by with_unfolding_all rfl):DB X ρ (.Compare a [.In] [b] pos) (ds.any λe=>deq e d):=λσ H Q R q =>(Jd (j4x hu) peS peS hm).to (ha σ H _ R λv H1 g1 e1=>hb σ H1 _ (R.grow g1) λu H2 g2 e2=>⟨d,ds,s,e1.mono g2,e2,hd,nd,_,rfl,q H2 (g1.trans g2)⟩)
theorem DE.countT (hu:X.A.units+100<aI) (ha:DT X ρ a (.tup ds)) (hb:DT X ρ b d) (hd:D.depL ds<=97) (nd:d.dep<10000) (hbase:aF a "count" X.env (ay a X.env)=ay a X.env:=by rfl)
  (hfew:((aK p2 (a7 [b] X.env)).all (λx=>!x.1)&&(bA p2 (aX [] X.env)).all (λx=>x.1.isSome)
   && decide (([b]:List ai).length+([]:List aT).length+(if ([]:List aT).isEmpty then 0 else 1)<30))=a5:=by rfl) (hline:(p1.endLine==p2.line)=a5:=by rfl)
  (hs:a7 [b] X.env=(a4,ay b X.env)::a7 [] X.env:=by rfl):DE X ρ (.Call (.Attribute a "count" p1) [b] [] p2) (.int (ds.countP λe=>deq e d)):=λσ H Q R q =>
 (Uj fN gQ PySem.F.type_tuple_count (j56 hu) peS (jb peS jo hs) hbase hfew hline hs rfl).to (ha σ H _ R λv H1 g1 ⟨t,xs,e,sq,l⟩=>⟨by rw[e];exact .inr (.inl ⟨rfl,xs,sq⟩),hb σ H1 _ (R.grow g1) λu H2 g2 e2 =>
  ⟨t,xs,ds,d,u,e,rfl,g2.seqT sq,l.mono g2,e2,hd,nd,q _ H2 (g1.trans g2) rfl⟩⟩)
theorem DE.min (ha:DT X ρ a (.int i)) (hb:DT X ρ b (.int j)) (hm:X.mg "min" = a6) (hc:X.calm=a5:=by rfl) (hg:Gl X "min":=by rfl) (hs:a7 [a,b] X.env=(a4,ay a X.env)::a7 [b] X.env:=by rfl) (hs2:a7 [b] X.env=(a4,ay b X.env)::a7 [] X.env:=by rfl)
  (hpl:(aK pos (a7 [b] X.env)).any (·.1)=a4:=by rfl):DE X ρ (.Call (.Name "min" p) [a,b] [] pos) (.int (if j<i then j else i)):=λσ H Q R q =>
 (zq (j67 hc) hg hm jV (jb peS (jb peS jo hs2) hs) (by decide) (by decide) hs hpl).to (ha σ H _ R λv H1 g1 e1=>hb σ H1 _ (R.grow g1) λu H2 g2 e2=>⟨i,j,by rw[show v=.int i from e1,show u=.int j from e2],q _ H2 (g1.trans g2) rfl⟩)
theorem Og{K:k90}{H:Hp}:∀{bs:List Bool}{xs:List V},j5 K H (bs.map D.bl) xs->xs=bs.map V.bl
 |[],_,h=>h
 |b::bs,_,⟨x,r,e,h,l⟩=>by subst e;cases(show x=.bl b from h);rw[Og l];rfl
theorem DE.all {bs:List Bool} (ha:DT X ρ a (.lst (bs.map D.bl))) (hm:X.mg "all" = a6) (hc:X.calm=a5:=by rfl) (hg:Gl X "all":=by rfl) (hs:a7 [a] X.env=[(a4,ay a X.env)]:=by rfl):DE X ρ (.Call (.Name "all" p) [a] [] pos) (.bl (bs.all id)):=λσ H Q R q =>(zq (j1a hc) hg hm boot_all (jb peS jo hs) (by decide) (by decide) hs).to (ha σ H _ R λv H1 g1 ⟨l,xs,e,sq,en⟩=>⟨l,bs,by rw[e],by rw[Og en]at sq;exact sq,q _ H1 g1 rfl⟩)
def jdd(X:Cx)(e:Option ai):TO:=λσ H Q=>∀pins s,Inv X pins σ H s->ao (ax X.prog X.w) X.A (evalPart e X.env) (λu s'=>∃o H',Inv X pins σ H' s'/\eX u o/\Q o H') X.xe s
theorem poS{e:Option ai}:PO X e (jdd X e):=λpins s σ H Q I h=>h pins s I
def DP(X:Cx)(ρ:Rho)(e:Option ai)(o:Option Int):Prop:=∀σ H Q,Rep X.K ρ σ H->(∀H',j0 H H'->Q o H')->jdd X e σ H Q
theorem DP.none:DP X ρ a6 a6:=λσ H Q R q pins s I=>jay pins s σ H Q I (q H (j0.refl H))
theorem DP.some(h:DT X ρ e (.int i)):DP X ρ (a3 e) (a3 i):=λσ H Q R q pins s I=>jax peS pins s σ H Q I (h σ H _ R λv H1 g1 e1=>⟨i,e1,q H1 g1⟩)
variable{lo hi:Option ai}{l u:Option Int}
end
def jd5(K:k90)(S:List D->List D->D->List D->Prop):Sp:=λvs H Q _=>∃(a:aa)(ds l:List D)(d:D)(l':List D)(ws xs:List V),vs=ws++[.ref a]/\TabOk K H/\H a=a3 (.lst xs)/\j5 K (del H [a]) l xs/\j5 K (del H [a]) ds ws/\S ds l d l' /\
 ∀v H' ys,j0 (del H [a]) (del H' [a])->H' a=a3 (.lst ys)->j5 K (del H' [a]) l' ys->Enc K (del H' [a]) d v->Q v H'
section
variable{X:Cx}{ρ ρ1:Rho}{e e1 e2 e3 c:ai}{st:aS}{rest sa:List aS}{a:aa}{d d1 d2 d3:D}{l l':List D}{k i:Nat}{x y f:af}{p p1 p2 p3 p4 pos:aJ}
end
noncomputable def j4n(dD n:Int):Int:=if 0<n then n%60 else(dD*48271+11)%2147483647/16
noncomputable def O1(dD n:Int):Int:=if 0<n then n%60/6%2 else(dD*48271+11)%2147483647/128%2
noncomputable def Rn(n:Int):Int:=if 0<n then n/60 else n
noncomputable def Yp:Nat->List af->Int->Int->D×Int
 |0,_,dD,n=>(.tup [.str "tell",.int (O1 dD n)],Rn n)
 |k+1,ws,dD,n=>match ws[(j4n dD n%ws.length).toNat]? with
  |none=>(.tup [.str "tell",.int (O1 dD n)],Rn n)
  |some y=>if j4n dD n%6=0 then(.tup [.str "tell",.int (O1 dD n)],Rn n)
   else(.tup [.str "ask",.str y,(Yp k (ws.filter λz=>!(z==y)) ((dD*48271+11)%2147483647*3+1) (Rn n)).1,
     (Yp k (ws.filter λz=>!(z==y)) ((dD*48271+11)%2147483647*5+2) (Yp k (ws.filter λz=>!(z==y)) ((dD*48271+11)%2147483647*3+1) (Rn n)).2).1],
    (Yp k (ws.filter λz=>!(z==y)) ((dD*48271+11)%2147483647*5+2) (Yp k (ws.filter λz=>!(z==y)) ((dD*48271+11)%2147483647*3+1) (Rn n)).2).2)
def j9c(ds l:List D)(d:D)(l':List D):Prop:=∃(ws:List af)(dD n:Int)(k:Nat),ds=[.lst (ws.map D.str),.int dD,.int k]/\l=[.int n]/\k<=5/\ws.length<=60/\d=(Yp k ws dD n).1/\l'=[.int (Yp k ws dD n).2]
section
variable{P:au}{w:aA}{K:k90}{mg:k93}{base:aD}{x qual:af}{st:aS}{f:aa}{fd:aN}{N ps:List af}{k:Nat}
end
def Fz(o:Option HO):Prop:=(∃xs,o=a3 (.lst xs))\/∃oc v,o=a3 (.frz oc (.own 0))/\oc.data=.cell v
theorem j5n{P:au}{w:aA}{K:k90}{mg:k93}{base:aD}{A0:aB}{outer:List dj}{s:ae}{H:Hp}{A:List aa}(e0:Env0 P w K mg base A0 outer s H)(hA:∀a∈A,Fz (H a)) :
  Env0 P w K mg base A0 outer s (del H A)/\∀(Q:VK)(E E':XK)(r:eV)(s':ae),CR CX0 outer P w (del H A) s (λv F=>(∀a∈A,F a=a6)->Q v (mrg A H F)) E r s'->CR CX0 outer P w H s Q E' r s':=by
 have nd:∀{b:aa},H b=a6->del H A b=a6:=λ{b} q=>by
  by_cases z:b∈A
  .exact qt z
  .rw[j6 z];exact q
 have out:∀{b:aa}{o:HO},H b=a3 o->(∀ys,o≠.lst ys)->(∀oc v,o=.frz oc (.own 0)->oc.data≠.cell v)->b∉A:=λ{b o} q z z2 y=>by
  rcases hA b y with ⟨ys,e'⟩|⟨oc,v,e',d⟩
  .rw[q]at e';cases e';exact z ys rfl
  .rw[q]at e';cases e';exact z2 _ _ rfl d
 have e1:Env0 P w K mg base A0 outer s (del H A):=⟨e0.frames,e0.mod,λb o q=>⟨(e0.bs b o q).1,nd (e0.bs b o q).2⟩,e0.bsz,e0.funs,λb hb=>nd (e0.frf b hb),
  λa o q=>by
   obtain⟨_,q⟩:=of_del q
   exact ji.stay (e0.hok a o q) (λb u _ z=>z) (λb z=>by rw[j6 (out z (λ_ y=>by cases y) λ_ _ y=>by cases y)];exact z) (λb xs z=>by rw[j6 (out z (λ_ y=>by cases y) λ_ _ y=>by cases y)];exact z)
    (λb o ⟨vs,d⟩ z=>by rw[j6 (out z (λ_ y=>by cases y) λ_ _ y d'=>by cases y;rw[d]at d';cases d')];exact z),e0.bare⟩
 refine⟨e1,λQ E E' r s' hq=>?_⟩;cases r with
 |error e=>exact(show False from hq).elim
 |ok fl =>
  cases fl with
  |next=>exact(show False from hq).elim
  |brk=>exact(show False from hq).elim
  |cont=>exact(show False from hq).elim
  |ret u =>
   obtain⟨v,H',os,bare,un,hok',rel,q⟩:=(show CE outer P w (del H A) s _ u s' from hq)
   have kept:∀a∈A,∃o,s.heap.get? a=a3 o/\s'.heap.get? a=a3 o/\H' a=a6:=λa ha=>by
    have nf:a∉frs outer:=λy=>by have z:=e0.frf a y;rcases hA a ha with ⟨xs,e⟩|⟨oc,v,e,_⟩<;>(rw[z]at e;cases e)
    have ob:∃o,s.heap.get? a=a3 o:=by
     rcases hA a ha with ⟨xs,e⟩|⟨oc,v,e,_⟩
     .obtain⟨_,its,n,_,z⟩:=(show ji P w H s.heap a (.lst xs)from e0.hok _ _ e);exact⟨_,z⟩
     .exact⟨_,(show ji P w H s.heap a (.frz oc (.own 0))from e0.hok _ _ e).1⟩
    obtain⟨o,z⟩:=ob;exact⟨_,z,un.keep a _ z (qt ha) nf (by simp),un.free a _ z (qt ha) (by simp)⟩
   have hF:∀a∈A,H' a=a6:=λa ha=>let ⟨_,_,_,z⟩:=kept a ha;z;have outF:∀{b:aa}{o:HO},H' b=a3 o->b∉A:=λ{b o} e z=>by rw[hF b z]at e;cases e
   refine⟨v,mrg A H H',os,bare,?_,λa o e=>?_,rel,q hF⟩
   .exact{
     keep:=λb o e n=>un.keep b o e (nd n)
     slot:=λb o e n=>un.slot b o e (nd n)
     free:=λb o e n hx=>by
      by_cases z:b∈A
      .rw[J6 z];exact n
      .rw[jk z];exact un.free b o e (nd n) hx
     there:=un.there
     tups:=λb xs e=>by
      have z:=un.tups b xs (by rw[j6 (out e (λ_ y=>by cases y) λ_ _ y=>by cases y)];exact e)
      rw[jk (outF z)];exact z
     frzs:=λb o u e=>by
      by_cases y:b∈A
      .rw[J6 y];exact e
      .have z:=un.frzs b o u (by rw[j6 y];exact e)
       rw[jk y];exact z
     tbls:=λb ps e=>by
      obtain⟨more,z⟩:=un.tbls b ps (by rw[j6 (out e (λ_ y=>by cases y) λ_ _ y=>by cases y)];exact e)
      exact⟨more,by rw[jk (outF z)];exact z⟩ }
   .by_cases z:a∈A
    .rw[J6 z]at e;obtain⟨o',q1,q2,_⟩:=kept a z;rcases hA a z with ⟨xs,e'⟩|⟨oc,v,e',_⟩
     .rw[e']at e;cases e;obtain⟨hl,its,n,r,y⟩:=(show ji P w H s.heap a (.lst xs)from e0.hok _ _ e')
      rw[y]at q1;cases q1;exact⟨hl,its,n,r,q2⟩
     .rw[e']at e;cases e;have y:=(show ji P w H s.heap a (.frz oc (.own 0))from e0.hok _ _ e').1;rw[y]at q1;cases q1;exact⟨q2,_,q2⟩
    .rw[jk z]at e;refine ji.stay (hok' a o e) (λb u _ q=>q) (λb q=>?_) (λb xs q=>?_) (λb _ _ q=>?_)
     .rw[jk (outF q)];exact q
     .rw[jk (outF q)];exact q
     .rw[jk (outF q)];exact q
structure LamScope(N ps:List af)(sc:b9):Prop where
 kind:sc.kind=.function
 co:sc.isCoroutine=a4
 gen:sc.isGenerator=a4
 nd:N.Nodup
 nm:N=J5 sc++ps
 lfr:∀x∈J5 sc,sc.names.lookup x=a3 .free
 lps:∀x∈ps,sc.names.lookup x=a3 .local
 nocell:∀y∈sc.names,y.2≠.cell
 cov:∀x,sc.names.lookup x=a3 .free->x∈J5 sc
noncomputable def Yu(P:au)(w:aA)(K:k90)(mg:k93)(base:aD)(N:List af)(qual:af)(scope:b9)(a:aa)(cd:a9)(cl:List (af×aa))(A:aB)(outer:List dj)(s:ae)(H:Hp):Cx where
 prog:=P
 w:=w
 K:=K
 mg:=mg
 base:=base
 A:=A.deeper (W.envX qual scope s.heap.objs.size a cd cl)
 N:=N
 s₀:=s
 H₀:=H
 env:=W.envX qual scope s.heap.objs.size a cd cl
 outer:=outer
 stack:=W.envX qual scope s.heap.objs.size a cd cl::outer
 ex:=[]
 calm:=a5
 fn:=λ_=>a4
 pn:=[]
 xe:=λ_ _=>False
def Jj(h:aD):List aa->List V->Prop
 |[],vs=>vs=[]
 |c::cs,vs=>∃v r u,vs=v::r/\h.IsCell c (a3 u)/\RelV v u/\Jj h cs r
theorem Jj.get{h:aD}:∀{cs:List aa}{vs:List V}{i:Nat}{v:V},Jj h cs vs->vs[i]?=a3 v->∃c u,cs[i]?=a3 c/\h.IsCell c (a3 u)/\RelV v u
 |[],_,i,v,e,q=>by cases e;simp at q
 |c::cs,_,0,v,⟨x,r,u,e,h1,h2,_⟩,q=>by subst e;simp at q;subst q;exact⟨c,u,rfl,h1,h2⟩
 |c::cs,_,i+1,v,⟨x,r,u,e,_,_,l⟩,q=>by subst e;obtain⟨c',u',z1,z2⟩:=Jj.get l (i:=i) (by simpa using q);exact⟨c',u',by simpa using z1,z2⟩
theorem Jj.length{h:aD}:∀{cs:List aa}{vs:List V},Jj h cs vs->vs.length=cs.length
 |[],_,e=>by cases e;rfl
 |c::cs,_,⟨x,r,u,e,_,_,l⟩=>by subst e;simp[l.length]
theorem Jj.all{h:aD}:∀{cs:List aa}{vs:List V},Jj h cs vs->∀c∈cs,∃v,h.IsCell c v
 |c::cs,_,⟨x,r,u,e,h1,_,l⟩,b,hb=>(xn.mp hb).elim (λz=>z▸⟨_,h1⟩) (l.all b)
theorem lookup_at{α:Type}:∀{l:List (af×α)} {i:Nat} {p:af×α},(l.map (·.1)).Nodup->l[i]?=a3 p->l.lookup p.1=a3 p.2
 |[],i,p,_,h=>by simp at h
 |q::l,0,p,_,h=>by simp at h;subst h;rw[Xj,beq_self_eq_true]
 |q::l,i+1,p,nd,h=>by rw[xr]at nd;rw[Tp]at h;have ne:(p.1==q.1)=a4:=beq_eq_false_iff_ne.mpr λz=>(Xo.mp nd).1 (z▸eA (Xl h));rw[Xj,ne];exact lookup_at (Xo.mp nd).2 h
theorem j3f{ps:List af}{us:List a9}{i:Nat}{p:af}{u:a9}(nd:ps.Nodup)(hl:us.length=ps.length)(h1:ps[i]?=a3 p)(h2:us[i]?=a3 u):(ps.zip us).reverse.lookup p=a3 u:=by
 have hm:(p,u)∈(ps.zip us).reverse:=List.mem_reverse.mpr (Xl (i:=i) (by rw[List.getElem?_zip_eq_some];exact⟨h1,h2⟩));have e:((ps.zip us).reverse.map (·.1))=ps.reverse:=by rw[List.map_reverse,List.map_fst_zip nofun]
 obtain⟨j,hj⟩:=List.mem_iff_getElem?.mp hm;exact lookup_at (by rw[e];exact(List.reverse_perm ps).nodup_iff.mpr nd) hj
section
variable{P:au}{w:aA}{K:k90}{mg:k93}{base:aD}{A:aB}{outer:List dj}{s:ae}{H:Hp}{x:af}{a c:aa}{tx:Tx}{cl:List (af×aa)}{pm ctv:a9}{cvs vs:List V}{us:List a9}{N ps:List af}{k:Nat}{Q:VK}{E:XK}
theorem jbp{h1:aD}{tk:Nat}(hh:A.handled=a6)(e0:Env0 P w K mg base A outer s H)(S:LamScope N ps tx.2.2)(hn:cl.map (·.1)=J5 tx.2.2)(nd:(cl.map (·.2)).Nodup)(hc:Jj s.heap (cl.map (·.2)) cvs)(hf:∀q∈cl.map (·.2),H q=a6)(rv:Vals vs us)(hl:vs.length=ps.length)
  (ns:h1.Ns s.heap.objs.size λy=>(ps.zip us).reverse.lookup y) (kp:∀b o,s.heap.get? b=a3 o->h1.get? b=a3 o) :
  Inv (Yu P w K mg base N (q8 x) tx.2.2 a (.ref c) cl A outer s H) [] (start N (cvs++vs)) H { s with heap:=h1,toks:=tk }:=by
 have ndN:(J5 tx.2.2).Nodup:=by have:=S.nd;rw[S.nm]at this;exact(List.nodup_append.mp this).1
 have ndP:ps.Nodup:=by have:=S.nd;rw[S.nm]at this;exact(List.nodup_append.mp this).2.1
 have ndC:(cl.map (·.1)).Nodup:=by rw[hn];exact ndN
 have lenC:cvs.length=(J5 tx.2.2).length:=by rw[hc.length,<-hn,kj,kj]
 have lenN:N.length=(cvs++vs).length:=by rw[S.nm,Xe,Xe,lenC,hl]
 have noA:∀b:aa,b∉(Yu P w K mg base N (q8 x) tx.2.2 a (.ref c) cl A outer s H).ex:=λb z=>absurd (show b∈([]:List aa)from z) (by simp);have mem2:∀{y:af}{q:aa},cl.lookup y=a3 q->q∈cl.map (·.2):=λ{y q} h=>X8.mpr ⟨(y,q),Pk h,rfl⟩;have inj:∀(l:List (af×aa)),(l.map (·.2)).Nodup->∀y z q,(y,q)∈l->(z,q)∈l->y=z:=λl=>by
  induction l with
  |nil=>intro _ y z q h;cases h
  |cons p r ih =>
   intro nd y z q h1 h2;rw[xr]at nd;obtain⟨n1,n2⟩:=Xo.mp nd;rcases xn.mp h1 with e1|h1<;>rcases xn.mp h2 with e2|h2
   .rw[<-e1]at e2;cases e2;rfl
   .exact absurd (X8.mpr ⟨(z,q),h2,by rw[<-e1]⟩) n1
   .exact absurd (X8.mpr ⟨(y,q),h1,by rw[<-e2]⟩) n1
   .exact ih n2 y z q h1 h2
 refine⟨⟨e0.mod,S.kind,rfl,rfl,X5 _,λy z q h1 h2=>inj cl nd y z q (Pk h1) (Pk h2),λy hy=>?_,λy q h=>(by cases h),λ_=>hh,Around.frames_deeper e0.frames,.inr ⟨rfl,rfl⟩,λb z=>absurd z (noA b),e0.bs,e0.bsz,λb _ _=>noA b,λb z=>absurd z (noA b),e0.funs,e0.frf⟩,
  rfl,e0.bare,Un.kept kp,⟨_,ns,λi y v h1 h2 h3=>?_⟩,λy q h=>?_,e0.hok.fresh (X5 _),λy q h=>hf q (mem2 h),λp hp=>absurd (show p∈([]:k92)from hp) (by simp),e0.hok.kept kp,?_⟩
 .have hy:tx.2.2.names.lookup y=a3 .cell\/tx.2.2.names.lookup y=a3 .free:=hy;rcases hy with hy|hy
  .exact absurd rfl (S.nocell _ (Pk hy))
  .have m:=S.cov y hy;rw[<-hn]at m;obtain⟨p,hp,e⟩:=X8.mp m;obtain⟨i,hi⟩:=List.mem_iff_getElem?.mp hp;exact⟨p.2,by have:=lookup_at ndC hi;rw[e]at this;exact this⟩
 .have h1:N[i]?=a3 y:=h1;have hi:i<(cvs++vs).length:=by rw[<-lenN];exact(X3.mp h1).1
  have ha:(cvs++vs)[i]?=a3 v:=by
   unfold start at h2;rw[Px (by simpa using hi),xx]at h2;cases e:(cvs++vs)[i]? with
   |none=>rw[e]at h2;cases h2
   |some a=>rw[e]at h2;cases h2;rfl
  rw[S.nm]at h1;by_cases z:i<cvs.length
  .rw[Px z]at ha;rw[Px nofun]at h1;obtain⟨q,u,e1,e2,r⟩:=hc.get ha;refine⟨u,r,.inr ⟨.inr (S.lfr y (Xl h1)),q,?_,e2.keeps kp⟩⟩;rw[<-hn,xx]at h1;rw[xx]at e1;obtain⟨p,hp,ep⟩:=Xu.mp h1;rw[hp]at e1;have:=lookup_at ndC hp;rw[ep]at this;show cl.lookup y=a3 q;rw[this];exact e1
  .rw[cP nofun]at ha h1;rw[<-lenC]at h1;obtain⟨u,hu,r⟩:=rv.get ha;exact⟨u,r,.inl ⟨S.lps y (Xl h1),j3f ndP (by rw[<-rv.length,hl]) h1 hu⟩⟩
 .obtain⟨v,z⟩:=hc.all q (mem2 h);exact⟨v,z.keeps kp⟩
 .unfold start;show _=N.length;rw[Xe,kj,i6];omega
theorem j7v (hr:Room (k+1) A) (e0:Env0 P w K mg base A outer s H) (ho:s.heap.get? a=a3 (W.kla_obj "<lambda>" (q8 x) tx.1 tx.2.1 tx.2.2 cl pm c ctv)) (hcd:s.heap.CodeRec (.ref c) (q8 x))
  (S:LamScope N ps tx.2.2) (hn:cl.map (·.1)=J5 tx.2.2) (nd:(cl.map (·.2)).Nodup) (hc:Jj s.heap (cl.map (·.2)) cvs) (hf:∀q∈cl.map (·.2),H q=a6)
  (hb:dE (W.kla_fn "<lambda>" (q8 x) tx.1 tx.2.1 tx.2.2 cl pm (.ref c) ctv) ⟨us,[]⟩=pure (ps.zip us)) (rv:Vals vs us) (hl:vs.length=ps.length)
  (body:Room k (Yu P w K mg base N (q8 x) tx.2.2 a (.ref c) cl A outer s H).A->Jo (Yu P w K mg base N (q8 x) tx.2.2 a (.ref c) cl A outer s H) tx.2.1 (start N (cvs++vs)) H Q) :
  cg (ax P w) A (.call (.ref a) ⟨us,[]⟩) (CR CX0 outer P w H s Q E) s:=by
 have lim:s.heap.NoLimit:=e0.mod.nolimit.keeps λb o e=>(e0.bs b o e).1;refine W.kla_callFunE (by have:=hr.dp;omega) ho rfl S.co S.gen rfl hcd ?_;rw[hb];refine ah (wpAny_newFunctionEnv S.nocell (λy hy=>S.lps y.1 (cE (a:=y.1) (b:=y.2) hy).1) (λh1 ns sb=>⟨lim.fresh _ sb,?_⟩) S.kind);show cg _ _ (.expr tx.2.1 (W.envX (q8 x) tx.2.2 s.heap.objs.size a (.ref c) cl)) _ _;have kp:∀b o,s.heap.get? b=a3 o->h1.get? b=a3 o:=λb o e=>sb.extBut b o (Xb (X4 e)) (xj _ e);have I:=jbp (x:=x) (a:=a) (c:=c) (tk:=s.toks+(ps.zip us).length) hr.hd e0 S hn nd hc hf rv hl ns kp;refine W.kla_codeExpr (b7 (body (hr.deeper _) [] _ I) (λu s' ⟨v,H',J,r,q⟩=>?_) λ_ _ z=>z.elim);exact⟨v,H',J.os,J.bare,J.base,J.hok,r,q⟩
end
mutual
noncomputable def noFn:D->Bool
 |.fn _ _=>a4
 |.tup ds=>Jw ds
 |.lst ds=>Jw ds
 |.dct _ ds=>Jw ds
 |_=>a5
noncomputable def Jw:List D->Bool
 |[]=>a5
 |d::ds=>noFn d&&Jw ds
end
section
variable{K:k90}{H:Hp}{A:List aa}
def Cel(H:Hp)(A:List aa):Prop:=∀a∈A,∃oc v,H a=a3 (.frz oc (.own 0))/\oc.data=.cell v
theorem Cel.out(hA:Cel H A){b:aa}{o:HO}(q:H b=a3 o)(h:∀oc,o≠.frz oc (.own 0)):del H A b=a3 o:=by rw[j6];exact q;intro y;obtain⟨oc,v,e,_⟩:=hA b y;rw[q]at e;exact h oc (aw e)
theorem Cel.seqT(hA:Cel H A){a:aa}{xs:List V}(h:SqT K H a xs):SqT K (del H A) a xs:=by
 rcases h with (h|⟨o,h⟩)|h
 .exact .inl (.inl (hA.out h λ_ z=>by cases z))
 .exact .inl (.inr ⟨o,hA.out h λ_ z=>by cases z⟩)
 .exact .inr h
theorem Cel.seq(hA:Cel H A){a:aa}{xs:List V}(h:SqL K H a xs):SqL K (del H A) a xs:=by
 rcases h with (h|⟨o,h⟩)|h
 .exact .inl (.inl (hA.out h λ_ z=>by cases z))
 .exact .inl (.inr ⟨o,hA.out h λ_ z=>by cases z⟩)
 .exact .inr h
mutual
theorem Enc.noc(hA:Cel H A):∀{d:D}{v:V},noFn d=a5->Enc K H d v->Enc K (del H A) d v
 |.non,_,_,h=>h
 |.bl _,_,_,h=>h
 |.int _,_,_,h=>h
 |.str _,_,_,h=>h
 |.tup _,_,n,⟨a,xs,e,q,l⟩=>⟨a,xs,e,hA.seqT q,j5.noc hA (by simpa [noFn]using n) l⟩
 |.lst _,_,n,⟨a,xs,e,q,l⟩=>⟨a,xs,e,hA.seq q,j5.noc hA (by simpa [noFn]using n) l⟩
 |.dct _ _,_,n,⟨a,xs,ep,vs,e,q,ek,kt,rv,l⟩=>⟨a,xs,ep,vs,e,hA.out q (λ_ z=>by cases z),ek,λx hx=>hA.seqT (kt x hx),rv,j5.noc hA (by simpa [noFn]using n) l⟩
 |.sct _,_,_,⟨a,e,q⟩=>⟨a,e,hA.out q λ_ z=>by cases z⟩
 |.fn _ _,_,n,_=>by cases n
theorem j5.noc(hA:Cel H A):∀{ds:List D}{xs:List V},Jw ds=a5->j5 K H ds xs->j5 K (del H A) ds xs
 |[],_,_,h=>h
 |d::ds,_,n,⟨x,r,e,h,l⟩=>by rw[Jw,Xg]at n;exact⟨x,r,e,Enc.noc hA n.1 h,j5.noc hA n.2 l⟩
end
theorem vm.cel:∀{cs:List aa}{vs:List V},vm H cs vs->Cel H cs
 |[],_,_=>λ_ h=>nomatch h
 |c::cs,_,⟨v,r,o,u,e,h,d,rv,l⟩=>λa ha=>(xn.mp ha).elim (λz=>⟨o,_,z▸h,d⟩) (l.cel a)
theorem vm.inn{P:au}{w:aA}{h:aD}(ok:HOk P w H h):∀{cs:List aa}{vs:List V},vm H cs vs->Jj h cs vs
 |[],_,e=>e
 |c::cs,_,⟨v,r,o,u,e,q,d,rv,l⟩=>⟨v,r,u,e,⟨o,(show ji P w H h c (.frz o (.own 0))from ok _ _ q).1,d⟩,rv,l.inn ok⟩
theorem vm.of_del{B:List aa}:∀{cs:List aa}{vs:List V},vm (del H B) cs vs->vm H cs vs:=λh=>h.mono jq
theorem TabOk.fz(h:TabOk K H)(hA:∀a∈A,Fz (H a)):TabOk K (L2.del H A):=λx hx c P z=>by have q:=h x hx c P z;rw[j6];exact q;intro y;rcases hA _ y with ⟨xs,e⟩|⟨oc,v,e,_⟩<;>(rw[q]at e;cases e)
end
def Kl(P:au)(w:aA)(K:k90)(mg:k93)(base:aD)(k:Nat)(x:af)(S:List D->D->Prop):Prop :=
 ∀(A:aB)(outer:List dj)(s:ae)(H:Hp)(a:aa)(B:List aa)(cs ds:List D) (d:D) (vs:List V) (us:List a9) (Q:VK) (E:XK),Room k A->Env0 P w K mg base A outer s H->TabOk K H->(∀b∈B,∃xs,H b=a3 (.lst xs)) ->
  Enc K (del H B) (.fn x cs) (.ref a)->j5 K (del H B) ds vs->Jw ds=a5->S (cs++ds) d->Vals vs us->(∀v H',j0 H H'->Enc K (del H' B) d v->Q v H')->cg (ax P w) A (.call (.ref a) ⟨us,[]⟩) (CR CX0 outer P w H s Q E) s
section
variable{P:au}{w:aA}{K:k90}{mg:k93}{base:aD}{k:Nat}{x:af}{S:List D->D->Prop}{tx:Tx}{N ps:List af}
theorem jes(ht:V5 K x=a3 tx)(Sc:LamScope N ps tx.2.2)(hl:∀ds d,S ds d->ds.length=N.length)
  (hb:∀(cl:List (af×aa)) (pm:a9) (c:aa) (ctv:a9) (us:List a9),us.length=ps.length->dE (W.kla_fn "<lambda>" (q8 x) tx.1 tx.2.1 tx.2.2 cl pm (.ref c) ctv) ⟨us,[]⟩=pure (ps.zip us))
  (hbody:∀(a c:aa)(cl:List (af×aa)) (A:aB) (outer:List dj) (s:ae) (H:Hp),cl.map (·.1)=J5 tx.2.2->Room k (Yu P w K mg base N (q8 x) tx.2.2 a (.ref c) cl A outer s H).A->∀ds d,S ds d->DT (Yu P w K mg base N (q8 x) tx.2.2 a (.ref c) cl A outer s H) (qz N ds) tx.2.1 d):Kl P w K mg base (k+1) x S:=by
 intro A outer s H a B cs ds d vs us Q E hr e0 tb hB en ea nf hS rv q;obtain⟨a',c,tx',cl,cvs,e,L,l⟩:=en;cases e;have et:tx'=tx:=aw (L.tx.symm.trans ht);subst et;have cs_at:vm H (cl.map (·.2)) cvs:=L.cs.of_del;have hA:∀b∈B++cl.map (·.2),Fz (H b):=λb hb=>(Xn.mp hb).elim (λz=>.inl (hB b z)) λz=>.inr (cs_at.cel b z);obtain⟨e1,back⟩:=j5n e0 hA;obtain⟨pm,ctv,hfo⟩:=L.fo;obtain⟨oc,hco,vs0,t0,hd0,hv0⟩:=L.co;have ho:=(show ji P w H s.heap a (.frz _ (.own 0))from e0.hok _ _ (of_del hfo).2).1;have hcd:s.heap.CodeRec (.ref c) (q8 x):=⟨c,oc,vs0,t0,rfl,(show ji P w H s.heap c (.frz oc (.own 0))from e0.hok _ _ (of_del hco).2).1,hd0,hv0⟩
 have ll:=l.length;have la:=ea.length;have hlen:=hl _ _ hS;have lenC:(cl.map (·.2)).length=(J5 tx'.2.2).length:=by rw[<-L.nm,kj,kj]
 have lcv:=(cs_at.inn e0.hok).length;have hlv:vs.length=ps.length:=by rw[Sc.nm,Xe,Xe]at hlen;omega
 have celB:Cel (del H B) (cl.map (·.2)):=L.cs.cel;have ea1:j5 K (del H (B++cl.map (·.2))) ds vs:=by rw[<-Z5];exact ea.noc celB nf
 have l1:j5 K (del H (B++cl.map (·.2))) cs cvs:=by rw[<-Z5];exact l
 refine bD (j7v (E:=E) (Q:=λv F=>(∀a∈B++cl.map (·.2),F a=a6)->Q v (mrg (B++cl.map (·.2)) H F)) hr e1 ho hcd Sc L.nm L.nd (cs_at.inn e0.hok) (λb hb=>qt (Xd _ hb)) (hb cl pm c ctv us (by rw[<-rv.length];exact hlv)) rv hlv λhrm=>?_) λr s' h=>back Q E E r s' h;refine hbody a c cl A outer s _ L.nm hrm (cs++ds) d hS _ _ _ (Yo (tb.fz hA) (l1.append ea1)) λv F g en' hF=>q v _ (Mz g) (en'.mono λb o z=>?_);have nb:b∉B++cl.map (·.2):=λy=>by rw[hF b y]at z;cases z
 rw[j6 (λy=>nb (P0 _ y)),jk nb];exact z
end
section
variable{X:Cx}{ρ:Rho}{e:ai}{es:List ai}{d:D}{cs ds:List D}{pos p:aJ}{x y:af}{i k:Nat}
theorem DE.callV {S:List D->D->Prop} (c:Kl X.prog X.w X.K X.mg X.base k x S) (hr:Room k X.A) (hi:ρ[i]?=a3 (.val (.fn x cs))) (ha:DA X ρ (e::es) ds) (nf:Jw ds=a5) (hS:S (cs++ds) d) (hN:X.N[i]?=a3 y) (hv:Vis X.env.scope y) (hd:(y==k94)=a4) (hcd:(y==k95)=a4)
  (he:a7 (e::es) X.env=(a4,ay e X.env)::a7 es X.env) (hpl:(aK pos (a7 es X.env)).any (·.1)=a4):DE X ρ (.Call (.Name y p) (e::es) [] pos) d:=λσ H Q R q pins s I=>by
 obtain⟨v,hσ,en⟩:=R.val i _ hi;obtain⟨a,c0,tx,cl,cvs,ev,L,l⟩:=id en;subst ev;refine aM (thn (J4 hN hv hd hcd pins s σ H (λv' H'=>v'=.ref a/\H'=H) I ⟨_,hσ,rfl,rfl⟩) λu s1 ⟨v',H',I1,r1,e1,e2⟩=>?_);subst e1 e2;cases(show u=az a from r1);obtain⟨pm,ctv,hfo⟩:=L.fo;have fnAt:∀{H2:Hp}{s2:ae},Inv X pins σ H2 s2->j0 H' H2->PySem.W.FnAt a s2.heap:=λ{H2 s2} I2 g=>⟨_,_,_,_,(show ji X.prog X.w H2 s2.heap a (.frz _ (.own 0))from I2.hok _ _ (g _ _ (of_del hfo).2)).1⟩
 refine W.callWith_F (fnAt I1 (j0.refl _)) (thn (ha σ H' (λvs H2=>j0 H' H2/\j5 X.K (del H2 (owns ρ)) ds vs) R (λvs H2 g z=>⟨g,z⟩) pos pins s1 I1) λus s2 ⟨vs,H2,I2,rv,g,ea⟩=>⟨fnAt I2 g,?_⟩) he hpl;refine fE (bD (c X.A X.stack s2 H2 a (owns ρ) cs ds d vs us Q E0 hr I2.env0 (R.tb.mono g) (R.grow g).owned (en.mono (jj g)) ea nf hS rv λv H3 g3 z=>q v H3 (g.trans g3) z) λr s' hq=>?_);cases r with
 |error e=>exact(show False from hq).elim
 |ok fl =>
  cases fl with
  |ret u=>exact I2.after hq
  |next=>exact(show False from hq).elim
  |brk=>exact(show False from hq).elim
  |cont=>exact(show False from hq).elim
end
theorem N8{pos:aJ}{c cv:a9}{a b:Int}:∀(l:List a9),TriplesOk l->fc pos (l++[dh a,dh b,c])=a3 cv->fc pos l=a3 cv\/cv=c
 |[],_,h=>by
  simp only[dz,dh,fc]at h;split at h
  .exact .inr (aw h).symm
  .cases h
 |.int i t::.int j u::x::r,ht,h=>by
  simp only[fv,fc]at h ⊢;split at h
  .rename_i z;rw[if_pos z];exact .inl h
  .rename_i z;rw[if_neg z];exact N8 r ht h
section
variable{X:Cx}{pins:k92}{σ:St}{H:Hp}{s:ae}
theorem Inv.madeL{q:af}{P:aa}{h2:aD}{tk:Nat}{H2:Hp}(I:Inv X pins σ H s)(hP:H P=a3 (.cod q))(g:j0 H H2)(kp:∀b o,b≠P->s.heap.get? b=a3 o->h2.get? b=a3 o)
  (new:∀b o,H2 b=a3 o->H b=a3 o\/(s.heap.objs.size<=b/\ji X.prog X.w H2 h2 b o)) (okP:ji X.prog X.w H2 h2 P (.cod q)):Inv X pins σ H2 { s with heap:=h2,toks:=tk }:=by
 have nP:∀{b:aa},H b=a6->b≠P:=λ{b} n z=>by rw[z,hP]at n;cases n
 have nO:∀{b:aa}{u:HO},H b=a3 u->(∀q,u≠.cod q)->b≠P:=λ{b u} e n z=>by rw[z,hP]at e;cases e;exact n _ rfl
 refine I.un (H':=H2) (h':=h2) (t':=tk) ⟨λb o e n _ _=>kp b o (nP n) e,λb o e n _ _=>⟨o.slots,kp b o (nP n) e⟩,λb o e n _=>?_,λb o e _=>?_,λb xs e=>g _ _ e,λb o u e=>g _ _ e,λb ps e=>⟨#[],by rw[g _ _ e];simp⟩⟩ λb o e=>?_
 .cases z:H2 b with
  |none=>rfl
  |some u =>
   rcases new b u z with y|⟨y,_⟩
   .rw[n]at y;cases y
   .exact absurd (Xc (X4 e) y) (pq _)
 .by_cases z:b=P
  .obtain⟨ps,y,_⟩:=okP;exact⟨_,by rw[z];exact y⟩
  .exact⟨o,kp b o z e⟩
 .rcases new b o e with y|⟨_,y⟩
  .by_cases z:b=P
   .subst z;rw[hP]at y;cases y;exact okP
   .exact(I.hok b o y).stay (λc u hc r=>kp c u (hc.elim (λe=>e▸z) λe=>nO e λ_ z=>by cases z) r) (λ_ r=>g _ _ r) (λ_ _ r=>g _ _ r) λ_ _ _ r=>g _ _ r
  .exact y
structure LMk(X:Cx)(x:af):Prop where
 mem:x∈Z9
 qual:X.env.qual=x ++ ".<locals>."
 code:∃c P,X.env.code=.ref c/\W.codeHdIn X.K c P=a5/\W.tabIn X.K x=a3 (c,P)
def jjo(X:Cx)(x:af)(params:dH)(body:ai)(scope:b9)(cl:List (af×aa)):TE:=λ_ H Q=>TabOk X.K H/\∀(f c:aa)(oc:cC)(pm ctv:a9)(H2:Hp),j0 H H2->H f=a6->H2 f=a3 (.frz (W.kla_obj "<lambda>" (q8 x) params body scope cl pm c ctv) (.own 0)) ->
 H2 c=a3 (.frz oc (.own 0))->Nf oc (q8 x)->Q (.ref f) H2
theorem je1{x:af}{params:dH}{body:ai}{scope:b9}{cl:List (af×aa)}{pos:aJ}(M:LMk X x)(hdef:kr params X.env=([],[]))(hcl:fH scope X.env=pure cl):PE X (.Lambda params body scope pos) (jjo X x params body scope cl):=by
 rintro pins s σ H Q I ⟨tb,h⟩;obtain⟨c,P,hc,hd,ht⟩:=M.code;have hP:=tb x M.mem c P ht;have C:iX s.heap c P:=W.codeHd_of_K I.kIn hd;obtain⟨ps,hps,htr,hcod⟩:=(show ji X.prog X.w H s.heap P (.cod (q8 x))from I.hok _ _ hP)
 have hns:=I.mod.glob.keeps I.bk;have hgP:ak≠P:=λz=>by obtain⟨o,es,ep,e,d,_⟩:=hns;rw[z,hps]at e;cases e;cases d
 have hbP:s.heap.BuiltinsAt X.mg P:=by
  obtain⟨bm,ob,b1,b2,b3,b4,b5,b6⟩:=I.mod.bm;have b3':=I.bk _ _ b3;refine⟨bm,ob,b1,b2,λz=>?_,λz=>?_,b3',b4,b5,b6⟩
  .obtain⟨o,es,ep,e,d,_⟩:=hns;rw[z,e]at b3';cases b3';rw[d]at b6;cases b6
  .rw[z,hps]at b3';cases b3';cases b4
 have hq:X.env.qual ++ "<lambda>" = q8 x:=by rw[M.qual];rfl
 refine W.kla_eval hdef ?_;rw[hq];cases e:fc pos ps.toList with
 |none =>
  refine W.kla_makeFunction hcl I.ok.glob hns hc C hps htr e hgP hbP λc' ctv h' tk hx hge hlt hrec htb=>?_;obtain⟨c2,oc,vs,t,ec,hoc,hdt,hv⟩:=hrec;cases ec;have hsz:s.heap.objs.size<=h'.objs.size:=cO (bZ hge hlt);have n1:H c'=a6:=I.hok.fresh hge;have n2:H h'.objs.size=a6:=I.hok.fresh hsz;have ne:c'≠h'.objs.size:=Xb hlt;have hne:∀{b:aa}{u:HO},H b=a3 u->b≠c'/\b≠h'.objs.size:=λz=>⟨v7 z n1,v7 z n2⟩
  have g:∀fo:HO,j0 H (upd (upd H c' (.frz oc (.own 0))) h'.objs.size fo):=λfo b u z=>by rw[je (hne z).2,je (hne z).1];exact z
  have h2c:∀fo:HO,upd (upd H c' (.frz oc (.own 0))) h'.objs.size fo c'=a3 (.frz oc (.own 0)):=λfo=>by rw[je ne,jc]
  refine⟨.ref h'.objs.size,_,I.madeL (P:=P) (q:=q8 x) (H2:=upd (upd H c' (.frz oc (.own 0))) h'.objs.size (.frz (W.kla_obj "<lambda>" (q8 x) params body scope cl ((X.mg "__name__").getD .none) c' ctv) (.own 0))) hP (g _)
   (λb o nb z=>xj _ (hx b o nb z)) (λb o z=>?_) ?_,rfl,h _ c' oc _ ctv _ (g _) n2 jc (h2c _) ⟨vs,t,hdt,hv⟩⟩
  .by_cases z1:b=h'.objs.size
   .subst z1;rw[jc]at z;cases z;exact .inr ⟨hsz,X6 _ rfl,_,X6 _ rfl⟩
   .rw[je z1]at z;by_cases z2:b=c'
    .subst z2;rw[jc]at z;cases z;exact .inr ⟨hge,xj _ hoc,_,xj _ hoc⟩
    .rw[je z2]at z;exact .inl z
  .refine⟨_,xj _ htb,by rw[Tq];exact TriplesOk_snoc _ _ _ _ htr,λpos' cv z=>?_⟩;rw[Tq]at z;rcases N8 ps.toList htr z with z|z
   .obtain⟨c3,oc3,e1,e2,e3⟩:=hcod pos' cv z;exact⟨c3,oc3,e1,g _ _ _ e2,e3⟩
   .exact⟨c',oc,z,h2c _,vs,t,hdt,hv⟩
 |some cv =>
  obtain⟨c',oc,ec,h1,h2⟩:=hcod pos cv e;subst ec;refine W.kla_makeFunctionHit hcl I.ok.glob hns hc C hps htr e hbP λctv h' tk hk hsz=>?_;have n2:H h'.objs.size=a6:=I.hok.fresh hsz;have g:∀fo:HO,j0 H (upd H h'.objs.size fo):=λfo=>j7 n2;refine⟨.ref h'.objs.size,_,I.madeL (P:=P) (q:=q8 x) (H2:=upd H h'.objs.size (.frz (W.kla_obj "<lambda>" (q8 x) params body scope cl ((X.mg "__name__").getD .none) c' ctv) (.own 0))) hP (g _)
   (λb o _ z=>xj _ (hk b o z)) (λb o z=>?_) ?_,rfl,h _ c' oc _ ctv _ (g _) n2 jc (g _ _ _ h1) h2⟩
  .by_cases z1:b=h'.objs.size
   .subst z1;rw[jc]at z;cases z;exact .inr ⟨hsz,X6 _ rfl,_,X6 _ rfl⟩
   .rw[je z1]at z;exact .inl z
  .refine⟨ps,xj _ (hk _ _ hps),htr,λpos' cv z=>?_⟩;obtain⟨c3,oc3,e1,e2,e3⟩:=hcod pos' cv z;exact⟨c3,oc3,e1,g _ _ _ e2,e3⟩
noncomputable def plus(H:Hp)(h:aD)(cs:List aa):Hp:=λb=>if b∈cs then(h.get? b).map λo=>.frz o (.own 0)else H b
theorem Fd{h:aD}{cs:List aa}{b:aa}{o:cC}(hb:b∈cs)(e:h.get? b=a3 o):plus H h cs b=a3 (.frz o (.own 0)):=by unfold plus;rw[if_pos hb,e];rfl
theorem Q5{h:aD}{cs:List aa}{b:aa}(hb:b∉cs):plus H h cs b=H b:=if_neg hb
def Own(X:Cx)(cs:List aa):Prop:=∀c∈cs,∃y,X.env.cells.lookup y=a3 c/\X.fn y=a5
theorem Own.obj{cs:List aa}(I:Inv X pins σ H s)(hc:Own X cs){c:aa}(h:c∈cs):∃o v,s.heap.get? c=a3 o/\o.data=.cell v/\H c=a6/\X.s₀.heap.objs.size<=c/\c≠X.env.locals:=by obtain⟨y,e,f⟩:=hc c h;obtain⟨v,o,e1,e2⟩:=I.cell y c e;exact⟨o,v,e1,e2,I.freeC y c e,I.ok.cab y c f e,I.cne y c e⟩
theorem Wi{cs:List aa}(I:Inv X pins σ H s)(hc:Own X cs):j0 H (plus H s.heap cs):=λb o e=>by rw[Q5];exact e;intro z;obtain⟨_,_,_,_,n,_⟩:=hc.obj I z;rw[n]at e;cases e
theorem Inv.plus{cs:List aa}(I:Inv X pins σ H s)(hc:Own X cs) :
  Env0 X.prog X.w X.K X.mg X.base X.A X.stack s (plus H s.heap cs)/\∀(Q:VK)(u:a9)(s':ae),CE X.stack X.prog X.w (L2.plus H s.heap cs) s (λv H'=>Cel H' cs->Q v (del H' cs)) u s'->EP X pins σ Q u s':=by
 have e0:=I.env0;have nb:∀{b:aa}{u:HO},H b=a3 u->b∉cs:=λ{b u} e z=>by obtain⟨_,_,_,_,n,_⟩:=hc.obj I z;rw[n]at e;cases e
 have nf:∀b∈frs X.stack,b∉cs:=λb hb z=>by
  obtain⟨o,v,e1,e2,n,hge,hl⟩:=hc.obj I z;rcases xn.mp (I.stkSub b hb)with y|y
  .exact hl y
  .obtain⟨_,o',ho,_⟩:=I.ok.funs.mem y;exact absurd (Xc (X4 ho) hge) (pq _)
 have g:=Wi I hc;refine⟨⟨e0.frames,e0.mod,λb o e=>⟨(e0.bs b o e).1,?_⟩,e0.bsz,e0.funs,λb hb=>by rw[Q5 (nf b hb)];exact e0.frf b hb,λb o e=>?_,e0.bare⟩,λQ u s' hq=>?_⟩
 .rw[Q5];exact(e0.bs b o e).2;intro z;obtain⟨_,_,_,_,_,hge,_⟩:=hc.obj I z;exact absurd (Xc (X4 e) (Xk I.ok.bsz hge)) (pq _)
 .by_cases z:b∈cs
  .obtain⟨oc,v,e1,_⟩:=hc.obj I z;rw[Fd z e1]at e;cases e;exact⟨e1,_,e1⟩
  .rw[Q5 z]at e;exact(I.hok b o e).stay (λ_ _ _ r=>r) (λ_ r=>g _ _ r) (λ_ _ r=>g _ _ r) λ_ _ _ r=>g _ _ r
 .obtain⟨v,H',os,bare,un,hok',rel,q⟩:=hq;have cel:∀c∈cs,∃o v,s.heap.get? c=a3 o/\o.data=.cell v/\H' c=a3 (.frz o (.own 0))/\s'.heap.get? c=a3 o:=λc hcs=>by obtain⟨o,v,e1,e2,_⟩:=hc.obj I hcs;have z:=un.frzs c o _ (Fd hcs e1);exact⟨o,v,e1,e2,z,(show ji X.prog X.w H' s'.heap c (.frz o (.own 0))from hok' _ _ z).1⟩
  have hC:Cel H' cs:=λc hcs=>let ⟨o,v,_,e2,e3,_⟩:=cel c hcs;⟨o,v,e3,e2⟩;have nb':∀{b:aa}{u:HO},H' b=a3 u->(∀oc v,u=.frz oc (.own 0)->oc.data≠.cell v)->del H' cs b=a3 u:=λ{b u} e n=>by rw[j6];exact e;intro z;obtain⟨o,v,_,e2,e3,_⟩:=cel b z;rw[e]at e3;cases e3;exact n _ _ rfl e2
  refine⟨v,del H' cs,I.call' (ch:=[]) os ⟨λb o e n hb hx=>?_,λb o e n hb hx=>?_,λb o e n hx=>?_,un.there,λb xs e=>?_,λb o u e=>?_,λb ps e=>?_⟩ (λb o e=>?_) bare (λb z=>absurd z (by simp)),rel,q hC⟩
  .by_cases z:b∈cs
   .obtain⟨o',v',e1,_,_,e4⟩:=cel b z;rw[e]at e1;cases e1;exact e4
   .exact un.keep b o e (by rw[Q5 z];exact n) hb hx
  .exact un.slot b o e (by rw[Q5 (nf b hb)];exact n) hb hx
  .by_cases z:b∈cs
   .exact qt z
   .rw[j6 z];exact un.free b o e (by rw[Q5 z];exact n) hx
  .have z:=un.tups b xs (g _ _ e);exact nb' z λ_ _ y=>by cases y
  .have z:=un.frzs b o u (g _ _ e);rw[j6 (nb e)];exact z
  .obtain⟨m,z⟩:=un.tbls b ps (g _ _ e);exact⟨m,nb' z λ_ _ y=>by cases y⟩
  .obtain⟨n,e⟩:=of_del e;exact(hok' b o e).stay (λ_ _ _ r=>r) (λ_ r=>nb' r λ_ _ y=>by cases y) (λ_ _ r=>nb' r λ_ _ y=>by cases y) λ_ _ ⟨vs,d⟩ r=>nb' r λ_ _ y d'=>by cases y;rw[d]at d';cases d'
end
def Zg(X:Cx)(ρ:Rho):List (af×aa)->List D->Prop
 |[],ds=>ds=[]
 |p::cl,ds=>∃(d:D)(r:List D)(i:Nat),ds=d::r/\X.N[i]?=a3 p.1/\X.env.scope.names.lookup p.1=a3 .cell/\X.env.cells.lookup p.1=a3 p.2/\X.fn p.1=a5/\ρ[i]?=a3 (.val d)/\Zg X ρ cl r
section
variable{X:Cx}{pins:k92}{σ:St}{H H2:Hp}{s s2:ae}{ρ:Rho}
theorem Zg.own:∀{cl:List (af×aa)} {ds:List D},Zg X ρ cl ds->Own X (cl.map (·.2))
 |[],_,_=>λ_ h=>nomatch h
 |p::cl,_,⟨d,r,i,e,h1,h2,h3,h4,h5,l⟩=>λc hc=>(xn.mp hc).elim (λz=>⟨p.1,by rw[z];exact h3,h4⟩) (Zg.own l c)
theorem Zg.look:∀{cl:List (af×aa)} {ds:List D},Zg X ρ cl ds->∀p∈cl,X.env.cells.lookup p.1=a3 p.2
 |p::cl,_,⟨d,r,i,e,h1,h2,h3,h4,h5,l⟩,q,hq=>(xn.mp hq).elim (λz=>z▸h3) (Zg.look l q)
theorem Zg.cells(I2:Inv X pins σ H2 s2)(R:Rep X.K ρ σ H){cs:List aa}(hg:j0 (del H (owns ρ)) (del (plus H2 s2.heap cs) cs)):∀{cl:List (af×aa)} {ds:List D},Zg X ρ cl ds->(∀c∈cl.map (·.2),c∈cs) ->
  ∃vs,vm (plus H2 s2.heap cs) (cl.map (·.2)) vs/\j5 X.K (del (plus H2 s2.heap cs) cs) ds vs
 |[],_,h,_=>by cases h;exact⟨[],rfl,rfl⟩
 |p::cl,_,⟨d,r,i,e,h1,h2,h3,h4,h5,l⟩,hm=>by
  subst e;obtain⟨vs,q1,q2⟩:=Zg.cells I2 R hg l λc hc=>hm c (km _ hc);obtain⟨v,hv,en⟩:=R.val i d h5;obtain⟨m,hn,hl⟩:=I2.loc;obtain⟨u,r,lk⟩:=hl i p.1 v h1 hv (.inr (.inl h2));rcases lk with ⟨k,_⟩|⟨_,c,e,o,ho,hd⟩
  .have k:X.env.scope.names.lookup p.1=a3 .local:=k;rw[h2]at k;cases k
  .rw[h3]at e;cases e;exact⟨v::vs,⟨v,vs,o,u,rfl,Fd (hm _ (xm ..)) ho,hd,r,q1⟩,v,vs,rfl,en.mono hg,q2⟩
theorem j11{cl:List (af×aa)}{ds:List D}(ok:X.Ok)(h:Zg X ρ cl ds)(nd:(cl.map (·.1)).Nodup):(cl.map (·.2)).Nodup:=by
 have lk:=h.look;clear h;induction cl with
 |nil=>exact dO
 |cons p r ih =>rw[xr]at nd ⊢;obtain⟨n1,n2⟩:=Xo.mp nd;refine Xo.mpr ⟨λz=>?_,ih n2 λq hq=>lk q (km _ hq)⟩;obtain⟨q,hq,e⟩:=X8.mp z;have:=ok.inj p.1 q.1 p.2 (lk p (xm ..)) (by rw[<-e];exact lk q (km _ hq));exact n1 (this▸eA hq)
theorem jg0{x:af}{tx:Tx}{cl:List (af×aa)}{ds:List D}{f c:aa}{oc:cC}{pm ctv:a9}(ht:V5 X.K x=a3 tx)(hn:cl.map (·.1)=J5 tx.2.2)(nd:(J5 tx.2.2).Nodup)(hc:Zg X ρ cl ds)(I2:Inv X pins σ H2 s2)(R:Rep X.K ρ σ H)(g:j0 H H2)
  (hf:H2 f=a3 (.frz (W.kla_obj "<lambda>" (q8 x) tx.1 tx.2.1 tx.2.2 cl pm c ctv) (.own 0))) (ho:H2 c=a3 (.frz oc (.own 0))) (hq:Nf oc (q8 x)):Enc X.K (plus H2 s2.heap (cl.map (·.2))) (.fn x ds) (.ref f):=by
 have pg:=Wi I2 hc.own;have hg:j0 (del H (owns ρ)) (del (plus H2 s2.heap (cl.map (·.2))) (cl.map (·.2))):=λb o e=>by
  have e2:=g _ _ (of_del e).2;have nb:b∉cl.map (·.2):=λz=>by obtain⟨_,_,_,_,n,_⟩:=hc.own.obj I2 z;rw[n]at e2;cases e2
  rw[j6 nb,Q5 nb];exact e2
 obtain⟨vs,q1,q2⟩:=hc.cells I2 R hg λ_ z=>z;exact⟨f,c,tx,cl,vs,rfl,⟨ht,⟨pm,ctv,pg _ _ hf⟩,⟨oc,pg _ _ ho,hq⟩,hn,j11 I2.ok hc (by rw[hn];exact nd),q1⟩,q2⟩
end
section
variable{X:Cx}{ρ:Rho}{P:Po}{x:af}{params:dH}{body:ai}{scope:b9}{cl:List (af×aa)}{ds:List D}{pos p1 p2:aJ}
theorem DT.callL{S:List D->D->Prop}{g:af}{e1 e2:ai}{d1 d2 d:D}(c:Cal X g (spP X.K S))(M:LMk X x)(hdef:kr params X.env=([],[]))(hcl:fH scope X.env=pure cl)(ht:V5 X.K x=a3 (params,body,scope))(hn:cl.map (·.1)=J5 scope)(nd:(J5 scope).Nodup)(hc:Zg X ρ cl ds)
  (h1:DT X ρ e1 d1) (h2:DT X ρ e2 d2) (nf:noFn d=a5) (hS:S [d1,d2,.fn x ds] d) (hg:Gl X g) (hdb:(g==k94)=a4)
  (hs1:a7 [e1,e2,.Lambda params body scope p1] X.env=(a4,ay e1 X.env)::a7 [e2,.Lambda params body scope p1] X.env) (hs2:a7 [e2,.Lambda params body scope p1] X.env=(a4,ay e2 X.env)::a7 [.Lambda params body scope p1] X.env)
  (hs3:a7 [.Lambda params body scope p1] X.env=(a4,ay (.Lambda params body scope p1) X.env)::a7 [] X.env) (hpl:(aK pos (a7 [e2,.Lambda params body scope p1] X.env)).any (·.1)=a4) :
  DT X ρ (.Call (.Name g p2) [e1,e2,.Lambda params body scope p1] [] pos) d:=λσ H Q R q pins s I=>by
 obtain⟨k,f,fd,ps,F,hr,hm,hk,hb,_⟩:=c.ex;refine aM (Z4 I hg hm ?_ hdb);refine W.callWith_K (h₀:=X.base) I.ok.mod.kin hk (thn ((jb peS (jb peS (jb (je1 M hdef hcl) jo hs3) hs2) hs1) pos pins s σ H (λvs H2=>∃(v1 v2:V)(f c:aa)(oc:cC)(pm ctv:a9),vs=[v1,v2,.ref f]/\j0 H H2/\Enc X.K H2 d1 v1/\Enc X.K H2 d2 v2 /\
   H2 f=a3 (.frz (W.kla_obj "<lambda>" (q8 x) params body scope cl pm c ctv) (.own 0))/\H2 c=a3 (.frz oc (.own 0))/\Nf oc (q8 x)) I
  (h1 σ H _ R λv1 H1 g1 q1=>h2 σ H1 _ (R.grow g1) λv2 H2 g2 q2=>⟨R.tb.mono (g1.trans g2),λf c oc pm ctv H3 g3 _ z1 z2 z3=>⟨v1,v2,f,c,oc,pm,ctv,rfl,(g1.trans g2).trans g3,q1.mono (g2.trans g3),q2.mono g3,z1,z2,z3⟩⟩)) λus s2 ⟨vs,H2,I2,rv,v1,v2,fa,ca,oc,pm,ctv,ev,g,q1,q2,z1,z2,z3⟩=>⟨I2.kIn,?_⟩) hs1 hpl
 subst ev;have pg:=Wi I2 hc.own;have ef:=jg0 (tx:=(params,body,scope)) ht hn nd hc I2 R g z1 z2 z3;obtain⟨e0,back⟩:=I2.plus hc.own;have sp:spP X.K S [v1,v2,.ref fa] (plus H2 s2.heap (cl.map (·.2))) (λv H'=>Cel H' (cl.map (·.2))->Q v (del H' (cl.map (·.2)))) E0 :=
  ⟨[],[d1,d2,.fn x ds],d,(R.tb.mono g).mono pg,(λa h=>nomatch h),by rw[vz];exact⟨_,_,rfl,q1.mono pg,_,_,rfl,q2.mono pg,_,_,rfl,ef,rfl⟩,hS,λv H' g' en hC=>by
   rw[vz]at en
   refine q v _ (λb o e=>?_) (en.noc hC nf)
   have e2:=g _ _ e
   have nb:b∉cl.map (·.2):=λz=>by obtain⟨_,_,_,_,n,_⟩:=hc.own.obj I2 z;rw[n]at e2;cases e2
   rw[j6 nb];exact g' _ _ (pg _ _ e2)⟩
 have hl:us.length=ps.length:=by rw[<-rv.length];exact F.len _ _ _ _ sp
 have hb':=hb s2 us I2.kIn (by rw[Xv];exact hl);rw[Xv]at hb';refine fE (bD (F.run X.A X.stack s2 _ ⟨us,[]⟩ us _ _ _ (hr.mono (Td _)) e0 hb' rv sp) λr s' hq=>?_);cases r with
 |error e=>exact(show False from hq).elim
 |ok fl =>
  cases fl with
  |ret u=>exact back Q u s' hq
  |next=>exact(show False from hq).elim
  |brk=>exact(show False from hq).elim
  |cont=>exact(show False from hq).elim
end
section
variable{X:Cx}{ρ:Rho}{e a b c:ai}{es:List ai}{st:aS}{rest sa sb body:List aS}{P:Po}{d:D}{ds ds':List D}{pos p p1 p2 p3:aJ}{x:af}{i:Nat}
theorem DSs.last(h:DS X ρ st P):DSs X ρ [st] P:=.cons h λρ' n=>DSs.nil n
theorem Cal.comp{sp:Sp}{scope:b9}{C:aa}{s:ae}{H:Hp}{fp:List aa}{pn:k92}(h:Cal X x sp):Cal (cCx X scope C s H fp pn) x sp:=⟨h.ex⟩
end
theorem za(lo:Int)(n:Nat):(upto lo n).length=n:=by unfold upto;rw[kj,Xh]
theorem Vv{lo:Int}{n j:Nat}{d:D}(h:(upto lo n)[j]?=a3 d):j<n/\d=.int (lo+j):=by
 unfold upto at h;rw[xx]at h;cases z:(ar n)[j]? with
 |none=>rw[z]at h;cases h
 |some k =>rw[z]at h;have hl:=(X3.mp z).1;rw[Xh]at hl;have:=Xw (n:=n) (i:=j) hl;rw[this]at z;cases z;cases h;exact⟨hl,rfl⟩
section
variable{X:Cx}{ρ:Rho}{a b tg it:ai}{ds ds':List D}{d:D}{i:Int}{pos:aJ}
end
mutual
def jia:D->Prop
 |.tup l=>l.length<=1000/\Ew l
 |.lst l=>l.length<=1000/\Ew l
 |.dct _ _=>False
 |.sct _=>False
 |.fn _ _=>False
 |_=>True
def Ew:List D->Prop
 |[]=>True
 |d::ds=>jia d/\Ew ds
end
theorem D.depL_of{n:Nat}:∀{ds:List D},(∀d∈ds,d.dep<=n)->D.depL ds<=n
 |[],_=>by simp only[D.depL];omega
 |x::xs,h=>by simp only[D.depL];have h1:=h x (xm ..);have h2:=D.depL_of (ds:=xs) λd m=>h d (km _ m);omega
end L2
namespace L2
noncomputable def j4(b:Int):Nat->Int->List Int
 |0,_=>[]
 |i+1,n=>(n/b^i%b)::j4 b i n
theorem jw(b:Int):∀(m:Nat)(n:Int),(j4 b m n).length=m
 |0,_=>rfl
 |m+1,n=>by rw[j4,xq,jw b m n]
theorem Qa(b:Int):∀{m k:Nat}{n:Int},k<m->(j4 b m n)[k]?=a3 (n/b^(m-k-1)%b)
 |m+1,0,n,_=>by rw[j4];rfl
 |m+1,k+1,n,h=>by
  rw[j4,Tp,Qa b nofun];have:m-k-1=m+1-(k+1)-1:=by omega
  rw[this]
theorem Qj{b:Int}(hb:0<b):∀{m:Nat}{n v:Int},v∈j4 b m n->0<=v/\v<b
 |m+1,n,v,h=>by
  rw[j4]at h;rcases xn.mp h with e|h
  .subst e;exact⟨Py _ nofun,T9 _ hb⟩
  .exact Qj hb h
theorem Oh(n b:Int)(hb:0<b)(i:Nat):n/b^i/b=n/b^(i+1):=by rw[Int.ediv_ediv_of_nonneg (i9 (cB hb)),i7]
end L2
end
section
namespace L2
open PySem PySem.Spec PyProof.Rows
def CX1(P:au)(w:aA):CXT:=λouter H s E ev s'=>∃(e:aa)(C:a9)(H':Hp),ev=.ref e/\s'.os=s.os/\dy s'.gens/\Un (frs outer) [] H H' s.heap s'.heap/\HOk P w H' s'.heap /\
 Fl (λb=>∃o,s.heap.get? b=a3 o) H' s'.heap e C/\E C a6 H'
theorem ji.get{P:au}{w:aA}{H:Hp}{h:aD}{a:aa}{o:HO}(x:ji P w H h a o):∃u,h.get? a=a3 u:=by
 cases o with
 |lst xs=>obtain⟨_,_,_,_,e⟩:=x;exact⟨_,e⟩
 |tup xs=>obtain⟨_,_,_,⟨_,e,_⟩,_⟩:=x;exact⟨_,e⟩
 |dK kvs=>obtain⟨_,_,_,_,o,_,_,e,_⟩:=x;exact⟨_,e⟩
 |dT kvs=>obtain⟨_,_,_,_,o,_,_,e,_⟩:=x;exact⟨_,e⟩
 |dI xs ep=>obtain⟨_,_,_,o,_,e,_⟩:=x;exact⟨_,e⟩
 |set S n=>obtain⟨o,_,_,_,e,_⟩:=x;exact⟨_,e⟩
 |ins C dx fs=>obtain⟨_,_,_,e,_⟩:=x;exact⟨_,e⟩
 |own y=>obtain⟨_,e⟩:=x;exact⟨_,e⟩
 |xd fs=>obtain⟨_,⟨_,_,_,e,_⟩,_⟩:=x;exact⟨_,e⟩
 |rng lo hi=>obtain⟨_,_,_,e⟩:=x;exact⟨_,e⟩
 |frz ob u=>obtain⟨e,_⟩:=x;exact⟨_,e⟩
 |tbl ps=>exact⟨_,(show h.get? a=a3 _ from x)⟩
 |cod q=>obtain⟨_,e,_⟩:=x;exact⟨_,e⟩
 |met f y=>exact⟨_,(show h.get? a=a3 _ from x)⟩
 |ext φ=>obtain⟨_,⟨_,e⟩,_⟩:=x;exact⟨_,e⟩
section
variable{X:Cx}{pins:k92}{σ:St}{H:Hp}{s:ae}
theorem Inv.old(I:Inv X pins σ H s){b:aa}(h:Old X pins b):∃o,s.heap.get? b=a3 o:=by
 rcases h with ⟨o,q,n⟩|⟨p,hp,rfl⟩|rfl|⟨x,e⟩
 .exact I.base.there b o q n
 .exact⟨_,(I.pin p hp).1⟩
 .obtain⟨m,⟨o,_,_,e,_⟩,_⟩:=I.loc;exact⟨o,e⟩
 .obtain⟨v,o,e,_⟩:=I.cell x b e;exact⟨o,e⟩
end
section
variable{P:au}{w:aA}{K:k90}{mg:k93}{base:aD}{N ps:List af}{qual:af}{scope:b9}{f:aa}{cd:a9}{A:aB}{outer:List dj}{s s':ae}{H H':Hp}{E:XK}{σ:St}{pins:k92}{e:aa}{C:a9}
theorem j1n{as:List aa}{h':aD}{a0:a9}(I:Inv (zu (CX1 P w) P w K mg base N qual scope f cd A outer s H E) pins σ H' s')(F:Fl (Old (zu (CX1 P w) P w K mg base N qual scope f cd A outer s H E) pins) H' s'.heap e C)
  (hE:E C a6 H') (ha:∀b,b∈as↔b∈frs (bo qual scope s.heap.objs.size f cd::outer)\/(¬(∃o,s.heap.get? b=a3 o)/\H' b=a6/\b∈as)) (hfa:∀b∈frs (bo qual scope s.heap.objs.size f cd::outer),b∈as)
  (hL:Heap.LeftW (W.hideAll s'.heap as) (bo qual scope s.heap.objs.size f cd::outer) e C a0 s'.heap h'):CX1 P w outer H s E (.ref e) { s' with heap:=h' }:=by
 obtain⟨k1,k2,k3,k4⟩:=hL;have fr:∀b∈frs outer,∃o,s'.heap.get? b=a3 o/\∀vs,o.data≠.fields vs:=λb hb=>by obtain⟨o,ho,hd⟩:=(I.stack.mem (show b∈frs (bo qual scope s.heap.objs.size f cd::outer)from km _ hb)).2;exact⟨o,ho,hd⟩
 have sfree:∀b∈frs (bo qual scope s.heap.objs.size f cd::outer),H' b=a6:=I.stkFree;have keep:∀b o,s'.heap.get? b=a3 o->b∉as->h'.get? b=a3 o:=λb o q n=>k1 b o (W.hideAll_get _ q n);have nold:∀b o,s.heap.get? b=a3 o->b∉frs outer->b∉as:=λb o q n z=>by
  rcases(ha b).mp z with z|⟨z,_⟩
  .rcases xn.mp z with z|z
   .have:=X4 q;rw[show b=s.heap.objs.size from z]at this;exact absurd this (pq _)
   .exact n z
  .exact z ⟨o,q⟩
 have ntrk:∀b u,H' b=a3 u->b∉as:=λb u q z=>by
  rcases(ha b).mp z with z|⟨_,z,_⟩
  .rw[sfree b z]at q;cases q
  .rw[z]at q;cases q
 have slot:∀b∈frs outer,∀o,s'.heap.get? b=a3 o->∃sl,h'.get? b=a3 { o with slots:=sl }:=λb hb o q=>by obtain⟨o',ho,hd⟩:=fr b hb;rw[q]at ho;cases ho;exact k4 b o q hd
 have un:=I.base;refine⟨e,C,H',rfl,I.os,I.bare,⟨λb o q n hb _=>keep b o (un.keep b o q n hb (λz=>nomatch z)) (nold b o q hb),λb o q n hb _=>?_,λb o q n _=>un.free b o q n (λz=>nomatch z),λb o q _=>?_,un.tups,un.frzs,un.tbls⟩,
  λa o q=>(I.hok a o q).stay (λb u hb r=>keep b u r ?_) (λ_ z=>z) (λ_ _ z=>z) λ_ _ _ z=>z,?_,hE⟩
 .obtain⟨sl,q'⟩:=un.slot b o q n hb (λz=>nomatch z);obtain⟨sl',q2⟩:=slot b hb _ q';exact⟨sl',q2⟩
 .obtain⟨o',q'⟩:=un.there b o q (λz=>nomatch z);by_cases hb:b∈frs outer
  .obtain⟨sl,q2⟩:=slot b hb _ q';exact⟨_,q2⟩
  .exact⟨_,keep b o' q' (nold b o q hb)⟩
 .rcases hb with rfl|hb
  .exact ntrk _ _ q
  .exact ntrk _ _ hb
 .obtain⟨oe,vs,T,oT,ts,he,⟨hc,h0⟩,hd,h1,hnT,hTe,hT,hdT,h3⟩:=k3;refine⟨λb ⟨o,q⟩=>F.new b (.inl ⟨o,q,λz=>nomatch z⟩),F.free,oe,vs,a0,he,hc,hd,h0,.inr ⟨T,oT,ts,h1,hTe,hT,hdT,h3,?_,λb ⟨o,q⟩ z=>?_⟩⟩
  .cases r:H' T with
   |none=>rfl
   |some u =>obtain⟨ob,q⟩:=(I.hok T u r).get;rw[W.hideAll_get _ q (ntrk T u r)]at hnT;cases hnT
  .subst z;obtain⟨o',q'⟩:=un.there b o q (λz=>nomatch z);by_cases hb:b∈frs outer
   .obtain⟨o2,q2,nf⟩:=fr b hb;obtain⟨sl,q3⟩:=slot b hb o2 q2;rw[q3]at hT;cases hT;exact nf ts hdT
   .rw[W.hideAll_get _ q' (nold b o q hb)]at hnT;cases hnT
theorem j5d(I:Inv (zu (CX1 P w) P w K mg base N qual scope f cd A outer s H E) pins σ H' s')(F:Fl (Old (zu (CX1 P w) P w K mg base N qual scope f cd A outer s H E) pins) H' s'.heap e C)(hE:E C a6 H') :
  (zu (CX1 P w) P w K mg base N qual scope f cd A outer s H E).xe (.ref e) s':=by
 obtain⟨oe,vs,a0,he,hc,hd,h0,hT⟩:=F.obj;have hsN:∀b,(∃o,s.heap.get? b=a3 o)->Old (zu (CX1 P w) P w K mg base N qual scope f cd A outer s H E) pins b:=λb ⟨o,q⟩=>.inl ⟨o,q,λz=>nomatch z⟩;have hin:∀(as:List aa),(∀b∈frs (bo qual scope s.heap.objs.size f cd::outer),b∈as)->∀env∈bo qual scope s.heap.objs.size f cd::outer,∀a,env.frame=a3 a->a∈as:=λas h env he a ha=>h a (t6.mpr ⟨env,he,ha⟩);subst hc;rcases hT with h1|⟨T,oT,ts,h1,hTe,hT,hdT,h3,hTf,hTn⟩
 .let as:=e::frs (bo qual scope s.heap.objs.size f cd::outer)
  have hfa:∀b∈frs (bo qual scope s.heap.objs.size f cd::outer),b∈as:=λb hb=>km _ hb;refine wpAny_leaving_firstW (base:=W.hideAll s'.heap as) I.ok.frames (W.funFrames_hide I.stack (hin as hfa)) rfl he (λb o q=>W.of_hideAll _ q) (Tt _ (xm ..)) hd h1 h0 λh' hL =>j1n I F hE (λb=>⟨λz=>?_,λz=>z.elim (hfa b) λz=>z.2.2⟩) hfa hL
  rcases xn.mp z with e1|z'
  .subst e1;exact .inr ⟨λq=>F.new _ (hsN _ q) rfl,F.free,z⟩
  .exact .inl z'
 .let as:=e::T::frs (bo qual scope s.heap.objs.size f cd::outer)
  have hfa:∀b∈frs (bo qual scope s.heap.objs.size f cd::outer),b∈as:=λb hb=>km _ (km _ hb);refine wpAny_leaving_nextW (base:=W.hideAll s'.heap as) (a0:=a0) I.ok.frames (W.funFrames_hide I.stack (hin as hfa)) rfl ⟨oe,vs,T,oT,ts,he,⟨rfl,h0⟩,hd,h1,Tt _ (km _ (xm ..)),hTe,hT,hdT,h3⟩
   (λb o q=>W.of_hideAll _ q) (Tt _ (xm ..)) λh' hL =>
   j1n I F hE (λb=>⟨λz=>?_,λz=>z.elim (hfa b) λz=>z.2.2⟩) hfa hL
  rcases xn.mp z with e1|z'
  .subst e1;exact .inr ⟨λq=>F.new _ (hsN _ q) rfl,F.free,z⟩
  .rcases xn.mp z' with e1|z2
   .subst e1;exact .inr ⟨λq=>hTn _ (hsN _ q) rfl,hTf,z⟩
   .exact .inl z2
end
def spX(K:k90)(mg:k93)(S:List D->af->Prop):Sp:=λvs H _ E=>∃ds x C,TabOk K H/\j5 K H ds vs/\S ds x/\mg x=a3 C/\∀H',j0 H H'->E C a6 H'
section
variable{P:au}{w:aA}{K:k90}{mg:k93}{base:aD}{x qual:af}{st:aS}{f:aa}{fd:aN}{N ps:List af}{k:Nat}
theorem j5o{S:List D->af->Prop}(F:Fun K x qual st f fd)(Sc:FnScope N ps (j9 st))(hl:∀ds y,S ds y->ds.length=ps.length)
  (hbody:∀(cdv:a9)(A:aB)(outer:List dj)(s:ae)(H:Hp)(E:XK),Rg K f cdv->Room k (A.deeper (bo qual (j9 st) s.heap.objs.size f cdv))->∀ds y,S ds y ->
   DSs (zu (CX1 P w) P w K mg base N qual (j9 st) f cdv A outer s H E) (qz N ds) (jy st) { nx:=λ_=>False,rt:=λ_=>False,ex:=λz _=>z=y }):FnOk P w K mg base (CX1 P w) (k+1) f fd ps (spX K mg S):=by
 obtain⟨oc,od,dV,kV,doc,pm,an,cdv,ct,osl,rfl,lk,hcd⟩:=F.ex;refine j9p lk hcd Sc (λvs H Q E ⟨ds,y,C,tb,en,hS,_⟩=>by rw[en.length];exact hl ds y hS) λA outer s H vs Q E hr ⟨ds,y,C,tb,en,hS,hC,hE⟩=>⟨_,Qn,?_⟩
 have ho:=V1 N ds;refine hbody cdv A outer s H E ⟨oc,od,_,osl,lk,rfl⟩ hr ds y hS (start N vs) H _ (Yo tb en) ⟨λρ' σ' H' n R f=>n.elim,λ_ _ _ z=>z.elim,λ_ _ _ z=>z.elim,λr v H' n z=>n.elim,λz ρ' σ' H' n R g=>?_⟩;cases(show z=y from n);intro pins H2 s' e C' I g2 hC' Fe;cases hC.symm.trans hC';unfold Fr0 at g;rw[ho,vz]at g;exact j5d I Fe (hE H2 ((g.trans jq).trans g2))
end
def DX(X:Cx)(ρ:Rho)(e:ai)(x:af):Prop:=∀σ H Q,Rep X.K ρ σ H->Dp X σ H x->Jo X e σ H Q
def DXA(X:Cx)(ρ:Rho)(es:List ai)(x:af):Prop:=∀σ H Q,Rep X.K ρ σ H->Dp X σ H x->Mx X es σ H Q
structure CalX(X:Cx)(x:af)(sp:Sp):Prop where
 ex:∃(k:Nat)(f:aa)(fd:aN)(ps:List af),FnOk X.prog X.w X.K X.mg X.base (CX1 X.prog X.w) k f fd ps sp/\Room k X.A/\X.mg x=a3 (.ref f)/\W.keepIn X.K (.ref f)=a5/\Binds X.K fd ps []
section
variable{X:Cx}{ρ:Rho}{e:ai}{es:List ai}{f x:af}{ds:List D}{p pos:aJ}{C:a9}
theorem DX.call {S:List D->af->Prop} (c:CalX X f (spX X.K X.mg S)) (ha:DTA X ρ (e::es) ds) (hS:S ds x) (hC:X.mg x=a3 C) (hg:Gl X f) (hdb:(f==k94)=a4)
  (he:a7 (e::es) X.env=(a4,ay e X.env)::a7 es X.env) (hpl:(aK pos (a7 es X.env)).any (·.1)=a4):DX X ρ (.Call (.Name f p) (e::es) [] pos) x:=λσ H Q R k pins s I=>by
 obtain⟨n,fa,fd,ps,F,hr,hm,hk,hb⟩:=c.ex;refine aM (Z4 I hg hm ?_ hdb);refine W.callWith_K (h₀:=X.base) I.ok.mod.kin hk (thn (ha σ H (λvs H1=>j0 H H1/\j5 X.K H1 ds vs) R (λvs H1 g e=>⟨g,e⟩) pos pins s I) λus s1 ⟨vs,H1,I1,r,g,en⟩=>⟨I1.kIn,?_⟩) he hpl;have sp:spX X.K X.mg S vs H1 (λ_ _=>False) (λC' _ H'=>C'=C/\j0 H1 H'):=⟨ds,x,C,R.tb.mono g,en,hS,hC,λH' g=>⟨rfl,g⟩⟩
 have hl:us.length=ps.length:=by rw[<-r.length];exact F.len _ _ _ _ sp
 have hb':=hb s1 us I1.kIn (by rw[Xv];exact hl);rw[Xv]at hb';refine fE (bD (F.run X.A X.stack s1 H1 ⟨us,[]⟩ us vs _ _ hr I1.env0 hb' r sp) λr s' hq=>?_);cases r with
 |error ev =>obtain⟨e,C',H',rfl,os,bare,un,hok,fl,rfl,g'⟩:=hq;have I':Inv X pins σ H' s':=I1.call' os un hok bare (λb z=>nomatch z);refine k pins H' s' e C' I' (g.trans g') hC ⟨λb hb=>fl.new b (I1.old hb),fl.free,?_⟩;obtain⟨oe,ws,a0,q1,q2,q3,q4,q5⟩:=fl.obj;refine⟨oe,ws,a0,q1,q2,q3,q4,q5.imp id ?_⟩;rintro⟨T,oT,ts,z1,z2,z3,z4,z5,z6,z7⟩;exact⟨T,oT,ts,z1,z2,z3,z4,z5,z6,λb hb=>z7 b (I1.old hb)⟩
 |ok fl =>
  cases fl with
  |ret u=>obtain⟨_,_,_,_,_,_,_,z⟩:=hq;exact z.elim
  |next=>exact aY hq
  |brk=>exact aY hq
  |cont=>exact aY hq
end
section
variable{X:Cx}{ρ:Rho}{e:ai}{es:List ai}{x:af}{d:D}{p pos np cpos:aJ}{P:Po}{i:Int}{y:af}{ys:List af}
theorem DE.fmtI(ha:DT X ρ e (.int i))(hi:i.natAbs.log2<1920):DE X ρ (.FormattedValue e (-1) a6 pos) (.str (toString i)):=λσ H Q R q pins s I=>by
 refine jW (thn (ha σ H (λv H1=>v=.int i/\j0 H H1) R (λv H1 g e=>⟨e,g⟩) pins s I) λu s1 ⟨v,H1,I1,r,ev,g⟩=>?_);subst ev;obtain⟨t,rfl⟩:=(show ∃t,u=b8 i t from r)
 exact formatField_int_small hi ⟨.str (toString i),H1,I1.un (t':=s1.toks+1+1) Un.refl I1.hok,⟨_,rfl⟩,q _ H1 g rfl⟩
theorem DE.fmtS(ha:DT X ρ e (.str y))(hy:y.length<=aj):DE X ρ (.FormattedValue e (-1) a6 pos) (.str y):=λσ H Q R q pins s I=>by
 refine jW (thn (ha σ H (λv H1=>v=.str y/\j0 H H1) R (λv H1 g e=>⟨e,g⟩) pins s I) λu s1 ⟨v,H1,I1,r,ev,g⟩=>?_);subst ev;obtain⟨t,rfl⟩:=(show ∃t,u=bg y t from r)
 exact formatField_str (λt' tk=>⟨.str y,H1,I1.un (t':=tk) Un.refl I1.hok,⟨_,rfl⟩,q _ H1 g rfl⟩) hy
noncomputable def Bl(out:af):List af->af
 |[]=>out
 |y::ys=>Bl (out++y) ys
def DPs(X:Cx)(ρ:Rho):List ai->List af->Prop
 |[],[]=>True
 |e::es,y::ys=>DE X ρ e (.str y)/\DPs X ρ es ys
 |_,_=>False
theorem j00:∀{es:List ai}{ys:List af}{out:af}{n:Nat}{pins:k92} {σ:St} {H0 H:Hp} {s:ae} {Q:VK},DPs X ρ es ys->(∀y∈ys,y.length<=2000)->out.length+2000*ys.length<=aj->Inv X pins σ H s->Rep X.K ρ σ H->j0 H0 H ->
  (∀H',j0 H0 H'->Q (.str (Bl out ys)) H')->ao (ax X.prog X.w) X.A (joinParts out (evalEach es X.env)) (EP X pins σ Q) X.xe s
 |[],[],out,n,pins,σ,H0,H,s,Q,_,_,hl,I,R,g,q=>joinParts_nil ⟨.str out,H,I.un (t':=s.toks+1) Un.refl I.hok,⟨_,rfl⟩,q H g⟩ (by have:=hl;omega)
 |e::es,y::ys,out,n,pins,σ,H0,H,s,Q,hp,hy,hl,I,R,g,q=>by
  have hy0:=hy y (xm ..);rw[xq]at hl;refine joinParts_cons (thn (hp.1 σ H (λv H1=>v=.str y/\j0 H H1) R (λv H1 g e=>⟨e,g⟩) pins s I) λu s1 ⟨v,H1,I1,r,ev,g1⟩=>?_);subst ev;obtain⟨t,rfl⟩:=(show ∃t,u=bg y t from r)
  have hz:(out++y).length<=out.length+2000:=by rw[strLen_append];omega
  exact⟨by omega,j00 (n:=n) hp.2 (λz hz=>hy z (km _ hz)) nofun I1 (R.grow g1) (g.trans g1) q⟩
 |[],_::_,_,_,_,_,_,_,_,_,h,_,_,_,_,_,_=>h.elim
 |_::_,[],_,_,_,_,_,_,_,_,h,_,_,_,_,_,_=>h.elim
theorem DE.joined{a b:ai}(h:DPs X ρ (a::b::es) ys)(hy:∀y∈ys,y.length<=2000)(hl:ys.length<=1000):DE X ρ (.JoinedStr (a::b::es) pos) (.str (Bl fA ys)):=λσ H Q R q pins s I =>
 JoinedStr_many (j00 (n:=0) (out:=fA) h hy (by
  have e:Str.empty.length=0:=rfl
  rw[e,dw];omega) I R (j0.refl H) λH' g=>q _ H' g rfl)
theorem jbx{Q:VK}{σ:St}{H:Hp}(he:Jo X e σ H Q)(hs:a7 [e] X.env=[(a4,ay e X.env)]):Mx X [e] σ H (λvs H'=>∃v,vs=[v]/\Q v H') :=
 (jb (es:=[]) peS jo hs).to λpins s I=>thn (he pins s I) λu s' ⟨v,H',I',r,q⟩=>⟨v,H',I',r,⟨v,rfl,q⟩⟩
theorem DS.raise{C:aa}{bm bmN:List a9}{newId B Bn nid initId inN:String}(O:OwnCls x C bm newId X.mg X.base)(Fn:ExcBaseFacts Bn newId inN bmN)(hBn:bm.contains (.type Bn)=a5)(FB:ExcBaseFacts B nid initId bm)(hc:X.calm=a5)
  (ha:∀σ H,Rep X.K ρ σ H->Jo X e σ H λ_ H'=>j0 H H') (hP:P.ex x ρ) (hg:Gl X x) (hdb:(x==k94)=a4) (he:a7 [e] X.env=[(a4,ay e X.env)])
  : DS X ρ (.Raise (a3 (.Call (.Name x np) [e] [] cpos)) a6 pos) P:=λσ H E R q pins s I=>by
 obtain⟨tl,N,nm,qn,bs,hdct,sn,sub,ab,col,dd,k0,k1,k2,k3,k5,mN,hC,hN,hni,T⟩:=O.obj;refine wpAny_Raise_call_subU (C:=C) (nm:=nm) (q:=qn) (N:=N) (bs:=bs) (bm:=tl) (hdct:=hdct) (sn:=sn) (sub:=sub) (ab:=ab) (col:=col) (dd:=dd) (k0:=k0) (k1:=k1) (k2:=k2) (k3:=k3) (k5:=k5)
  Fn hBn FB (mN:=mN) (T.hasType FB.hasBase) (I.ok.hd hc) (by rw[he];rfl) hni (Z4 I hg O.bound ⟨rfl,?_⟩ hdb)
 have hsp:=jbx (ha σ H R) he cpos pins s I;rw[he]at hsp ⊢;refine gZ (thn hsp λus s2 ⟨vs,H1,I1,r,v,ev,g⟩=>⟨rfl,?_,I1.bk _ _ hC,hN.keeps I1.bk,T.keeps I1.bk,λh' e' hm=>?_⟩)
 .show us.length<=aj;rw[<-r.length,ev];show 1<=aj;rw[dw];omega
 .have nold:∀b,(∃o,s2.heap.get? b=a3 o)->b≠e':=λb ⟨o,q⟩ z=>by rw[z,hm.new]at q;cases q
  obtain⟨t,ht,_,_⟩:=hm.there;refine q.ex x ρ σ H hP R (Fr0.refl _ _) pins H1 { s2 with heap:=h' } e' (.ref C) (I1.un (t':=s2.toks) (Un.kept hm.keeps) (I1.hok.kept hm.keeps)) g O.bound ⟨λb hb=>nold b (I1.old hb),?_,_,_,_,ht,rfl,rfl,rfl,.inl rfl⟩;cases z:H1 e' with
  |none=>rfl
  |some u=>exact absurd rfl (nold e' (I1.hok e' u z).get)
end
structure FlT(N:aa->Prop)(H:Hp)(h:aD)(e:aa)(C fl:a9):Prop where
 new:∀b,N b->b≠e
 free:H e=a6
 obj:∃(oe:cC)(vs:Array a9)(a0:a9)(T:aa)(oT:cC)(ts:Array a9),h.get? e=a3 oe/\oe.cls=C/\oe.data=.fields vs/\vs[0]?=a3 a0/\vs[1]?=a3 (.ref T)/\T≠e/\h.get? T=a3 oT/\oT.data=.fields ts/\ts[3]?=a3 fl /\
  H T=a6/\∀b,N b->b≠T
section
variable{X:Cx}{pins:k92}{σ:St}{H:Hp}{s:ae}{e:aa}{C fl:a9}{M:iP}{A:aB}{E:k91}
theorem Inv.noted{as:List aa}{h':aD}(I:Inv X pins σ H s)(ha:∀b∈as,b∈frs X.stack\/(H b=a6/\∀c,Old X pins c->c≠b))
  (keep:∀b o,s.heap.get? b=a3 o->b∉as->h'.get? b=a3 o) (slot:∀b o,s.heap.get? b=a3 o->(∀vs,o.data≠.fields vs)->∃sl,h'.get? b=a3 { o with slots:=sl }):Inv X pins σ H { s with heap:=h' }:=by
 have sf:=I.stkFree;have ntrk:∀b u,H b=a3 u->b∉as:=λb u q z=>by
  rcases ha b z with z|⟨z,_⟩
  .rw[sf b z]at q;cases q
  .rw[z]at q;cases q
 have nold:∀b,Old X pins b->b∉frs X.stack->b∉as:=λb ho nf z=>(ha b z).elim nf λq=>q.2 b ho rfl;have nst:∀b o,X.s₀.heap.get? b=a3 o->b∉X.fs->b∉frs X.stack:=λb o q n z=>by
  rcases xn.mp (I.stkSub b z)with z|z
  .have:=X4 q;rw[z]at this;exact absurd (Xc this I.ok.above) (pq _)
  .exact n z
 have nf:∀b∈frs X.stack,∀o,s.heap.get? b=a3 o->∀vs,o.data≠.fields vs:=λb hb o q=>by obtain⟨o',ho,hd⟩:=(I.stack.mem hb).2;rw[q]at ho;cases ho;exact hd
 have nff:∀b∈X.fs,∀o,s.heap.get? b=a3 o->∀vs,o.data≠.fields vs:=λb hb o q=>by obtain⟨o',ho,hd⟩:=(I.funs.mem hb).2;rw[q]at ho;cases ho;exact hd
 have cel:∀{c:aa}{v:Option a9},s.heap.IsCell c v->h'.IsCell c v:=λ{c v} ⟨o,q,hd⟩=>by
  obtain⟨sl,q'⟩:=slot c o q λvs z=>by rw[hd]at z;cases z
  exact⟨_,q',hd⟩
 obtain⟨m,hn,hl⟩:=id I.loc;have up:s.heap.UpToSlots h':=slot;refine⟨I.ok,I.os,I.bare,⟨λb o e n hb hx=>keep b o (I.base.keep b o e n hb hx) (nold b (.inl ⟨o,e,hx⟩) (nst b o e hb)),λb o e n hb hx=>?_,I.base.free,λb o e hx=>?_,I.base.tups,I.base.frzs,I.base.tbls⟩,
  ⟨m,up.ns hn,λi x v h1 h2 h3=>?_⟩,λx c e=>?_,I.free,I.freeC,λp hp=>?_,λa o q=>(I.hok a o q).stay (λb u hb r=>keep b u r ?_) (λ_ z=>z) (λ_ _ z=>z) λ_ _ _ z=>z,I.len⟩
 .obtain⟨sl,e1⟩:=I.base.slot b o e n hb hx;obtain⟨sl',e2⟩:=slot b _ e1 (nff b hb _ e1);exact⟨sl',e2⟩
 .obtain⟨o',e1⟩:=I.base.there b o e hx;by_cases hb:b∈frs X.stack
  .obtain⟨sl,e2⟩:=slot b o' e1 (nf b hb o' e1);exact⟨_,e2⟩
  .exact⟨o',keep b o' e1 (nold b (.inl ⟨o,e,hx⟩) hb)⟩
 .obtain⟨u,r,q⟩:=hl i x v h1 h2 h3;exact⟨u,r,q.imp id λ⟨k,c,e,z⟩=>⟨k,c,e,cel z⟩⟩
 .obtain⟨v,z⟩:=I.cell x c e;exact⟨v,cel z⟩
 .obtain⟨q,n,nl,nfs,d⟩:=I.pin p hp;refine⟨keep p.1 p.2 q (nold p.1 (.inr (.inl ⟨p,hp,rfl⟩)) λz=>?_),n,nl,nfs,d⟩;rcases xn.mp (I.stkSub p.1 z)with z|z
  .exact nl z
  .exact nfs z
 .rcases hb with rfl|hb
  .exact ntrk _ _ q
  .exact ntrk _ _ hb
theorem O4{as:List aa}{h':aD}{a0:a9}(I:Inv X pins σ H s)(hn:∀b,Old X pins b->b≠e)(hf:H e=a6)(ha:∀b∈as,b∈frs X.stack\/(H b=a6/\∀c,Old X pins c->c≠b))(hfa:∀b∈frs X.stack,b∈as)
  (k1:(W.hideAll s.heap as).StaysIn h') (k3:h'.TracedAtW (W.hideAll s.heap as) e C a0 fl) (k4:∀b o,s.heap.get? b=a3 o->(∀vs,o.data≠.fields vs)->∃sl,h'.get? b=a3 { o with slots:=sl }) :
  Inv X pins σ H { s with heap:=h' }/\FlT (Old X pins) H h' e C fl:=by
 have keep:∀b o,s.heap.get? b=a3 o->b∉as->h'.get? b=a3 o:=λb o q n=>k1 b o (W.hideAll_get _ q n);refine⟨I.noted ha keep k4,hn,hf,?_⟩;obtain⟨oe,vs,T,oT,ts,he,⟨hc,h0⟩,hd,h1,hnT,hTe,hT,hdT,h3⟩:=k3;refine⟨oe,vs,a0,T,oT,ts,he,hc,hd,h0,h1,hTe,hT,hdT,h3,?_,λb hb z=>?_⟩
 .cases r:H T with
  |none=>rfl
  |some u =>
   obtain⟨ob,q⟩:=(I.hok T u r).get;have:T∉as:=λz=>by
    rcases ha T z with z|⟨z,_⟩
    .rw[I.stkFree T z]at r;cases r
    .rw[z]at r;cases r
   rw[W.hideAll_get _ q this]at hnT;cases hnT
 .subst z;obtain⟨o,q⟩:=I.old hb;by_cases hs:b∈as
  .rcases ha b hs with hs|⟨_,z⟩
   .obtain⟨o',ho,nf⟩:=(I.stack.mem hs).2;obtain⟨sl,q3⟩:=k4 b o' ho nf;rw[q3]at hT;cases hT;exact nf ts hdT
   .exact z b hb rfl
  .rw[W.hideAll_get _ q hs]at hnT;cases hnT
theorem Dc(I:Inv X pins σ H s){as:List aa}(hfa:∀b∈frs X.stack,b∈as):s.heap.FunFrames (W.hideAll s.heap as) X.stack :=
 W.funFrames_hide I.stack λenv he a ha=>hfa a (t6.mpr ⟨env,he,ha⟩)
theorem jb9{Q:Unit->ae->Prop}(I:Inv X pins σ H s)(hst:X.stack=X.env::X.outer)(hfm:X.env.frame=a3 X.env.locals)(F:Fl (Old X pins) H s.heap e C)
  (h:∀h',Inv X pins σ H { s with heap:=h' }->FlT (Old X pins) H h' e C (dh X.env.locals)->Q () { s with heap:=h' }):ao (ax X.prog X.w) X.A (gd (.ref e) X.env) Q E s:=by
 obtain⟨oe,vs,a0,he,hc,hd,h0,hT⟩:=F.obj;subst hc;have hfr:X.A.frames=a3 (X.env::X.outer):=by rw[<-hst];exact I.ok.frames
 rcases hT with h1|⟨T,oT,ts,h1,hTe,hT,hdT,h3,hTf,hTn⟩
 .have hfa:∀b∈frs X.stack,b∈e::frs X.stack:=λb hb=>km _ hb;have hl:=Dc I hfa;rw[hst]at hl;unfold gd;simp only[hfm];refine a8 (bV he hd h1 ?_);rw[if_neg (by decide)];refine wpAny_entryW (base:=W.hideAll s.heap (e::frs X.stack)) hfr (by rw[<-hst]at hl ⊢;exact hl) hfm he (λb o q=>W.of_hideAll _ q) (Tt _ (xm ..)) hd (Array.getElem?_eq_some_iff.mp h1).1 h0 λh' ⟨k1,_,k3,k4⟩=>?_;obtain⟨I',F'⟩:=O4 (as:=e::frs X.stack) I F.new F.free (λb hb=>(xn.mp hb).elim (λz=>.inr ⟨z▸F.free,λc hc=>z▸F.new c hc⟩) .inl) hfa k1 k3 k4;exact h h' I' F'
 .have hfa:∀b∈frs X.stack,b∈e::T::frs X.stack:=λb hb=>km _ (km _ hb);have hl:=Dc I hfa;refine wpAny_noteFrame_onW (base:=W.hideAll s.heap (e::T::frs X.stack)) (a0:=a0) hfr (by rw[<-hst];exact hl) hfm ⟨oe,vs,T,oT,ts,he,⟨rfl,h0⟩,hd,h1,Tt _ (km _ (xm ..)),hTe,hT,hdT,h3⟩
   (λb o q=>W.of_hideAll _ q) (Tt _ (xm ..)) λh' ⟨k1,_,k3,k4⟩=>?_
  obtain⟨I',F'⟩:=O4 (as:=e::T::frs X.stack) I F.new F.free (λb hb=>(xn.mp hb).elim (λz=>.inr ⟨z▸F.free,λc hc=>z▸F.new c hc⟩) λhb=>(xn.mp hb).elim (λz=>.inr ⟨z▸hTf,λc hc=>z▸hTn c hc⟩) .inl) hfa k1 k3 k4;exact h h' I' F'
theorem j1w{Q:Unit->ae->Prop}(I:Inv X pins σ H s)(F:FlT (Old X pins) H s.heap e C fl)
  (h:∀h',Inv X pins σ H { s with heap:=h' }->FlT (Old X pins) H h' e C .none->Q () { s with heap:=h' }):ao M A (l5 (.ref e) a6) Q E s:=by
 obtain⟨oe,vs,a0,T,oT,ts,he,hc,hd,h0,h1,hTe,hT,hdT,h3,hTf,hTn⟩:=F.obj;subst hc;have hfa:∀b∈frs X.stack,b∈e::T::frs X.stack:=λb hb=>km _ (km _ hb);refine wpAny_setFlight_noneW (base:=W.hideAll s.heap (e::T::frs X.stack)) (a0:=a0) (fl:=fl) (l:=X.stack) (λb o q=>W.of_hideAll _ q) (Dc I hfa)
  ⟨oe,vs,T,oT,ts,he,⟨rfl,h0⟩,hd,h1,Tt _ (km _ (xm ..)),hTe,hT,hdT,h3⟩ λh' k1 _ k3 k4=>?_
 obtain⟨I',F'⟩:=O4 (as:=e::T::frs X.stack) I F.new F.free (λb hb=>(xn.mp hb).elim (λz=>.inr ⟨z▸F.free,λc hc=>z▸F.new c hc⟩) λhb=>(xn.mp hb).elim (λz=>.inr ⟨z▸hTf,λc hc=>z▸hTn c hc⟩) .inl) hfa k1 k3
  (λb o q nf=>⟨o.slots,k4 b o q nf⟩)
 exact h h' I' F'
theorem Inv.track{oe:cC}(I:Inv X pins σ H s)(he:s.heap.get? e=a3 oe)(hn:∀b,Old X pins b->b≠e)(hf:H e=a6):Inv X pins σ (upd H e (.frz oe (.own e))) s:=by
 have ne:∀{b:aa}{u:HO},H b=a3 u->b≠e:=λ{b u} q z=>by rw[z,hf]at q;cases q
 refine⟨I.ok,I.os,I.bare,⟨I.base.keep,I.base.slot,λb o q n hx=>?_,I.base.there,λb xs q=>?_,λb o u q=>?_,λb ps q=>?_⟩,I.loc,I.cell,?_,λx c q=>?_,λp hp=>?_,λa o q=>?_,I.len⟩
 .rw[je (hn b (.inl ⟨o,q,hx⟩))];exact I.base.free b o q n hx
 .have z:=I.base.tups b xs q;rw[je (ne z)];exact z
 .have z:=I.base.frzs b o u q;rw[je (ne z)];exact z
 .obtain⟨m,z⟩:=I.base.tbls b ps q;exact⟨m,by rw[je (ne z)];exact z⟩
 .rw[je (hn _ (.inr (.inr (.inl rfl))))];exact I.free
 .rw[je (hn _ (.inr (.inr (.inr ⟨x,q⟩))))];exact I.freeC x c q
 .obtain⟨q,n,r⟩:=I.pin p hp;exact⟨q,by rw[je (hn _ (.inr (.inl ⟨p,hp,rfl⟩)))];exact n,r⟩
 .by_cases z:a=e
  .subst z;rw[jc]at q;cases q;exact⟨he,oe,he⟩
  .rw[je z]at q;exact(I.hok a o q).stay (λ_ _ _ r=>r) (λb r=>by rw[je (ne r)];exact r) (λb xs r=>by rw[je (ne r)];exact r) λb _ _ r=>by rw[je (ne r)];exact r
theorem jbt{j:Nat}{n:af}{pos:aJ}{Q:Unit->ae->Prop}(I:Inv X pins σ H s)(hN:X.N.Nodup)(hj:X.N[j]?=a3 n)(hk:X.env.kindOf n=a3 .local)
  (h:∀s',Inv X pins (σ.set j a6) H s'->Q () s'):ao M A (do bindName X.env n .none;unbindBehindTheSuite X.env n pos) Q E s:=by
 obtain⟨m,hn,hl⟩:=id I.loc;have hcls:(X.env.scope.kind==.class || (X.env.scope.kind==.module&&X.env.locals != X.env.globals))=a4:=by rw[I.ok.kind];rfl
 refine wpAny_nameGoes_keeps hk hn hcls λh' v hn' hs=>h _ ?_;have cne:=I.cne;refine⟨I.ok,I.os,I.bare,⟨λb o e n hb hx=>?_,λb o e n hb hx=>?_,I.base.free,λb o e hx=>?_,I.base.tups,I.base.frzs,I.base.tbls⟩,⟨_,hn',λi y v' e1 e2 e3=>?_⟩,λy c e=>?_,I.free,I.freeC,λp hp=>?_,λb ob e=>?_,by simpa using I.len⟩
 .exact(hs.2 b (Xb (Xc (X4 e) I.ok.above))).trans (I.base.keep b o e n hb hx)
 .obtain⟨sl,e1⟩:=I.base.slot b o e n hb hx;exact⟨sl,(hs.2 b (Xb (Xc (X4 e) I.ok.above))).trans e1⟩
 .obtain⟨o',e1⟩:=I.base.there b o e hx;exact⟨o',(hs.2 b (Xb (Xc (X4 e) I.ok.above))).trans e1⟩
 .by_cases hij:i=j
  .subst hij;rcases getElem?_set_of e2 with ⟨_,z,_⟩|⟨z,_⟩
   .cases z
   .exact absurd rfl z
  .rw[dP (bJ hij)]at e2;obtain⟨u',r',q⟩:=hl i y v' e1 e2 e3;refine⟨u',r',?_⟩;rcases q with ⟨k,e⟩|⟨k,c,e,z⟩
   .refine .inl ⟨k,?_⟩;have:y≠n:=λe=>hij (O5 hN e1 (e▸hj));simp[this,e]
   .exact .inr ⟨k,c,e,z.sameBut hs (cne y c e)⟩
 .obtain⟨w',z⟩:=I.cell y c e;exact⟨w',z.sameBut hs (cne y c e)⟩
 .obtain⟨e,n,ne,nf,d⟩:=I.pin p hp;exact⟨(hs.2 p.1 ne).trans e,n,ne,nf,d⟩
 .refine(I.hok b ob e).stay (λc w' hc q=>(hs.2 c ?_).trans q) (λ_ q=>q) (λ_ _ q=>q) λ_ _ _ q=>q;rintro rfl;rcases hc with rfl|hc
  .rw[I.free]at e;cases e
  .rw[I.free]at hc;cases hc
end
end L2
end
section
namespace PySem.W
open PySem PySem.Spec PySem.Calls PyProof.Rows Builtin Builtin.ObjectAttr Builtin.Getset_descriptor
section
variable{prog:au}{w:aA}{A:aB}{E:k91}{h:aD}{g:Array eY}{d:Drawn}{t:Nat}{os:OsState}{K:lS}{e C:aa}
theorem j5p {R:eV->ae->Prop} {tp:a9} (X:K.In h) (LT:Looks (ax prog w) h (lW (.ref e)) (.ref C)) (hm:mroIn K C (.type "object")=a3 a5)
  (hq:R (.ok (.ret (.ref C))) ⟨h,g,d,t,os⟩):cg (ax prog w) A (.call (.builtin "getset_descriptor.__get__") ⟨[.builtin "object.__class__",.ref e,tp],[]⟩) R ⟨h,g,d,t,os⟩:=by
 have L1:=looks_mroIn (M:=ax prog w) X hm;refine jQ KF.slot_gs.plain KF.entry_gs (KF.slot_gs.check _ _ _ _ _ _ _ _ KF.type_class (KF.args_gs _ _ _) ?_);unfold cK.«getset_descriptor.__get__» descrGet;rw[dga_obj];refine a8 (ah ?_);unfold descrGetter descrCheckInstance descrNameAndClass isInstance;simp only[KF.owner_class]
 repeat lk
 refine⟨Code.quiet_builtin _ (by decide +kernel),bI KF.entry_class ?_⟩;unfold cK.«object.__class__» shownTypeOf
 repeat lk
 exact hq
theorem j16 {tk:gH} {o:cC} {Q:Fin->ae->Prop} (X:K.In h) (hx:h.get? e=a3 o) (hc:o.cls=.ref C) (ha:gL K (.ref C) "__class__" = a3 (a3 (.builtin "object.__class__"))) (hm:mroIn K C (.type "object")=a3 a5)
  (hq:Q (.done (.ret (.ref C))) ⟨h,g,d,t,os⟩):ao (ax prog w) A (cK.«object.__getattribute__» ⟨[.ref e,.str "__class__" tk],[]⟩) Q E ⟨h,g,d,t,os⟩:=by
 have hT5:(⟨h,g,d,t,os⟩:ae).TypeIs (.builtin "object.__class__") "getset_descriptor":=iH;have f5:=iH;have f6:=F.slot_gs_get.lookup;have f7:=F.slot_gs_set.lookup;have L1:=iW (M:=ax prog w) X ha;have LT:Looks (ax prog w) h (lW (.ref e)) (.ref C):=hc▸(Looks.ld hx).andThen .now
 repeat (any_goals (first|assumption|(with_reducible refine fP hx ?_;rw[hc])|with_reducible refine L1.at ?_|wp_step))
 refine j5p X LT hm ?_
 repeat (any_goals (first|assumption|wp_step))
theorem j8n {M:iP} {nameV:a9} {o:cC} {Q:Unit->ae->Prop} (X:K.In h) (hx:h.get? e=a3 o) (hc:o.cls=.ref C) (hs:subIn K (.ref C) (.type "BaseException")=a3 a5) (hq:Q () ⟨h,g,d,t,os⟩) :
  ao M A (gh "BaseException.__getattribute__" ⟨[.ref e,nameV],[]⟩) Q E ⟨h,g,d,t,os⟩:=by
 have hk:builtinKind "BaseException.__getattribute__" = a3 .slot:=by decide +kernel
 have hsplit:splitId "BaseException.__getattribute__" = a3 ("BaseException","__getattribute__"):=by decide +kernel
 have L2:=looks_subIn (M:=M) X hs;have ha:=F.args_bexc_ga (.ref e) nameV;simp only[gh,hk,hsplit];refine a8 ?_
 .unfold isInstance
  repeat (first|(with_reducible refine fP hx ?_;rw[hc])|with_reducible refine L2.at ?_|wp_step)
  exact hq
theorem j8c {tk:gH} {o:cC} {fill expr:Bool} {Q:k91} (X:K.In h) (hx:h.get? e=a3 o) (hc:o.cls=.ref C) (hga:gL K (.ref C) "__getattribute__" = a3 (a3 (.builtin "BaseException.__getattribute__")))
  (hgt:gL K (.ref C) "__getattr__" = a3 a6) (hs:subIn K (.ref C) (.type "BaseException")=a3 a5) (ha:gL K (.ref C) "__class__" = a3 (a3 (.builtin "object.__class__"))) (hm:mroIn K C (.type "object")=a3 a5) (hpl:Slot "ValueError" "__getattribute__" "BaseException.__getattribute__")
  (hq:Q (.ref C) ⟨h,g,d,t,os⟩):ao (ax prog w) A (getAttrBy (.ref e) (.str "__class__" tk) fill expr) Q E ⟨h,g,d,t,os⟩:=by
 have f3:=hpl.bind (.ref e);have hx0:(expr&&onTheHeap (cZ "BaseException.__getattribute__"))=a4:=by cases expr<;>rfl
 have hx2:(cZ "BaseException.__getattribute__" == cZ "object.__getattribute__")=a4:=by decide +kernel
 have hx1:(onTheHeap (az C)&&cZ "BaseException.__getattribute__" == cZ "object.__getattribute__")=a4:=by rw[hx2];rfl
 have L1:=iW (M:=ax prog w) X hga;have L2:=iW (M:=ax prog w) X hgt
 repeat (any_goals (first|assumption|(with_reducible refine fP hx ?_;rw[hc])|with_reducible refine L1.at ?_|with_reducible refine L2.at ?_|wp_step))
 refine jQ hpl.plain F.entry_bexc_ga (j8n X hx hc hs (j16 X hx hc ha hm ?_))
 repeat (any_goals (first|assumption|wp_step))
theorem excls_attr {o:cC} {Q:Option a9->ae->Prop} (X:K.In h) (hx:h.get? e=a3 o) (hc:o.cls=.ref C) (hga:gL K (.ref C) "__getattribute__" = a3 (a3 (.builtin "BaseException.__getattribute__")))
  (hgt:gL K (.ref C) "__getattr__" = a3 a6) (hs:subIn K (.ref C) (.type "BaseException")=a3 a5) (ha:gL K (.ref C) "__class__" = a3 (a3 (.builtin "object.__class__"))) (hm:mroIn K C (.type "object")=a3 a5) (hpl:Slot "ValueError" "__getattribute__" "BaseException.__getattribute__")
  (hq:Q (a3 (.ref C)) ⟨h,g,d,t+1,os⟩):ao (ax prog w) A (getAttr? (.ref e) "__class__") Q E ⟨h,g,d,t,os⟩:=by
 unfold getAttr? getAttrBy?;refine a8 (wpAny_mkText (a8 (iB (j8c X hx hc hga hgt hs ha hm hpl (ah hq)))))
end
end PySem.W
end
section
namespace L2
open PySem PySem.Spec PyProof.Rows
noncomputable def jt:List af:=["WrongSize","NoAsk","NoWord","Twice","WrongAnswers","Unlike","NoPlace","NoText","WrongPrices","WrongWeights","NoPlan"]
noncomputable def bmV:List a9:=[.type "ValueError",.type "Exception",.type "BaseException",.type "object"]
noncomputable def j6j(K:k90)(C:aa):Bool:=W.findIn K (.ref C) "__getattribute__" == a3 (a3 (.builtin "BaseException.__getattribute__"))&&(W.findIn K (.ref C) "__getattr__" == a3 a6&&(W.subIn K (.ref C) (.type "BaseException")==a3 a5 &&
 (W.findIn K (.ref C) "__class__" == a3 (a3 (.builtin "object.__class__"))&&(W.mroIn K C (.type "object")==a3 a5&&((W.clsIn K C).isSome&&W.excIn K C bmV "ValueError.__new__")))))
noncomputable def Qi(K:k90):Bool:=jt.all λx=>match W.nsIn K ak x with
 |some (a3 (.ref C))=>j6j K C&&(W.kitOne K (.ref C) (.type "ValueError")==a3 a5&&((match W.nsIn K ak "AskError" with
   |some (a3 a)=>W.exmOne K (.ref C) a==a3 a5
   |_=>a4)&&jt.all λc=>match W.nsIn K ak c with
   |some (a3 v)=>W.kitOne K (.ref C) v==a3 (x==c)
   |_=>a5))
 |some (a3 _)=>a4
 |_=>a5
structure XcOk(K:k90)(C:aa):Prop where
 ga:W.findIn K (.ref C) "__getattribute__" = a3 (a3 (.builtin "BaseException.__getattribute__"))
 gt:W.findIn K (.ref C) "__getattr__" = a3 a6
 sub:W.subIn K (.ref C) (.type "BaseException")=a3 a5
 cls:W.findIn K (.ref C) "__class__" = a3 (a3 (.builtin "object.__class__"))
 mro:W.mroIn K C (.type "object")=a3 a5
 is:(W.clsIn K C).isSome=a5
 exc:W.excIn K C bmV "ValueError.__new__" = a5
theorem j9z{K:k90}{C:aa}(h:j6j K C=a5):XcOk K C:=by unfold j6j at h;simp only[Xg,beq_iff_eq]at h;exact⟨h.1,h.2.1,h.2.2.1,h.2.2.2.1,h.2.2.2.2.1,h.2.2.2.2.2.1,h.2.2.2.2.2.2⟩
structure ExOne(K:k90)(x:af)(C:aa):Prop where
 ok:XcOk K C
 val:W.kitOne K (.ref C) (.type "ValueError")=a3 a5
 ask:∃a,W.nsIn K ak "AskError" = a3 (a3 a)/\W.exmOne K (.ref C) a=a3 a5
 one:∀c∈jt,∀v,W.nsIn K ak c=a3 (a3 v)->W.kitOne K (.ref C) v=a3 (x==c)
theorem Zt{K:k90}(h:Qi K=a5){x:af}{o:a9}(hx:x∈jt)(e:W.nsIn K ak x=a3 (a3 o)):∃C,o=.ref C/\ExOne K x C:=by
 have q:=Pb.mp h x hx;rw[e]at q;cases o with
 |ref C =>
  refine⟨C,rfl,?_⟩;dsimp only at q;simp only[Xg,beq_iff_eq]at q;obtain⟨q1,q2,q3,q4⟩:=q;refine⟨j9z q1,q2,?_,λc hc v ev=>?_⟩
  .split at q3
   .rename_i a ea;exact⟨a,ea,beq_iff_eq.mp q3⟩
   .cases q3
  .have z:=Pb.mp q4 c hc;rw[ev]at z;exact beq_iff_eq.mp z
 |_=>cases q
theorem jb2{K:k90}{h₀:aD}{C:aa}{bmB:List a9}{newId:String}{x:af}{mg:k93}(X:K.In h₀)(hb:mg x=a3 (.ref C))(q:W.excIn K C bmB newId=a5):OwnCls x C bmB newId mg h₀:=by
 refine⟨hb,?_⟩;unfold W.excIn at q;split at q
 .rename_i dd cd sl ho;split at q
  .rename_i C' bm k0 k1 k2 k3 n k5 hm hs;simp only[Xg,beq_iff_eq,ff]at q;obtain⟨⟨⟨⟨⟨rfl,rfl⟩,hdel⟩,ht⟩,hok⟩,hni⟩:=q;obtain⟨nm,bs,mro,ns,qn,hd,sn,sub,ab,col,del⟩:=cd;dsimp only at hm hdel hok hni;subst hm hdel;have hsl:sl = #[k0,k1,k2,k3,a3 (.builtin n),k5]:=by obtain⟨l⟩:=sl;simp only at hs;rw[hs]
   subst hsl;exact⟨bm,ns,nm,qn,bs,hd,sn,sub,ab,col,dd,k0,k1,k2,k3,k5,_,X _ _ ho,.of_isNs (W.isNs_of_in X hok),W.nsMap_none_of_in X hok hni,W.tail_of_in X ht⟩
  .cases q
 .cases q
theorem DS.raiseE{X:Cx}{ρ:Rho}{e:ai}{x:af}{o:a9}{np cpos pos:aJ}{P:Po}(ha:Qi X.K=a5)(hx:x∈jt)(hn:W.nsIn X.K ak x=a3 (a3 o))(hb:X.mg x=a3 o)(hK:X.K.In X.base)(hc:X.calm=a5)
  (he:∀σ H,Rep X.K ρ σ H->Jo X e σ H λ_ H'=>j0 H H') (hP:P.ex x ρ) (hg:Gl X x) (hdb:(x==k94)=a4) (hs:a7 [e] X.env=[(a4,ay e X.env)]):DS X ρ (.Raise (a3 (.Call (.Name x np) [e] [] cpos)) a6 pos) P:=by
 obtain⟨C,rfl,F⟩:=Zt ha hx hn;exact DS.raise (jb2 hK hb F.ok.exc) fB (by decide +kernel) fB hc he hP hg hdb hs
theorem Ez{K:k90}{e C:aa}{o:cC}(k:XcOk K C):jM K (.ref e) (.ref C) (λh=>h.get? e=a3 o/\o.cls=.ref C) where
 ty:=λ_ _ _ p=>p.2▸(PySem.W.Looks.ld p.1).andThen .now
 it:=λ_ _ X _=>by
  obtain⟨cdD,hcD⟩:=Xq.mp k.is;unfold W.clsIn at hcD;split at hcD
  .rename_i c' d' cd' sl' ho;intro A' Q' E' s' k q;unfold isType loadHead;exact a8 (wpAny_loadPart (k _ _ (X _ _ ho)) (ah q))
  .cases hcD
 ne:=λh tp dd its n sl X htp=>by
  obtain⟨cdD,hcD⟩:=Xq.mp k.is;refine Bool.eq_false_iff.mpr λq=>?_;have e:C=tp:=Value.ref.inj (beq_iff_eq.mp q);subst e;unfold W.clsIn at hcD;split at hcD
  .rename_i c' d' cd' sl' ho;have z:=(X _ _ ho).symm.trans htp;cases z
  .cases hcD
 ca:=λ{prog w A E Q s} X p hq=>by obtain⟨h,g,d,t,os⟩:=s;exact W.excls_attr X p.1 p.2 k.ga k.gt k.sub k.cls k.mro PySem.F.attr_ValueError.ga hq
section
variable{X:Cx}{pins pins':k92}{σ:St}{H:Hp}{s:ae}{xe:k91}{e:aa}
theorem Inv.toPn(I:Inv X pins σ H s):Inv { X with pn:=X.pn++pins,xe:=xe } [] σ H s :=
 ⟨⟨I.ok.mod,I.ok.kind,I.ok.glob,I.ok.blt,I.ok.above,I.ok.inj,I.ok.has,I.ok.cab,I.ok.hd,I.ok.frames,I.ok.stk,I.ok.exf,I.ok.bs,I.ok.bsz,I.ok.noex,I.ok.exfs,I.ok.funs,I.ok.frf⟩,
  I.os,I.bare,I.base,I.loc,I.cell,I.free,I.freeC,λp hp=>I.pin p (by rw[Xv]at hp;exact hp),I.hok,I.len⟩
theorem Inv.ofPn(I:Inv { X with pn:=X.pn++pins,xe:=xe } pins' σ H s):Inv X pins σ H s :=
 ⟨⟨I.ok.mod,I.ok.kind,I.ok.glob,I.ok.blt,I.ok.above,I.ok.inj,I.ok.has,I.ok.cab,I.ok.hd,I.ok.frames,I.ok.stk,I.ok.exf,I.ok.bs,I.ok.bsz,I.ok.noex,I.ok.exfs,I.ok.funs,I.ok.frf⟩,
  I.os,I.bare,I.base,I.loc,I.cell,I.free,I.freeC,λp hp=>I.pin p (P0 _ hp),I.hok,I.len⟩
theorem Old.toPn{b:aa}(h:Old X pins b):Old { X with pn:=X.pn++pins,xe:=xe } pins' b:=by
 rcases h with h|⟨p,hp,e⟩|h|h
 .exact .inl h
 .exact .inr (.inl ⟨p,P0 _ hp,e⟩)
 .exact .inr (.inr (.inl h))
 .exact .inr (.inr (.inr h))
noncomputable abbrev Cx.hnd(X:Cx)(e:aa):Cx:={ X with A:=X.A.mark (a3 (.ref e)),calm:=a4,xe:=λ_ _=>False }
theorem Inv.toH(I:Inv X pins σ H s):Inv (X.hnd e) pins σ H s :=
 ⟨⟨I.ok.mod,I.ok.kind,I.ok.glob,I.ok.blt,I.ok.above,I.ok.inj,I.ok.has,I.ok.cab,(λz=>by cases z),I.ok.frames,I.ok.stk,I.ok.exf,I.ok.bs,I.ok.bsz,I.ok.noex,I.ok.exfs,I.ok.funs,I.ok.frf⟩,
  I.os,I.bare,I.base,I.loc,I.cell,I.free,I.freeC,I.pin,I.hok,I.len⟩
theorem Inv.ofH(ok:X.Ok)(I:Inv (X.hnd e) pins σ H s):Inv X pins σ H s:=⟨ok,I.os,I.bare,I.base,I.loc,I.cell,I.free,I.freeC,I.pin,I.hok,I.len⟩
end
theorem Rep.set_raw{K:k90}{ρ:Rho}{σ:St}{H:Hp}{i:Nat}{a:aa}{o:cC}{x:af}(R:Rep K ρ σ H)(e:del H (owns ρ) a=a3 (.frz o (.own a)))(hx:W.nsIn K ak x=a3 (a3 o.cls)):Rep K (ρ.set i (.raw a o x)) (σ.set i (a3 (.ref a))) H:=by
 have sub:(owns (ρ.set i (.raw a o x))).Sublist (owns ρ):=jf rfl;have g:j0 (del H (owns ρ)) (del H (owns (ρ.set i (.raw a o x)))):=v5 λb hb=>sub.subset hb;refine⟨by simp[R.len],λj d' h=>?_,λj a ds h=>?_,sub.nodup R.nd,λj a' o' x' h=>?_,R.tb⟩
 .rcases getElem?_set_of h with ⟨rfl,z,hl⟩|⟨n,h⟩
  .cases z
  .obtain⟨u,q,h⟩:=R.val j d' h;exact⟨u,by rw[qe n];exact q,h.mono g⟩
 .rcases getElem?_set_of h with ⟨rfl,z,_⟩|⟨n,h⟩
  .cases z
  .obtain⟨q,xs,h,l⟩:=R.own j a ds h;exact⟨by rw[qe n];exact q,xs,h,l.mono g⟩
 .rcases getElem?_set_of h with ⟨rfl,z,hl⟩|⟨n,h⟩
  .cases z;exact⟨V8 (by rw[R.len];exact hl),g _ _ e,hx⟩
  .obtain⟨q,h,z⟩:=R.raw j a' o' x' h;exact⟨by rw[qe n];exact q,g _ _ h,z⟩
section
variable{X:Cx}{ρ:Rho}{i:Nat}{a:aa}{o:cC}{x y c c1 c2:af}{p p1 p2 p3 p4 p5 pos:aJ}{k:Bool}
theorem Le:Ja X (.builtin "isinstance") (λxs H Q=>∃(a:aa)(o:cC)(C:aa)(v:V)(u:a9)(b:Bool),xs=[.ref a,v]/\H a=a3 (.frz o (.own a))/\o.cls=.ref C/\XcOk X.K C/\(∀u',RelV v u'->u'=u)/\W.kitOne X.K (.ref C) u=a3 b/\Q (.bl b) H):=by rintro pins s σ H xs us Q I r ⟨a,o,C,v,u,b,e,ha,hc,hk,hv,kk,q⟩;subst e;obtain⟨u1,u2,eu,r1,r2⟩:=vals2 r;subst eu;cases(show u1=az a from r1);cases hv u2 r2;exact W.kia_one (Ez hk) I.kIn ⟨(I.hok a _ ha).1,hc⟩ kk (λz=>nomatch z) λtk=>⟨.bl b,H,I.tok tk,rfl,q⟩
theorem j6a:Ja X (.builtin "isinstance") (λxs H Q=>∃(a t:aa)(o:cC)(C C1 C2:aa)(b:Bool),xs=[.ref a,.ref t]/\H a=a3 (.frz o (.own a))/\o.cls=.ref C/\XcOk X.K C/\SqT X.K H t [.ref C1,.ref C2]/\W.kitAny X.K (.ref C) [.ref C1,.ref C2]=a3 b/\Q (.bl b) H):=by rintro pins s σ H xs us Q I r ⟨a,t,o,C,C1,C2,b,e,ha,hc,hk,sq,kk,q⟩;subst e;obtain⟨u1,u2,eu,r1,r2⟩:=vals2 r;subst eu;cases(show u1=az a from r1);cases(show u2=az t from r2);obtain⟨its,rv,⟨⟨cl,dd,da,sl⟩,h1,h2,n,h3⟩,_⟩:=I.tuple sq;have h2:cl=.type "tuple":=h2;have h3:da=.seq its.toArray n:=h3;subst h2 h3;obtain⟨v1,v2,ei,q1,q2⟩:=vals2 rv;subst ei;cases(show v1=az C1 from q1);cases(show v2=az C2 from q2);exact W.kia_tup (Ez hk) I.kIn ⟨(I.hok a _ ha).1,hc⟩ h1 kk (λz=>nomatch z) λtk=>⟨.bl b,H,I.tok tk,rfl,q⟩
theorem Ec{σ:St}{H:Hp}(ha:Qi X.K=a5)(hx:x∈jt)(R:Rep X.K ρ σ H)(h:ρ[i]?=a3 (.raw a o x)):σ[i]?=a3 (a3 (.ref a))/\H a=a3 (.frz o (.own a))/\∃C,o.cls=.ref C/\ExOne X.K x C:=by obtain⟨q,z,n⟩:=R.raw i a o x h;obtain⟨C,e,F⟩:=Zt ha hx n;exact⟨q,(of_del z).2,C,e,F⟩
theorem DE.isxV (ha:Qi X.K=a5) (hx:x∈jt) (h:ρ[i]?=a3 (.raw a o x)) (hm:X.mg "isinstance" = a6) (hT:X.mg "ValueError" = a6) (hN:X.N[i]?=a3 y) (hv:Vis X.env.scope y) (hd:(y==k94)=a4) (hcd:(y==k95)=a4)
  (hg:Gl X "isinstance") (hg2:Gl X "ValueError") (hs:a7 [.Name y p1,.Name "ValueError" p2] X.env=(a4,ay (.Name y p1) X.env)::a7 [.Name "ValueError" p2] X.env) (hs2:a7 [.Name "ValueError" p2] X.env=(a4,ay (.Name "ValueError" p2) X.env)::a7 [] X.env)
  (hpl:(aK pos (a7 [.Name "ValueError" p2] X.env)).any (·.1)=a4):DE X ρ (.Call (.Name "isinstance" p) [.Name y p1,.Name "ValueError" p2] [] pos) (.bl a5):=λσ H Q R q=>by
 obtain⟨q1,q2,C,e,F⟩:=Ec ha hx R h;exact(zq Le hg hm dX (jb (J4 hN hv hd hcd) (jb (j9d hg2 hT (by decide +kernel)) jo hs2) hs) (by decide) (by decide) hs hpl).to ⟨.ref a,q1,a,o,C,.ty "ValueError",.type "ValueError",a5,rfl,q2,e,F.ok,λu' r=>r,F.val,q _ H (j0.refl H) rfl⟩
theorem DE.isx1 {v:a9} (ha:Qi X.K=a5) (hx:x∈jt) (h:ρ[i]?=a3 (.raw a o x)) (hm:X.mg "isinstance" = a6) (hc:c∈jt) (hn:W.nsIn X.K ak c=a3 (a3 v)) (hT:X.mg c=a3 v) (hN:X.N[i]?=a3 y) (hv:Vis X.env.scope y) (hd:(y==k94)=a4) (hcd:(y==k95)=a4)
  (hg:Gl X "isinstance") (hg2:Gl X c) (hdb:(c==k94)=a4) (hs:a7 [.Name y p1,.Name c p2] X.env=(a4,ay (.Name y p1) X.env)::a7 [.Name c p2] X.env) (hs2:a7 [.Name c p2] X.env=(a4,ay (.Name c p2) X.env)::a7 [] X.env)
  (hpl:(aK pos (a7 [.Name c p2] X.env)).any (·.1)=a4):DE X ρ (.Call (.Name "isinstance" p) [.Name y p1,.Name c p2] [] pos) (.bl (x==c)):=λσ H Q R q=>by
 obtain⟨q1,q2,C,e,F⟩:=Ec ha hx R h;obtain⟨C',rfl,_⟩:=Zt ha hc hn;exact(zq Le hg hm dX (jb (J4 hN hv hd hcd) (jb (Ro (v:=.ref C') hg2 hT rfl hdb) jo hs2) hs) (by decide) (by decide) hs hpl).to ⟨.ref a,q1,a,o,C,.ref C',.ref C',x==c,rfl,q2,e,F.ok,λu' r=>r,F.one c hc _ hn,q _ H (j0.refl H) rfl⟩
theorem DE.isx2 {v1 v2:a9} {m:Nat} (ha:Qi X.K=a5) (hx:x∈jt) (h:ρ[i]?=a3 (.raw a o x)) (hm:X.mg "isinstance" = a6) (hc1:c1∈jt) (hc2:c2∈jt) (hn1:W.nsIn X.K ak c1=a3 (a3 v1)) (hn2:W.nsIn X.K ak c2=a3 (a3 v2))
  (hT1:X.mg c1=a3 v1) (hT2:X.mg c2=a3 v2) (hN:X.N[i]?=a3 y) (hv:Vis X.env.scope y) (hd:(y==k94)=a4) (hcd:(y==k95)=a4) (hg:Gl X "isinstance") (hg1:Gl X c1) (hg2:Gl X c2) (hdb1:(c1==k94)=a4) (hdb2:(c2==k94)=a4)
  (hs:a7 [.Name y p1,.Tuple [.Name c1 p2,.Name c2 p3] m p4] X.env=(a4,ay (.Name y p1) X.env)::a7 [.Tuple [.Name c1 p2,.Name c2 p3] m p4] X.env)
  (hs2:a7 [.Tuple [.Name c1 p2,.Name c2 p3] m p4] X.env=(a4,ay (.Tuple [.Name c1 p2,.Name c2 p3] m p4) X.env)::a7 [] X.env) (hpl:(aK pos (a7 [.Tuple [.Name c1 p2,.Name c2 p3] m p4] X.env)).any (·.1)=a4)
  (hs3:a7 [.Name c1 p2,.Name c2 p3] X.env=(a4,ay (.Name c1 p2) X.env)::a7 [.Name c2 p3] X.env) (hs4:a7 [.Name c2 p3] X.env=(a4,ay (.Name c2 p3) X.env)::a7 [] X.env) :
  DE X ρ (.Call (.Name "isinstance" p) [.Name y p1,.Tuple [.Name c1 p2,.Name c2 p3] m p4] [] pos) (.bl (x==c1 || x==c2)):=λσ H Q R q=>by
 obtain⟨q1,q2,C,e,F⟩:=Ec ha hx R h;obtain⟨C1,rfl,_⟩:=Zt ha hc1 hn1;obtain⟨C2,rfl,_⟩:=Zt ha hc2 hn2;have kk:W.kitAny X.K (.ref C) [.ref C1,.ref C2]=a3 (x==c1 || x==c2):=by
  unfold W.kitAny;rw[F.one c1 hc1 _ hn1];cases(x==c1)
  .unfold W.kitAny;rw[F.one c2 hc2 _ hn2];cases(x==c2)<;>rfl
  .rfl
 exact(zq j6a hg hm dX (jb (J4 hN hv hd hcd) (jb (j4s (jb (Ro (v:=.ref C1) hg1 hT1 rfl hdb1) (jb (Ro (v:=.ref C2) hg2 hT2 rfl hdb2) jo hs4) hs3)) jo hs2) hs) (by decide) (by decide) hs hpl).to
  ⟨.ref a,q1,by show 2<=aj;decide,λt ht=>⟨a,t,o,C,C1,C2,_,rfl,by rw[je (λz=>by rw[z,ht]at q2;cases q2)];exact q2,e,F.ok,.inl (.inl jc),kk,q _ _ (j7 ht) rfl⟩⟩
end
structure KindsP(P:au)(w:aA)(K:k90)(mg:k93)(base:aD)(f x:af)(l:List D):Prop where
 ex:∃fa:aa,mg f=a3 (.ref fa)/\W.keepIn K (.ref fa)=a5/\∀(A:aB)(outer:List dj)(s:ae)(H:Hp)(e:aa)(o:cC),A.depth+4<bx->A.units+150<aI->Env0 P w K mg base A outer s H->TabOk K H ->
  H e=a3 (.frz o (.own e))->W.nsIn K ak x=a3 (a3 o.cls) ->
  cg (ax P w) A (.call (.ref fa) ⟨[.ref e],[]⟩) (CR CX0 outer P w H s (λv H'=>∃a xs,v=.ref a/\j0 H H'/\H a=a6/\H' a=a3 (.lst xs)/\j5 K (del H' [a]) l xs) E0) s
 nl:jn l=a5
abbrev Kinds(X:Cx)(f x:af)(l:List D):Prop:=KindsP X.prog X.w X.K X.mg X.base f x l
section
variable{X:Cx}{ρ:Rho}{i j:Nat}{e:aa}{o:cC}{f x n k A:af}{l:List D}{P:Po}{body:List aS}{p p1 p2 p3 p4 p5 pos hpos:aJ}
theorem DO.kinds (c:Kinds X f x l) (h:ρ[j]?=a3 (.raw e o x)) (hdp:X.A.depth+4<bx) (hun:X.A.units+150<aI) (hg:Gl X f) (hdb:(f==k94)=a4) (hN:X.N[j]?=a3 n) (hv:Vis X.env.scope n) (hd:(n==k94)=a4) (hcd:(n==k95)=a4)
  (he:a7 [.Name n p1] X.env=(a4,ay (.Name n p1) X.env)::a7 [] X.env) (hpl:(aK p2 (a7 [] X.env)).any (·.1)=a4):DO X ρ (.Call (.Name f p) [.Name n p1] [] p2) l:=λσ H Q R q pins s I=>by
 obtain⟨fa,hm,hk,run⟩:=c.ex;obtain⟨q1,q2,q3⟩:=R.raw j e o x h;refine aM (Z4 I hg hm ?_ hdb);refine W.callWith_K (h₀:=X.base) I.ok.mod.kin hk (thn ((jb (J4 hN hv hd hcd) jo he).to (σ:=σ) (H:=H) (Q:=λvs H1=>vs=[.ref e]/\H1=H) ⟨.ref e,q1,rfl,rfl⟩ p2 pins s I) λus s1 ⟨vs,H1,I1,r,e1,e2⟩=>⟨I1.kIn,?_⟩) he hpl;subst e1 e2;obtain⟨u,eu,r1⟩:=vals1 r;subst eu;cases(show u=az e from r1);refine fE (bD (run X.A X.stack s1 H1 e o hdp hun I1.env0 R.tb (of_del q2).2 q3) λr s' hq=>?_);cases r with
 |error e=>exact hq.elim
 |ok fl =>
  cases fl with
  |ret u =>
   obtain⟨v,H',I',rv,a,xs,ev,g,na,m,en⟩:=I1.after hq;refine⟨v,H',I',rv,?_⟩;subst ev;exact q a xs H' g na m ((en.mono jq).hide (λc hc=>by
    rcases xn.mp hc with z|z
    .rw[z];exact .inl ⟨xs,m⟩
    .exact .inl ((R.grow g).owned c z)) c.nl)
  |next=>exact aY hq
  |brk=>exact aY hq
  |cont=>exact aY hq
theorem caught{pins:k92}{σ:St}{H H0:Hp}{s:ae}{C:a9}{E:Ends}{ρ0:Rho}(ha:Qi X.K=a5)(hx:x∈jt)(hns:W.nsIn X.K ak x=a3 (a3 C))(c:Kinds X f x l)(hst:X.stack=X.env::X.outer)(hfm:X.env.frame=a3 X.env.locals)
  (hdp:X.A.depth+4<bx) (hun:X.A.units+150<aI) (I:Inv X pins σ H s) (R:Rep X.K ρ σ H) (Fe:Fl (Old X pins) H s.heap e C) (q:EndsOk X ρ0 H0 P E) (f0:Fr0 ρ0 ρ H0 H)
  (hP:∀oe a,P.nx (((ρ.set j (.raw e oe x)).set i (.own a l)).set j .un)) (hND:X.N.Nodup) (hgA:Gl X "AskError")
  (hg:Gl X f) (hdb:(f==k94)=a4) (hN:X.N[j]?=a3 n) (hlo:X.env.scope.names.lookup n=a3 .local) (hd:(n==k94)=a4) (hcd:(n==k95)=a4)
  (hi:X.N[i]?=a3 k) (hxk:Loc X.env.scope k) (hfk:X.fn k=a5\/X.env.scope.names.lookup k=a3 .local) (hfn:X.fn n=a5\/X.env.scope.names.lookup n=a3 .local)
  (hs:aG (.Call (.Name f p) [.Name n p1] [] p2) (a3 (.Name k p3)) p4.line X.env=pure a4)
  (he:a7 [.Name n p1] X.env=(a4,ay (.Name n p1) X.env)::a7 [] X.env) (hpl:(aK p2 (a7 [] X.env)).any (·.1)=a4) :
  ao (ax X.prog X.w) X.A (gd (.ref e) X.env) (λ_ s₂=>ao (ax X.prog X.w) X.A (l5 (.ref e) a6) (λ_ s₃ =>
   ao (ax X.prog X.w) X.A (handleBy (.ref e) X.env [.ExceptHandler (a3 (.Name "AskError" p5)) (a3 n) [.Assign [.Name k p3] (.Call (.Name f p) [.Name n p1] [] p2) p4] hpos]) (SP X pins E) X.xe s₃) X.xe s₂) X.xe s:=by
 obtain⟨Ca,rfl,F1⟩:=Zt ha hx hns;obtain⟨av,hav,hexm⟩:=F1.ask;have hma:X.mg "AskError" = a3 av:=W.mg_of I.mod.kin I.mod.glob hav;refine jb9 I hst hfm Fe λh1 I1 F1'=>?_;refine j1w I1 F1' λh2 I2 F2=>?_;refine wpAny_handleBy_cons (codeAny_handlers_test (Z4 (X:=X.hnd e) (Inv.toH I2) hgA hma ?_)) (by intro q;cases q);obtain⟨oe,vs,a0,T,oT,ts,hoe,hoc,_⟩:=F2.obj;refine(W.exm_one I2.kIn (hoc▸(PySem.W.Looks.ld hoe).andThen .now) hexm).here ?_;refine codeAny_handlers_suite_as (j1w (X:=X) I2 F2 λh3 I3 F3=>?_);obtain⟨oe,vs,a0,T,oT,ts,hoe,hoc,_⟩:=F3.obj;have I4:=I3.track hoe F3.new F3.free;have g4:j0 H (upd H e (.frz oe (.own e))):=j7 F3.free;have R4:=R.grow g4;have ho:del (upd H e (.frz oe (.own e))) (owns ρ) e=a3 (.frz oe (.own e)):=by rw[j6 (R.fresh F3.free)];exact jc
 have hcls:W.nsIn X.K ak x=a3 (a3 oe.cls):=by rw[hoc];exact hns
 refine Wb (v:=.ref e) I4 hND hN (.inl hlo) rfl (λs5 I5 _=>?_) hfn;have R5:Rep X.K (ρ.set j (.raw e oe x)) (σ.set j (a3 (.ref e))) (upd H e (.frz oe (.own e))):=R4.set_raw ho hcls;have hj:(ρ.set j (.raw e oe x))[j]?=a3 (.raw e oe x):=V8 (by
  have z:=(X3.mp hN).1
  rw[<-R.len,I.len];exact z)
 have suite:DSs (X.hnd e) (ρ.set j (.raw e oe x)) [.Assign [.Name k p3] (.Call (.Name f p) [.Name n p1] [] p2) p4] { nx:=λρ3=>∃a,ρ3=(ρ.set j (.raw e oe x)).set i (.own a l),rt:=λ_=>False } :=
  DSs.last (DS.setO i (DO.kinds (X:=X.hnd e) ⟨c.ex,c.nl⟩ hj hdp hun hg hdb hN (.inl hlo) hd hcd he hpl) (λa=>⟨a,rfl⟩) hND hi hxk hs hfk)
 have run:=suite _ _ { nx:=λσ6 H6=>∃a,Rep X.K ((ρ.set j (.raw e oe x)).set i (.own a l)) σ6 H6/\Fr0 (ρ.set j (.raw e oe x)) ((ρ.set j (.raw e oe x)).set i (.own a l)) (upd H e (.frz oe (.own e))) H6,rt:=λ_ _=>False,bk:=λ_ _=>False,ct:=λ_ _=>False } R5
  ⟨λρ' σ' H' ⟨a,er⟩ R' f=>⟨a,er▸R',er▸f⟩,λ_ _ _ z=>z.elim,λ_ _ _ z=>z.elim,λ_ _ _ z=>z.elim,λ_ _ _ _ z=>z.elim⟩ pins s5 (Inv.toH I5)
 refine b7 run (λfl s6 h6=>?_) λ_ _ z=>z.elim;cases fl with
 |next =>obtain⟨σ6,H6,I6,a,R6,f6⟩:=h6;refine jbt (X:=X) (Inv.ofH I.ok I6) hND hN hlo λs7 I7=>?_;refine⟨_,H6,I7,q.nx _ _ H6 (hP oe a) R6.set_un ?_⟩;refine f0.trans (j0.trans (Fr0.grow g4) (j0.trans (Fr0.drop λb hb=>(jf rfl).subset hb) (j0.trans f6 (Fr0.drop λb hb=>(jf rfl).subset hb))))
 |ret u=>obtain⟨_,_,_,_,_,_,_,z⟩:=h6;exact z.elim
 |brk=>obtain⟨_,_,_,z⟩:=h6;exact z.elim
 |cont=>obtain⟨_,_,_,z⟩:=h6;exact z.elim
end
section
variable{X:Cx}{ρ:Rho}{i j:Nat}{f n k:af}{P:Po}{body:List aS}{p p1 p2 p3 p4 p5 pos hpos:aJ}
noncomputable def Po.caught(P:Po)(X:Cx)(f:af)(i j:Nat):Po:={ P with ex:=λx ρ'=>x∈jt/\(∃o,W.nsIn X.K ak x=a3 (a3 o))/\∃l,Kinds X f x l/\∀e oe a,P.nx (((ρ'.set j (.raw e oe x)).set i (.own a l)).set j .un) }
theorem DS.tryK(hb:∀pn xe,dG (ax X.prog X.w) X.A X.env xe->DSs { X with pn:=pn,xe:=xe } ρ body (P.caught X f i j))(ha:Qi X.K=a5)(hst:X.stack=X.env::X.outer)(hfm:X.env.frame=a3 X.env.locals)(hdp:X.A.depth+4<bx)(hun:X.A.units+150<aI)
  (hND:X.N.Nodup) (hgA:Gl X "AskError") (hg:Gl X f) (hdb:(f==k94)=a4) (hN:X.N[j]?=a3 n) (hlo:X.env.scope.names.lookup n=a3 .local) (hd:(n==k94)=a4) (hcd:(n==k95)=a4)
  (hi:X.N[i]?=a3 k) (hxk:Loc X.env.scope k) (hfk:X.fn k=a5\/X.env.scope.names.lookup k=a3 .local) (hfn:X.fn n=a5\/X.env.scope.names.lookup n=a3 .local)
  (hs:aG (.Call (.Name f p) [.Name n p1] [] p2) (a3 (.Name k p3)) p4.line X.env=pure a4)
  (he:a7 [.Name n p1] X.env=(a4,ay (.Name n p1) X.env)::a7 [] X.env) (hpl:(aK p2 (a7 [] X.env)).any (·.1)=a4) :
  DS X ρ (.Try body [.ExceptHandler (a3 (.Name "AskError" p5)) (a3 n) [.Assign [.Name k p3] (.Call (.Name f p) [.Name n p1] [] p2) p4] hpos] [] [] pos) P:=λσ H E R q pins s I=>by
 refine wpAny_Try_except ?_;refine b7 (hb (X.pn++pins) (λe s₁=>ao (ax X.prog X.w) X.A (gd e X.env) (λ_ s₂=>ao (ax X.prog X.w) X.A (l5 e a6) (λ_ s₃ =>
   ao (ax X.prog X.w) X.A (handleBy e X.env [.ExceptHandler (a3 (.Name "AskError" p5)) (a3 n) [.Assign [.Name k p3] (.Call (.Name f p) [.Name n p1] [] p2) p4] hpos]) (SP X pins E) X.xe s₃) X.xe s₂) X.xe s₁) PassesOwn.looking
  σ H E R ⟨q.nx,q.bk,q.ct,q.rt,λx ρ' σ' H' hP R' f'=>?_⟩ [] s I.toPn) (λfl s1 h1=>?_) λ_ _ z=>z
 .obtain⟨hx,⟨o,ho⟩,l,kd,hnx⟩:=hP;intro pins' H2 s' e C I' g hm Fe;have I2:Inv X pins σ' H2 s':=Inv.ofPn I';have hm2:X.mg x=a3 o:=W.mg_of I2.mod.kin I2.mod.glob ho;cases(show a3 C=a3 o from(show X.mg x=a3 C from hm).symm.trans hm2);exact caught ha hx ho kd hst hfm hdp hun I2 (R'.grow g) ⟨λb hb=>Fe.new b hb.toPn,Fe.free,by
   obtain⟨oe,vs,a0,z1,z2,z3,z4,z5⟩:=Fe.obj
   refine⟨oe,vs,a0,z1,z2,z3,z4,z5.imp id ?_⟩
   rintro⟨T,oT,ts,y1,y2,y3,y4,y5,y6,y7⟩
   exact⟨T,oT,ts,y1,y2,y3,y4,y5,y6,λb hb=>y7 b hb.toPn⟩⟩ q (f'.trans (Fr0.grow g)) (λoe a=>hnx e oe a) hND hgA hg hdb hN hlo hd hcd hi hxk hfk hfn hs he hpl
 .cases fl with
  |next =>obtain⟨σ',H',I',z⟩:=h1;exact(Nz (X:=X)).to z pins s1 (Inv.ofPn I')
  |ret u =>obtain⟨v,σ',H',H2,I',r,x2,z⟩:=h1;exact⟨v,σ',H',H2,Inv.ofPn I',r,x2,z⟩
  |brk=>obtain⟨σ',H',I',z⟩:=h1;exact⟨σ',H',Inv.ofPn I',z⟩
  |cont=>obtain⟨σ',H',I',z⟩:=h1;exact⟨σ',H',Inv.ofPn I',z⟩
end
section
variable{P:au}{w:aA}{K:k90}{mg:k93}{base:aD}{f:aa}{g x pn:af}{st:aS}{fd:aN}{N:List af}{l:List D}
theorem jas{H:Hp}{e:aa}{o:cC}(tb:TabOk K H)(hN:1<=N.length)(h:H e=a3 (.frz o (.own e)))(hx:W.nsIn K ak x=a3 (a3 o.cls)):Rep K (.raw e o x::aq (N.length-1) .un) (start N [.ref e]) H:=by
 have ho:owns (.raw e o x::aq (N.length-1) .un)=[]:=by
  rw[jm];show owns _=[]
  exact List.filterMap_eq_nil_iff.mpr λs hs=>by rw[(Tz.mp hs).2];rfl
 have un:∀(i:Nat)(s:Sl),(.raw e o x::aq (N.length-1) .un:Rho)[i]?=a3 s->(i=0/\s=.raw e o x)\/s=.un:=λi s q=>by
  cases i with
  |zero=>rw[dk]at q;cases q;exact .inl ⟨rfl,rfl⟩
  |succ i=>rw[Tp]at q;exact .inr (Tz.mp (Xl q)).2
 refine⟨by unfold start;simp,λi d q=>?_,λi a ds q=>?_,by rw[ho];exact dO,λi a o' x' q=>?_,tb⟩
 .rcases un i _ q with ⟨_,z⟩|z<;>cases z
 .rcases un i _ q with ⟨_,z⟩|z<;>cases z
 .rcases un i _ q with ⟨z,z2⟩|z
  .cases z2;subst z;exact⟨rfl,by rw[ho,vz];exact h,hx⟩
  .cases z
theorem kinds_of(F:Fun K g g st f fd)(Sc:FnScope N [pn] (j9 st))(hbd:Binds K fd [pn] [])(hm:mg g=a3 (.ref f))(hN:1<=N.length)(hnl:jn l=a5)
  (hbody:∀(cdv:a9)(A:aB)(outer:List dj)(s:ae)(H:Hp)(e:aa)(o:cC),A.depth+4<bx->A.units+150<aI ->
   DSs { (zu CX0 P w K mg base N g (j9 st) f cdv A outer s H E0).nox with calm:=a4 } (.raw e o x::aq (N.length-1) .un) (jy st) { nx:=λ_=>False,rt:=λr=>r=.fresh l }):KindsP P w K mg base g x l:=by
 refine⟨⟨f,hm,F.kp,λA outer s H e o hdp hun e0 tb he hx=>?_⟩,hnl⟩;obtain⟨oc,od,dV,kV,doc,pm,an,cdv,ct,osl,rfl,lk,hcd⟩:=F.ex;have KX:K.In s.heap:=e0.mod.kin.keeps λb o e=>(e0.bs b o e).1;have lim:s.heap.NoLimit:=e0.mod.nolimit.keeps λb o e=>(e0.bs b o e).1;have hb:=hbd s [.ref e] KX rfl;have hkind:∀y∈[pn].zip [az e],(j9 st).names.lookup y.1=a3 .local\/((j9 st).names.lookup y.1=a3 .cell/\((aL (s.heap.objs.size+1) (j9 st).names []).lookup y.1).isSome=a5):=λ⟨n,v⟩ hy=>by
  rcases Sc.par n (cE hy).1 with q|q
  .exact .inl q
  .exact .inr ⟨q,W.cellsFrom_some _ _ _ (.inl q)⟩
 refine jI nofun (KX _ _ lk) rfl Sc.co Sc.gen rfl (W.codeRec_of KX hcd) (hb _ _ _ _ ?_);refine hJ Sc.kind hkind λenv henv s1 x1=>?_;subst henv;refine⟨lim.keeps x1.toInCall.keep,codeAny_func ?_⟩;have I:Inv { zu CX0 P w K mg base N g (j9 st) f cdv A outer s H E0 with calm:=a4 } [] (start N [.ref e]) H s1:=Cq Sc a4 (λz=>by cases z) e0 rfl (.cons rfl .nil) x1;have I':Inv { (zu CX0 P w K mg base N g (j9 st) f cdv A outer s H E0).nox with calm:=a4 } [] (start N [.ref e]) H s1 :=
  ⟨⟨I.ok.mod,I.ok.kind,I.ok.glob,I.ok.blt,I.ok.above,I.ok.inj,I.ok.has,I.ok.cab,I.ok.hd,I.ok.frames,I.ok.stk,I.ok.exf,I.ok.bs,I.ok.bsz,I.ok.noex,I.ok.exfs,I.ok.funs,I.ok.frf⟩,
   I.os,I.bare,I.base,I.loc,I.cell,I.free,I.freeC,I.pin,I.hok,I.len⟩
 have ho:owns (.raw e o x::aq (N.length-1) .un)=[]:=by
  rw[jm];show owns _=[]
  exact List.filterMap_eq_nil_iff.mpr λs hs=>by rw[(Tz.mp hs).2];rfl
 have run:=hbody cdv A outer s H e o hdp hun (start N [.ref e]) H { nx:=λ_ _=>False,bk:=λ_ _=>False,ct:=λ_ _=>False,rt:=λv H'=>∃a xs,v=.ref a/\j0 H H'/\H a=a6/\H' a=a3 (.lst xs)/\j5 K (del H' [a]) l xs } (jas tb hN he hx)
  ⟨λ_ _ _ z=>z.elim,λ_ _ _ z=>z.elim,λ_ _ _ z=>z.elim,(λr v H' n z=>by
   cases(show r=.fresh l from n)
   obtain⟨a,xs,e,g,m,en⟩:=z
   rw[ho,vz]at g
   refine⟨a,xs,e,g.trans jq,?_,m,en⟩
   cases y:H a with
   |none=>rfl
   |some o=>have:=g a o y;rw[qt (xu.mpr rfl)]at this;cases this),λ_ _ _ _ z=>z.elim⟩ [] s1 I'
 refine b7 run (λfl s' hs=>?_) λ_ _ z=>z.elim;cases fl with
 |ret u =>obtain⟨v,σ',H',H2,J,rv,x,q⟩:=hs;exact⟨v,H2,J.os,J.bare,(J.extOut x).2 rfl,(J.extOut x).1,rv,q⟩
 |next=>obtain⟨_,_,_,q⟩:=hs;exact q.elim
 |brk=>obtain⟨_,_,_,q⟩:=hs;exact q.elim
 |cont=>obtain⟨_,_,_,q⟩:=hs;exact q.elim
end
section
variable{X:Cx}
def jjx:V->Option Int->Option Int->Hp->VK->Prop:=λx lo hi H Q=>∃z,x=.str z/\z.length<=aj/\Q (.str (bG z lo hi)) H
theorem part_of{v:a9}{o:Option Int}(h:eX v o):∃l:Option (Int×gH),v=partValue l/\l.map (·.1)=o:=by
 cases h with
 |none=>exact⟨a6,rfl,rfl⟩
 |int i t=>exact⟨a3 (i,t),rfl,rfl⟩
theorem jd7:SlR X jjx:=by intro pins s σ H x v vl vu lo hi sl Q I rx hs pl pu h;obtain⟨z,ex,hz,q⟩:=h;subst ex;obtain⟨t,ev⟩:=rx;subst ev;obtain⟨l,el,ml⟩:=part_of pl;obtain⟨u,eu,mu⟩:=part_of pu;subst el eu ml mu;obtain⟨o,h1,h2,h3⟩:=hs;refine⟨"str",_,PySem.F.slot_str_getitem.lookup,hU s z t,wpAny_getItem_str_slice (l:=l) (u:=u) (st:=a6) ⟨o,h1,h2,h3⟩ rfl ?_⟩;exact post_val_or_str ⟨Xk (Txt.slice_le z _ _) hz,λt' k=>⟨.str _,H,I.tok k,⟨_,rfl⟩,q⟩⟩
theorem j1g:∀{ts:List af}{us:List a9},Vals (ts.map V.str) us->∃l:List (af×gH),us=strValues l/\l.map (·.1)=ts
 |[],_,r=>by cases r;exact⟨[],rfl,rfl⟩
 |t::ts,_,r=>by
  cases r with
  |cons a b =>obtain⟨k,e⟩:=a;obtain⟨l,e1,e2⟩:=j1g b;subst e e1 e2;exact⟨(t,k)::l,rfl,rfl⟩
theorem jba:MtR X "str.join" (λx vs H Q=>∃(sep:af)(l:aa)(ts:List af),x=.str sep/\vs=[.ref l]/\SqL X.K H l (ts.map V.str)/\eW sep ts=a5/\Q (.str (dQ sep ts)) H):=by rintro pins s σ H x vs v us Q I rx rv ⟨sep,l,ts,e,e',sq,hok,q⟩;subst e e';obtain⟨t,ev⟩:=rx;subst ev;obtain⟨u,eu,ru⟩:=rv.one;subst eu;cases ru;obtain⟨its,ri,pl,_⟩:=I.list sq;obtain⟨ps,e1,e2⟩:=j1g ri;subst e1 e2;unfold eW at hok;rw[ff]at hok;exact bc iI (hU _ _ _) F.entry_str_join (F.args_str_join_2 _ _) (meets_str_join_list sep t l ps hok) ⟨pl.isList,post_join ps ⟨joinFit_length hok,λt' k=>⟨.str _,H,I.tok k,⟨_,rfl⟩,q⟩⟩⟩
theorem j65 (hc:X.calm=a5):Ja X (.builtin "sum") (λxs H Q=>∃(lst:Bool)(l:aa)(ns:List Int),xs=[.ref l]/\SqB X.K lst H l (ns.map V.int)/\Q (.int ns.sum) H):=by
 rintro pins s σ H xs us Q I r ⟨lst,l,ns,e,sq,q⟩;subst e;obtain⟨u,eu,ru⟩:=vals1 r;subst eu;cases ru;obtain⟨its,rv,pl,_⟩:=I.side sq;have hl:its.length=ns.length:=by rw[<-rv.length,kj]
 have val:∀i v,its.toArray[i]?=a3 v->∃t,v=b8 (ns.getD i 0) t:=by
  intro i v hv;have hi:i<its.length:=by obtain⟨h,_⟩:=Array.getElem?_eq_some_iff.mp hv;simpa using h
  have hi':i<ns.length:=by omega
  obtain⟨w1,hw,rw1⟩:=rv.get (x:=.int (ns.getD i 0)) (i:=i) (by rw[xx,kh hi',xf,kh hi'];rfl);have:its.toArray[i]?=a3 w1:=by simpa using hw
  rw[this]at hv;cases hv;exact rw1
 have tot:preSum (λi=>ns.getD i 0) its.toArray.size=ns.sum:=by rw[preSum_getD,Tv (by rw[X7];omega)]
 have fin:∀(o:cC)(s':ae)(t':gH),Moved [s.heap.objs.size] (λa b=>b=a) { s with heap:=s.heap.push o } s'->EP X pins σ Q (.int (preSum (λi=>ns.getD i 0) its.toArray.size) t') s':=λo s' t' mv=>by obtain⟨hh,gg,dd,tt,oo⟩:=s';obtain⟨m1,m2,m3,m4,m5⟩:=mv;cases m2;cases m3;cases m4;rw[tot];refine⟨.int _,H,I.kept (t':=tt) λb o e=>m1 b o ?_ (xj _ e),⟨_,rfl⟩,q⟩;intro z;rw[xu.mp z]at e;exact pq _ (X4 e)
 unfold qw at pl;cases lst with
 |true =>
  rw[if_pos rfl]at pl;have hlt:l<s.heap.objs.size:=by obtain⟨_,e,_⟩:=pl;exact X4 e
  refine kH (bN pl ⟨s.heap.objs.size,[s.heap.objs.size,l],[s.heap.objs.size],_,its.toArray.size,_,_,λi=>ns.getD i 0,rfl,(Walks.list (A:=X.A.in1) (I.ok.hd hc) _ _ (Xb hlt) its.toArray).toS,⟨⟨_,X6 _ rfl,rfl,rfl⟩,pl.push _⟩,?_,val,λs' t' mv=>fin _ s' t' mv⟩);intro b hb;show b<(s.heap.push _).objs.size;rw[bK];rcases xn.mp hb with z|z
  .rw[z];exact du _
  .rw[xu.mp z];exact d8 hlt
 |false =>
  rw[if_neg xg]at pl;have hlt:l<s.heap.objs.size:=by obtain⟨_,e,_⟩:=pl;exact X4 e
  refine kH (fD pl ⟨s.heap.objs.size,[s.heap.objs.size,l],[s.heap.objs.size],_,its.toArray.size,_,_,λi=>ns.getD i 0,rfl,(Walks.tuple (A:=X.A.in1) (I.ok.hd hc) _ _ (Xb hlt) its.toArray).toS,⟨⟨_,X6 _ rfl,rfl,rfl⟩,pl.push _⟩,?_,val,λs' t' mv=>fin _ s' t' mv⟩);intro b hb;show b<(s.heap.push _).objs.size;rw[bK];rcases xn.mp hb with z|z
  .rw[z];exact du _
  .rw[xu.mp z];exact d8 hlt
end
section
variable{X:Cx}{ρ:Rho}{a b e:ai}{ds:List D}{i j:Int}{pos p p1 p2:aJ}{y z:af}{lo hi:Option ai}{l u:Option Int}
theorem Cv{K:k90}{H:Hp}:∀{ts:List af}{xs:List V},j5 K H (ts.map D.str) xs->xs=ts.map V.str
 |[],_,h=>h
 |t::ts,_,⟨x,r,e,h,l⟩=>by subst e;cases(show x=.str t from h);rw[Cv l];rfl
theorem vq{K:k90}{H:Hp}:∀{ts:List Int}{xs:List V},j5 K H (ts.map D.int) xs->xs=ts.map V.int
 |[],_,h=>h
 |t::ts,_,⟨x,r,e,h,l⟩=>by subst e;cases(show x=.int t from h);rw[vq l];rfl
theorem DE.lenS (ha:DT X ρ a (.str y)) (hy:y.length<=aj) (hm:X.mg "len" = a6) (hg:Gl X "len") (hs:a7 [a] X.env=[(a4,ay a X.env)]):DE X ρ (.Call (.Name "len" p) [a] [] pos) (.int y.length):=λσ H Q R q =>(zq j0n hg hm fU (jb peS jo hs) (by decide) (by decide) hs).to (ha σ H _ R λv H1 g1 e1=>⟨y,by rw[show v=.str y from e1],hy,q _ H1 g1 rfl⟩)
theorem DE.catS(ha:DT X ρ a (.str y))(hb:DT X ρ b (.str z))(hl:y.length+z.length<=aj):DE X ρ (.BinOp a .Add b pos) (.str (y++z)):=λσ H Q R q =>(Yq j37 peS peS).to (ha σ H _ R λv H1 g1 e1=>hb σ H1 _ (R.grow g1) λu H2 g2 e2=>⟨y,z,e1,e2,hl,q _ H2 (g1.trans g2) rfl⟩)
theorem DE.ixC{c:Nat}(ha:DT X ρ a (.str y))(hb:DT X ρ b (.int i))(hy:y.length<=aj)(h:L2.atI y.cps.toList i=a3 c)(hs:Vt b):DE X ρ (.Subscript a b pos) (.str ⟨#[c]⟩):=λσ H Q R q =>(Bd jez peS peS hs).to (ha σ H _ R λv H1 g1 e1=>hb σ H1 _ (R.grow g1) λu H2 g2 e2=>⟨y,i,c,e1,e2,hy,h,q _ H2 (g1.trans g2) rfl⟩)
theorem DE.sliceS(ha:DT X ρ a (.str y))(hl:DP X ρ lo l)(hu:DP X ρ hi u)(hy:y.length<=aj):DE X ρ (.Subscript a (.Slice lo hi a6 p2) pos) (.str (bG y l u)):=λσ H Q R q =>(O2 jd7 peS poS poS).to (ha σ H _ R λv H1 g1 e1=>hl σ H1 _ (R.grow g1) λH2 g2=>hu σ H2 _ (R.grow (g1.trans g2)) λH3 g3=>⟨y,e1,hy,q _ H3 (g1.trans (g2.trans g3)) rfl⟩)
theorem DE.int1 {k:Bool} (ha:DT X ρ a (.bl k)) (hm:X.mg "int" = a6) (hg:Gl X "int") (hs:a7 [a] X.env=[(a4,ay a X.env)]):DE X ρ (.Call (.Name "int" p) [a] [] pos) (.int (if k then 1 else 0)):=λσ H Q R q =>(Wl j6c hg hm boot_int (jb peS jo hs) (by decide) (by decide) hs).to (ha σ H _ R λv H1 g1 e1=>.inr ⟨k,by rw[show v=.bl k from e1],q _ H1 g1 rfl⟩)
theorem DE.sum (lst:Bool) {ns:List Int} (ha:DT X ρ a (D.seq lst (ns.map D.int))) (hm:X.mg "sum" = a6) (hc:X.calm=a5) (hg:Gl X "sum") (hs:a7 [a] X.env=[(a4,ay a X.env)]):DE X ρ (.Call (.Name "sum" p) [a] [] pos) (.int ns.sum):=λσ H Q R q =>
 (zq (j65 hc) hg hm boot_sum (jb peS jo hs) (by decide) (by decide) hs).to (ha σ H _ R λv H1 g1 e1=>by
  obtain⟨t,xs,ev,sq,en⟩:=Zu e1
  subst ev
  rw[vq en]at sq
  exact⟨lst,t,ns,rfl,sq,q _ H1 g1 rfl⟩)
theorem DE.join{sep:af}{ts:List af}{n:Nat}{p0:aJ}(ha:DT X ρ a (.lst (ts.map D.str)))(hok:eW sep ts=a5)
  (hfew:((aK p2 (a7 [a] X.env)).all (λx=>!x.1)&&(bA p2 (aX [] X.env)).all (λx=>x.1.isSome)&&decide (([a]:List ai).length+([]:List aT).length+(if ([]:List aT).isEmpty then 0 else 1)<30))=a5)
  (hbase:aF (.Constant (.str sep) n p0) "join" X.env (ay (.Constant (.str sep) n p0) X.env)=ay (.Constant (.str sep) n p0) X.env)
  (hline:(p1.endLine==p2.line)=a5) (hs:a7 [a] X.env=(a4,ay a X.env)::a7 [] X.env):DE X ρ (.Call (.Attribute (.Constant (.str sep) n p0) "join" p1) [a] [] p2) (.str (dQ sep ts)):=λσ H Q R q =>
 (Uj PySem.F.plainAttrs_str iI PySem.F.type_str_join jba j4t (jb peS jo hs) hbase hfew hline hs rfl).to ⟨rfl,ha σ H _ R λv H1 g1 ⟨t,xs,e,sq,en⟩=>⟨sep,t,ts,rfl,by rw[e],by rw[Cv en]at sq;exact sq,hok,q _ H1 g1 rfl⟩⟩
end
section
variable{prog:au}{w:aA}{A:aB}{lst:Bool}{j t:aa}{its:Array a9}
theorem j3m(hh:A.handled=a6)(hne:t≠j):Draws prog w A j [j,t] its.size (λi v=>its[i]?=a3 v) (λi h=>z9 lst h j t i/\qw lst h t its) where
 live:=λ_ _ st=>by obtain⟨o,e,_⟩:=st.1.obj;exact⟨o,e⟩
 frame:=λ_ h h' st hk=>⟨st.1.stay λo e=>hk j (by simp) o e,by
  have q:=st.2
  unfold qw at q ⊢
  cases lst with
  |true=>rw[if_pos rfl]at q ⊢;exact q.at λo e=>hk t (by simp) o e
  |false=>rw[if_neg xg]at q ⊢;exact q.at λo e=>hk t (by simp) o e⟩
 item:=λi s Q E hi st hQ=>j4b st.1 st.2 (y:=its[i]) (by simp[hi]) λh' hit' hs'=>hQ _ h' s.toks (by simp[hi]) ⟨hit',st.2.ext hs'.extBut hne⟩ hs'
 done:=λs Q E st hE=>Ij hh st.1 st.2 (by simp) hE
theorem j5q{n:Nat}(hh:A.handled=a6)(hne:t≠j)(hn:its[n]?=a6):Draws prog w A j [j,t] n (λi v=>its[i]?=a3 v) (λi h=>i=n/\z9 lst h j t i/\qw lst h t its) where
 live:=λ_ _ st=>by obtain⟨o,e,_⟩:=st.2.1.obj;exact⟨o,e⟩
 frame:=λ_ h h' st hk=>⟨st.1,st.2.1.stay λo e=>hk j (by simp) o e,by
  have q:=st.2.2
  unfold qw at q ⊢
  cases lst with
  |true=>rw[if_pos rfl]at q ⊢;exact q.at λo e=>hk t (by simp) o e
  |false=>rw[if_neg xg]at q ⊢;exact q.at λo e=>hk t (by simp) o e⟩
 item:=λi s Q E hi st hQ=>absurd st.1 (Xb hi)
 done:=λs Q E st hE=>Ij hh st.2.1 st.2.2 hn hE
end
noncomputable abbrev eh2(h:aD)(lst:Bool)(t:aa):aD:=(zh1 h lst t).push { cls:=.type "enumerate",data:=.fields #[.none,.bool a4,.ref h.objs.size,dh 0,.none,.none] }
theorem j8f {lst:Bool} (t:aa) (its:Array a9):jT (cK.«enumerate.__new__» ⟨[.type "enumerate",.ref t],[]⟩) (λ_ R s=>qw lst s.heap t its/\R (.ok (.ret (.ref (zh1 s.heap lst t).objs.size))) { s with heap:=eh2 s.heap lst t }) :=
 .of_wp λprog w A R s h=>by
  obtain⟨hp,g,d,tk,os⟩:=s;obtain⟨h1,h⟩:=h;have hsub:=sub_enumerate;have e1:qw lst (Shared.heap ⟨hp,g,d,tk,os⟩) t its:=h1;have ld:∃o:cC,hp.get? t=a3 o:=by
   unfold qw at e1;cases lst with
   |true=>rw[if_pos rfl]at e1;obtain⟨o,e,_⟩:=e1;exact⟨o,e⟩
   |false=>rw[if_neg xg]at e1;obtain⟨o,e,_⟩:=e1;exact⟨o,e⟩
  obtain⟨o,ho⟩:=ld
  wp_walk using bM ho
  refine wpAny_stack_any λstk=>?_;refine ah ?_;split
  .rename_i cl _ _ _ _ _;cases(cl==eC "enumerate")
   .wp_walk using bM ho,Wn e1
    exact⟨_,rfl,h⟩
   .wp_walk using bM ho,Wn e1
    exact⟨_,rfl,h⟩
  .wp_walk using bM ho,Wn e1
   exact⟨_,rfl,h⟩
noncomputable def Ite(K:k90)(lst:Bool)(t:aa):It :=
 ⟨λi H=>∃xs x,SqB K lst H t xs/\xs[i]?=a3 x,
 λi H v H'=>∃p x,v=.ref p/\H p=a6/\H'=upd H p (.tup [.int (i:Int),x])/\∀xs,SqB K lst H t xs->xs[i]?=a3 x,
 λi H=>∃xs,SqB K lst H t xs/\xs.length<=i⟩
theorem j44{P:au}{w:aA}{K:k90}{es:List ai}{n:Nat}{pos:aJ}{lst:Bool}{z j t:aa}(hzj:z≠j)(hzt:z≠t)(htj:t≠j) :
  Turn P w K (.Tuple es n pos) (Ite K lst t) [z,j] z (λi h=>(∃old,IsEnum h z j (i:Nat) old)/\z9 lst h j t i) where
 mem:=by simp
 obj:=λi h ⟨⟨old,hz⟩,h1⟩ c hc=>by
  simp at hc;rcases hc with rfl|rfl
  .exact⟨_,hz,λv e=>by cases e⟩
  .exact h1.obj
 keep:=λi h h' ⟨⟨old,hz⟩,h1⟩ k=>⟨⟨old,k z (by simp) _ hz⟩,h1.stay λo e=>k j (by simp) o e⟩
 item:=by
  rintro X hP hw hK hc i pins s σ H E I hf ⟨⟨old,hz⟩,h1⟩ ⟨xs,x,sx,hx⟩;subst hP hw hK;obtain⟨us,ru,qu,_⟩:=I.side sx;obtain⟨u,hu,rx⟩:=ru.get hx;have hlt:i<us.toArray.size:=by obtain⟨h,_⟩:=X3.mp hu;simpa using h
  refine wpAny_pyNext_enum_itemD (j3m (A:=X.A.in1) (I.ok.hd hc) htj) hz ⟨h1,qu⟩ hlt hzj (by simp[hzj,hzt]) λv h' tk hv ho st ht sz kp=>⟨_,rfl,?_⟩
  have ev:u=v:=by
   have:us.toArray[i]?=a3 u:=by simpa using hu
   rw[this]at hv;exact aw hv
  subst ev;refine wpAny_letOwnedTupleGo_enum (s:={ s with heap:=h',toks:=tk+1 }) ho λh'' z'' sb=>?_
  replace sb:cf z h' h'':=sb
  have zlt:z<s.heap.objs.size:=X4 hz;have kp':∀c o,c∉[z,j]->s.heap.get? c=a3 o->h''.get? c=a3 o:=λc o nc e=>by simp at nc;exact sb.extBut _ _ nc.1 (kp c o nc.1 nc.2 e)
  have pt:hZ h'' s.heap.objs.size [.int i tk,u].toArray:=⟨_,sb.extBut _ _ (T5 zlt) ht,rfl,_,rfl⟩
  have I2:=(I.chgT hf kp' (xs:=[.int (i:Int),x]) (.cons ⟨tk,rfl⟩ (.cons rx .nil)) (by show 2<=aj;decide) pt (Zf.of (sb.extBut _ _ (T5 zlt) ht))).tok (tk+1);refine⟨.ref s.heap.objs.size,_,I2,rfl,⟨_,x,rfl,I.fresh,rfl,λws hw=>by rw[I.side_inj hw sx];exact hx⟩,⟨⟨u,?_⟩,st.1.ext sb.extBut (bJ hzj)⟩,λc hc=>?_⟩
  .have e:((i+1:Nat):Int)=(i:Int)+1:=by push_cast;rfl
   rw[e];exact z''
  .obtain⟨o,e⟩:∃o,s.heap.get? c=a3 o:=by
    simp at hc;rcases hc with rfl|rfl
    .exact⟨_,hz⟩
    .obtain⟨o,e,_⟩:=h1.obj;exact⟨o,e⟩
   rw[je (Xb (X4 e))];exact(hf c hc).1
 done:=by
  rintro X hP hw hK hc i pins s σ H E I hf ⟨⟨old,hz⟩,h1⟩ ⟨xs,sx,hend⟩;subst hP hw hK;obtain⟨us,ru,qu,_⟩:=I.side sx;have e1:=ru.length;have hn:us.toArray[i]?=a6:=by simp;omega
  refine wpAny_pyNext_enum_endD (j5q (A:=X.A.in1) (I.ok.hd hc) htj hn) hz ⟨rfl,h1,qu⟩ λh' kp=>⟨rfl,I.chg hf λc o nc e=>?_⟩
  simp at nc;exact kp c o nc.2 e
 self:=λ_ _ _ _ _ ⟨⟨old,hz⟩,_⟩ h=>kB hz h
section
variable{X:Cx}{ρ:Rho}{a b:ai}{es:List ai}{n:Nat}{pos p q1 q2:aJ}{ds ds':List D}{lst:Bool}
noncomputable def zb(ds:List D):List D:=ds.zipIdx.map λp=>D.tup [.int (p.2:Int),p.1]
theorem Va{i:Nat}:(zb ds)[i]?=(ds[i]?).map λd=>D.tup [.int (i:Int),d]:=by unfold zb;rw[xx,ir];cases ds[i]?<;>simp
theorem j5i{K:k90}{F:Hp}{t:aa}{xs:List V}(s1:SqB K lst F t xs)(e1:j5 K F ds xs):U5 K F (Ite K lst t) (zb ds):=λi H A g hA=>by
 have s1':SqB K lst H t xs:=jq.seqB (g.seqB s1);have hl:(zb ds).length=ds.length:=by unfold zb;rw[kj,bY]
 refine⟨λh=>?_,λh=>⟨xs,s1',?_⟩,λv H' ⟨p,x,ev,np,eH,hx⟩=>?_⟩
 .rw[hl]at h;obtain⟨x,hx,_⟩:=e1.get (kh h);exact⟨xs,x,s1',hx⟩
 .rw[hl]at h;rw[e1.length];exact h
 .subst eH;refine⟨j7 np,λd hd=>?_⟩;rw[Va]at hd;cases z:ds[i]? with
  |none=>rw[z]at hd;cases hd
  |some d1 =>rw[z]at hd;cases hd;obtain⟨x',hx',ex⟩:=e1.get z;have q1:=hx xs s1';rw[hx']at q1;have q1:=aw q1;subst q1;have pA:p∉A:=λz=>hA p z np;have gg:j0 F (del (upd H p (.tup [.int (i:Int),x'])) A):=g.trans (jj (j7 np));exact⟨p,[.int (i:Int),x'],ev,.inl (.inl (by rw[j6 pA];exact jc)),.int (i:Int),[x'],rfl,rfl,x',[],rfl,ex.mono gg,rfl⟩
theorem DI.enum (lst:Bool) (ha:DE X ρ a (D.seq lst ds)) (hm:X.mg "enumerate" = a6) (hg:Gl X "enumerate") (hs:a7 [a] X.env=[(a4,ay a X.env)]):DI X ρ (.Tuple es n q1) (.Call (.Name "enumerate" p) [a] [] pos) (zb ds):=λσ H R r q pins s I=>by
 have args:Mx X [a] σ H (λvs H'=>∃v,vs=[v]/\j0 H H'/\Enc X.K (del H' (owns ρ)) (D.seq lst ds) v) :=
  (jb peS jo hs).to (ha σ H _ r λv H1 g1 e1=>⟨v,rfl,g1,e1⟩)
 refine Call_ (Z8 I hg hm boot_enumerate (callWith_type1 (thn (args pos pins s I) λus s1 h1=>?_) hs rfl));obtain⟨vs,H1,I1,r1,v,ev,g1,e1⟩:=h1;subst ev;obtain⟨t,xs,et,sq,en⟩:=Zu e1;subst et;obtain⟨u1,eu,ru1⟩:=r1.one;subst eu;cases ru1;obtain⟨w1,rw1,qw1,_⟩:=I1.side (jq.seqB sq);refine callType_new F.called_enumerate (by decide) (F.typeCall_enumerate_1 _) (F.newCall_enumerate_1 _) (λobj=>iZ obj _) F.entry_enumerate_new (j8f (lst:=lst) t w1.toArray) ⟨qw1,?_⟩;have z1:(zh1 s1.heap lst t).objs.size=s1.heap.objs.size+1:=bK ..;have b2:(eh2 s1.heap lst t).get? (zh1 s1.heap lst t).objs.size=a3 _:=X6 _ rfl;have b1:(eh2 s1.heap lst t).get? s1.heap.objs.size=a3 _:=xj _ (X6 _ rfl);have kp:∀c o,s1.heap.get? c=a3 o->(eh2 s1.heap lst t).get? c=a3 o:=λc o e=>xj _ (xj _ e);show _/\_;rw[z1]at b2 ⊢;have I2:Inv X pins σ H1 { s1 with heap:=eh2 s1.heap lst t }:=I1.kept (t':=s1.toks) kp;have lt1:t<s1.heap.objs.size:=by
  unfold qw at qw1;cases lst with
  |true=>rw[if_pos rfl]at qw1;obtain⟨_,e,_⟩:=qw1;exact X4 e
  |false=>rw[if_neg xg]at qw1;obtain⟨_,e,_⟩:=qw1;exact X4 e
 have side:z9 lst (eh2 s1.heap lst t) s1.heap.objs.size t 0:=by
  unfold z9;cases lst with
  |true=>rw[if_pos rfl];exact⟨_,b1,rfl,rfl⟩
  |false=>rw[if_neg xg];exact⟨_,b1,rfl,rfl⟩
 refine⟨⟨_,b2,rfl⟩,kB (s:={ s1 with heap:=eh2 s1.heap lst t }) b2 ?_⟩;refine⟨_,_,_,Ite X.K lst t,H1,rfl,I2,j44 (j:=s1.heap.objs.size) (Nat.succ_ne_self _) (T5 (d8 lt1)) (Xb lt1),⟨⟨_,b2⟩,side⟩,λc hc=>?_,q _ H1 g1 (j5i sq en)⟩;have hc':c=s1.heap.objs.size+1\/c=s1.heap.objs.size:=by simpa using hc
 have hge:s1.heap.objs.size<=c:=by rcases hc' with e|e<;>rw[e]<;>first|exact X5 _|exact Nat.le_add_right _ _
 obtain⟨f0,f1,f2,f3,f4,f5⟩:=I1.fpOk hge (I1.hok.fresh hge);exact⟨f0,f1,f2,f3,f4,f5⟩
end
section
variable{X:Cx}
theorem j7j:OpR X (b0 .FloorDiv) (rI (λ_ j=>0<j/\j<18446744073709551616) λi j=>.int (i/j)):=opI λi j _ _ _ _ _ hc q=>by
 have e:i/j=i.fdiv j:=by rw[gk _ nofun]
 refine floordiv_int nofun (by rw[<-e];exact q) (.inl (PyProof.noPylong_of_log2 ?_))
 have h2:(2:Nat)^64=18446744073709551616:=by decide
 have:=(lP (n:=j.natAbs) (k:=64) nofun).mpr (by rw[h2];omega);omega
theorem j57 (hu:X.A.units+100<aI):MtR X "list.count" (λx vs H Q=>∃t xs ds d y,x=.ref t/\vs=[y]/\SqL X.K H t xs/\j5 X.K H ds xs/\Enc X.K H d y/\D.depL ds<=97/\d.dep<10000/\Q (.int (ds.countP λe=>deq e d)) H):=by
 rintro pins s σ H x vs v us Q I rx rv ⟨t,xs,ds,d,y,e,e',sq,l,en,hd,nd,q⟩;subst e e';cases rx;obtain⟨u,eu,ru⟩:=rv.one;subst eu;obtain⟨its,ri,⟨⟨cl,dd,da,sl⟩,n,h1,h2,h4,h3⟩,_⟩:=I.list sq;have h2:cl=.type "list":=h2;have h3:da=.seq its.toArray n:=h3;subst h2 h3;refine bc ie ⟨_,h1,rfl⟩ F.entry_list_count (F.args_list_count_2 _ _) (SeqAt.list_countAt t its.toArray n dd sl u (eqW X H d)) ⟨h1,λy hy=>Zo (n:=97) I en ru nd (by show X.A.units+1+97<aI;omega) hd l ri y (by simpa using hy),?_⟩;have ev:(its.toArray.toList.countP (eqW X H d):Nat)=ds.countP λe=>deq e d:=by rw[dZ];exact Ux I nofun l ri
 rw[ev];exact⟨.int _,H,I.tok _,⟨_,rfl⟩,q⟩
end
section
variable{X:Cx}{ρ:Rho}{a b e:ai}{d d':D}{ds:List D}{i j:Int}{pos p p1 p2:aJ}{P:Po}
theorem DE.fdivB(ha:DT X ρ a (.int i))(hb:DT X ρ b (.int j))(h:0<j/\j<18446744073709551616):DE X ρ (.BinOp a .FloorDiv b pos) (.int (i/j)):=DE.arI (g:=λi j=>i/j) j7j ha hb h
theorem DE.countL (hu:X.A.units+100<aI) (ha:DT X ρ a (.lst ds)) (hb:DT X ρ b d) (hd:D.depL ds<=97) (nd:d.dep<10000) (hbase:aF a "count" X.env (ay a X.env)=ay a X.env)
  (hfew:((aK p2 (a7 [b] X.env)).all (λx=>!x.1)&&(bA p2 (aX [] X.env)).all (λx=>x.1.isSome)
   && decide (([b]:List ai).length+([]:List aT).length+(if ([]:List aT).isEmpty then 0 else 1)<30))=a5) (hline:(p1.endLine==p2.line)=a5)
  (hs:a7 [b] X.env=(a4,ay b X.env)::a7 [] X.env):DE X ρ (.Call (.Attribute a "count" p1) [b] [] p2) (.int (ds.countP λe=>deq e d)):=λσ H Q R q =>
 (Uj Tn ie PySem.F.type_list_count (j57 hu) peS (jb peS jo hs) hbase hfew hline hs rfl).to (ha σ H _ R λv H1 g1 ⟨t,xs,e,sq,l⟩=>⟨by rw[e];exact .inl ⟨rfl,xs,sq⟩,hb σ H1 _ (R.grow g1) λu H2 g2 e2 =>
  ⟨t,xs,ds,d,u,e,rfl,g2.seq sq,l.mono g2,e2,hd,nd,q _ H2 (g1.trans g2) rfl⟩⟩)
end
noncomputable def ddS(acc:List af)(v:af):List af:=if acc.any (· == v)=a5 then acc else acc++[v]
noncomputable def dd(ts:List af):List af:=ts.foldl ddS []
section
variable{P:au}{w:aA}{A:aB}{I S:aa}{fp wr:List aa}{Gn:Array eY->Array eY->Prop}{Pv:Nat->a9->Prop}{St:Nat->ae->Prop}{ts:List af}
end
section
variable{P:au}{w:aA}{A:aB}{E:k91}{s:ae}
end
section
variable{X:Cx}{ρ:Rho}{a:ai}{p p1 p2 pos:aJ}
end
section
variable{prog:au}{w:aA}{A:aB}{E:k91}{s:ae}{d it vw:aa}{od:cC}{es:Array gj}{ep i:Nat}{ok ov:a9}
end
noncomputable def jf3(ks:List (List Int))(ds:List D):List D:=(ks.zip ds).map λp=>D.tup [.tup (p.1.map D.int),p.2]
section
variable{X:Cx}{ρ:Rho}{a b:ai}{es:List ai}{n:Nat}{pos p p1 p2 q1:aJ}{ks:List (List Int)}{ds:List D}{k:List Int}
theorem j03{P:au}{w:aA}:∀{ks:List Int}{us:List a9},Vals (ks.map V.int) us->ItemsAre (fb P w) ks us
 |[],_,r=>by rw[Pr]at r;cases r;exact .nil
 |k::ks,_,r=>by
  rw[xr]at r;cases r with
  |cons h t =>
   obtain⟨tk,e⟩:=(show ∃t,_=b8 k t from h)
   subst e;exact .cons (by simp[fb,kz]) (j03 t)
theorem Fy{pins:k92}{σ:St}{H:Hp}{s:ae}{t:aa}(I:Inv X pins σ H s)(sq:SqT X.K H t (k.map V.int)):(f9 (fb X.prog X.w)).is s.heap k t:=by obtain⟨its,rv,⟨o,e1,e2,m,e3⟩,_⟩:=I.tuple sq;exact⟨o,its.toArray,m,e1,e2,e3,by simpa using j03 rv⟩
theorem j23{pins:k92}{σ:St}{H:Hp}{s:ae}{d:aa}{xs:List (List Int×aa×a9)}{ep:Nat}(I:Inv X pins σ H s)(hx:H d=a3 (.dI xs ep))(kt:∀x∈xs,SqT X.K H x.2.1 (x.1.map V.int)) :
  (d==dS)=a4/\xs.length<=aj/\s.heap.DictOfH (f9 (fb X.prog X.w)) d xs:=by
 obtain⟨z1,z2,z3,od,en,h1,h2,h3,h4⟩:=(show ji X.prog X.w H s.heap d (.dI xs ep)from I.hok _ _ hx)
 exact⟨z2,z1,od,en,ep,h1,h2,h3,h4,λx hx=>Fy I (kt x hx),z3⟩
theorem j6g{xs:List (List Int×aa×a9)}:(jR xs k).isSome=(xs.map λx=>x.1).contains k:=by
 induction xs with
 |nil=>rfl
 |cons x xs ih =>
  unfold jR at ih ⊢;rw[Option.isSome_map]at ih ⊢;rw[jY,xr,iV];by_cases z:x.1=k
  .simp[z]
  .have z':(k==x.1)=a4:=by simp;exact λe=>z e.symm
   rw[decide_eq_false z,z',eK];exact ih
theorem any_range:∀bs:List Bool,(ar bs.length).any (λi=>(bs[i]?).getD a5)=bs.any id
 |[]=>rfl
 |b::bs=>by rw[xq,cj,S7,List.any_map,S7,<-any_range bs];rfl
theorem j19 (hc:X.calm=a5):Ja X (.builtin "any") (λxs H Q=>∃(l:aa)(bs:List Bool),xs=[.ref l]/\SqL X.K H l (bs.map V.bl)/\Q (.bl (bs.any id)) H):=by
 intro pins s σ H xs us Q I r ⟨l,bs,e,sq,q⟩;subst e;obtain⟨u,eu,ru⟩:=vals1 r;subst eu;cases ru;obtain⟨its,rv,pl,_⟩:=I.list sq;have hlt:l<s.heap.objs.size:=by obtain⟨_,_,e,_⟩:=pl;exact X4 e
 have hl:its.length=bs.length:=by rw[<-rv.length,kj]
 refine call_any_walk (bN pl.isList ⟨s.heap.objs.size,[s.heap.objs.size,l],[s.heap.objs.size],its.toArray.size,_,_,λi=>(bs[i]?).getD a5,rfl,Walks.list (A:=X.A.in1) (I.ok.hd hc) _ _ (Xb hlt) its.toArray,⟨⟨_,X6 _ rfl,rfl,rfl⟩,pl.isList.push _⟩,?_,λh' tk kp=>?_⟩)
 .intro i v s' Q' E' hv hq;have hi:i<its.length:=by have:=Array.getElem?_eq_some_iff.mp hv;obtain⟨h,_⟩:=this;simpa using h
  have hb:i<bs.length:=by omega
  obtain⟨w1,hw,rw1⟩:=rv.get (x:=.bl bs[i]) (i:=i) (by rw[xx,kh hb];rfl);have:its.toArray[i]?=a3 w1:=by simpa using hw
  rw[this]at hv;cases hv;cases rw1;simp only[kh hb,d7]at hq;exact bh hq
 .have ev:(ar its.toArray.size).any (λi=>(bs[i]?).getD a5)=bs.any id:=by rw[X7,hl];exact any_range bs
  rw[ev];refine⟨.bl _,H,I.kept (t':=tk) λb o e=>kp b o ?_ (xj _ e),rfl,q⟩;intro z;rw[xu.mp z]at e;exact pq _ (X4 e)
theorem DE.any {bs:List Bool} (ha:DT X ρ a (.lst (bs.map D.bl))) (hm:X.mg "any" = a6) (hc:X.calm=a5) (hg:Gl X "any") (hs:a7 [a] X.env=[(a4,ay a X.env)]):DE X ρ (.Call (.Name "any" p) [a] [] pos) (.bl (bs.any id)):=λσ H Q R q =>(zq (j19 hc) hg hm boot_any (jb peS jo hs) (by decide) (by decide) hs).to (ha σ H _ R λv H1 g1 ⟨l,xs,e,sq,en⟩=>⟨l,bs,by rw[e],by rw[Og en]at sq;exact sq,q _ H1 g1 rfl⟩)
end
def jhg:TE:=λ_ H Q=>∀p,H p=a6->Q (.ref p) (upd H p (.dI [] 0))
def jho(K:k90)(td ty tv:TE):TS:=λD σ H=>tv σ H λv H1=>td σ H1 λx H2=>ty σ H2 λy H3 =>
 ∃(a b:aa)(xs:List (List Int×aa×a9)) (ep:Nat) (k:List Int),x=.ref a/\H3 a=a3 (.dI xs ep)/\(∀x∈xs,SqT K H3 x.2.1 (x.1.map V.int))/\y=.ref b/\SqT K H3 b (k.map V.int) /\
  (xs.map λx=>x.1).contains k=a4/\xs.length<aj/\∀u ep',RelV v u->D.nx σ (upd H3 a (.dI (xs++[(k,b,u)]) ep'))
section
variable{X:Cx}{pos pos':aJ}{o i value:ai}{td ty tv:TE}
theorem Inv.bigD{pins:k92}{σ:St}{H:Hp}{s:ae}(I:Inv X pins σ H s):dS<s.heap.objs.size:=by have h:ak<s.heap.objs.size:=(I.mod.glob.keeps I.bk).lt;exact Pg (by decide) h
theorem jb0:PE X (.Dict [] [] pos) jhg:=λpins s σ H Q I h =>
 wpAny_Dict_empty ⟨.ref s.heap.objs.size,_,I.laid (a:=s.heap.objs.size) (o:=.dI [] 0) (t':=s.toks) (λ_ _ q=>xj _ q) (X5 _)
  ⟨T6 _,beq_eq_false_iff_ne.mpr (bJ (Xb I.bigD)),dO,_,#[],X6 _ rfl,⟨rfl,rfl,rfl⟩,rfl,rfl⟩,rfl,h _ (I.hok.fresh (X5 _))⟩
theorem jaw(hu:X.A.units+100<aI)(ho:PE X o td)(hi:PE X i ty)(hv:PE X value tv)(hs:aG value (a3 (.Subscript o i pos')) pos.line X.env=pure a4) :
  PS X (.Assign [.Subscript o i pos'] value pos) (jho X.K td ty tv):=by
 intro pins s σ H D I h;refine wpAny_Assign_Subscript (thn (hv pins s σ H _ I h) λr s1 ⟨v,H1,I1,rv,q1⟩=>thn (ho pins s1 σ H1 _ I1 q1) λu s2 ⟨x,H2,I2,rx,q2⟩=>thn (hi pins s2 σ H2 _ I2 q2) λiv s3 ⟨y,H3,I3,ry,hq⟩=>?_) hs;obtain⟨a,b,xs,ep,k,ex,hx,kt,ey,sq,nk,hl,q⟩:=hq;subst ex ey;cases rx;cases ry;obtain⟨lo,hz,dd⟩:=j23 I3 hx kt;refine wpAny_setItem_heap (hsz:=hz) (ko nofun) (Fy I3 sq) dd λh' dd' sb=>?_;have na:jR xs k=a6:=by
  have:=j6g (xs:=xs) (k:=k);rw[nk]at this;cases z:jR xs k with
  |none=>rfl
  |some _=>rw[z]at this;cases this
 rw[storedH_new na]at dd';obtain⟨ob,es,ep',w1,w2,w3,w4,w5,w6⟩:=dd';refine⟨σ,_,I3.write (x:=a) (e:=a) (o:=.dI (xs++[(k,b,r)]) ep') (t':=s3.toks+(f9 (fb X.prog X.w)).draws k) (by rw[hx];exact True.intro) (.inl rfl) (λc z nc e=>(sb.2 c nc).trans e) ⟨ob,w1⟩ ?_,q r ep' rv⟩;exact⟨by simp;omega,lo,w6,ob,es,w1,w2,w3,w4⟩
end
section
variable{X:Cx}{ρ:Rho}{it e:ai}{P:Po}{ds:List D}{x t y:Nat}{nx nt ny:af}{n8:Nat}{p1 p2 p3 p4 p5 p6 p7 p8 p9 p10 p11 p12 p13 p14 p15 p16 p17 p18:aJ}
theorem ja1{H:Hp}{a:aa}{o:HO}(h:H a=a3 o):H=upd (del H [a]) a o:=funext λb=>by
 by_cases z:b=a
 .subst z;rw[jc];exact h
 .rw[je z,j6 (by simpa using z)]
theorem j0e{H:Hp}{a:aa}{o:HO}(h:H a=a6):del (upd H a o) [a]=H:=funext λb=>by
 by_cases z:b=a
 .subst z;rw[qt (by simp)];exact h.symm
 .rw[j6 (by simpa using z),je z]
theorem j1r{H F:Hp}{a:aa}{o:HO}(h:H a=a3 o):mrg [a] H F=upd F a o:=funext λb=>by
 by_cases z:b=a
 .subst z;rw[J6 (by simp),jc];exact h
 .rw[jk (by simpa using z),je z]
end
noncomputable def Qt:List (List Int)->List D->List Int->Option D
 |k'::ks,d::ds,k=>if k'=k then a3 d else Qt ks ds k
 |_,_,_=>a6
theorem j24{K:k90}{H:Hp}{k:List Int}{d:D}:∀{xs:List (List Int×aa×a9)} {ds:List D} {vs:List V},Vals vs (xs.map λx=>x.2.2)->j5 K H ds vs->Qt (xs.map λx=>x.1) ds k=a3 d->∃p v,jR xs k=a3 p/\RelV v p.2/\Enc K H d v
 |[],_,_,_,_,h=>by cases h
 |x::xs,[],_,_,_,h=>by cases h
 |x::xs,d'::ds,_,rv,⟨v,r,e,h1,l⟩,h=>by
  subst e;rw[xr]at rv h;unfold jR;rw[jY];cases rv with
  |cons a b =>
   rw[Qt]at h;by_cases z:x.1=k
   .rw[if_pos z]at h;cases h;rw[decide_eq_true z];exact⟨x.2,v,rfl,a,h1⟩
   .rw[if_neg z]at h;rw[decide_eq_false z];exact j24 b l h
section
variable{X:Cx}{ρ:Rho}{a b:ai}{d:D}{ds:List D}{ks:List (List Int)}{k:List Int}{pos p p1 p2 p3:aJ}
theorem jic(hu:X.A.units+100<aI):IxR X (λx y H Q=>∃(d:aa)(xs:List (List Int×aa×a9)) (ep:Nat) (t:aa) (k:List Int) (q:aa×a9) (v:V),x=.ref d/\y=.ref t/\H d=a3 (.dI xs ep)/\(∀x∈xs,SqT X.K H x.2.1 (x.1.map V.int))/\SqT X.K H t (k.map V.int)/\jR xs k=a3 q/\RelV v q.2/\Q v H):=by intro value slice pins s σ H x y v u Q I rx ry h hs;obtain⟨d,xs,ep,t,k,q,w,rfl,rfl,hx,kt,sq,hq,rq,hQ⟩:=h;cases rx;cases ry;obtain⟨lo,hz,dd⟩:=j23 I hx kt;exact m6 dd.typeIs slot_dict_getitem.lookup (wpAny_getItem_heap (ko nofun) (Fy I sq) dd hq ⟨w,H,I.tok _,rq,hQ⟩) hs
theorem DE.dget(hu:X.A.units+100<aI)(ha:DE X ρ a (.dct ks ds))(hb:DT X ρ b (.tup (k.map D.int)))(h:Qt ks ds k=a3 d)(hs:Vt b):DE X ρ (.Subscript a b pos) d:=λσ H Q R q =>
 (Bd (jic hu) peS peS hs).to (ha σ H _ R λv H1 g1 ⟨c,xs,ep,vs,e,hx,ek,kt,rv,l⟩=>hb σ H1 _ (R.grow g1) λu H2 g2 ⟨t,ys,e2,sq,l2⟩=>by
  rw[vq l2]at sq
  subst ek
  obtain⟨q',v',z1,z2,z3⟩:=j24 rv (l.mono (jj g2)) h
  exact⟨c,xs,ep,t,k,q',v',e,e2,g2 _ _ (of_del hx).2,λx hx=>g2.seqT (jq.seqT (kt x hx)),sq,z1,z2,q v' H2 (g1.trans g2) z3⟩)
end
section
variable{prog:au}{w:aA}{A:aB}{E:k91}{s:ae}{d it vw:aa}{od:cC}{es:Array gj}{ep i:Nat}
theorem jcc {Q:k91} (ht:s.TypeIs (.ref d) "dict") (lo:(d==dS)=a4)
  (q:Q (.ref s.heap.objs.size) { s with heap:=s.heap.push { cls:=.type "dict_values",data:=.fields #[.ref d] } }):ao (ax prog w) A (call (.builtin "dict.values") [.ref d]) Q E s:=by
 refine br gY ht F.entry_dict_values ?_ (F.args_dict_values_1 _);unfold cK.«dict.values»;refine a8 ?_;unfold Builtin.Dict.noArgs;refine a8 (wpAny_notOrdered_dict ht ?_);show ao _ _ (pure d) _ _ s;refine ah ?_;show ao _ _ (Builtin.Dict.showsAll d >>= _) _ _ s;unfold Builtin.Dict.showsAll;rw[if_neg (λz=>by rw[lo]at z;cases z)];exact a8 (ah (a8 (aH (ah ⟨_,rfl,q⟩))))
theorem jcb{Q:k91}(hv:s.heap.IsValuesView vw d)(ho:s.heap.get? d=a3 od)(hd:od.data=.dict es ep)
  (q:Q (.ref s.heap.objs.size) { s with heap:=s.heap.push { cls:=.type "dict_valueiterator",data:=.fields #[.ref d,.int 0 0,.int es.size 0,.int ep 0] } }) :
  ao (ax prog w) A (j3 (.ref vw)) Q E s:=by
 obtain⟨oz,z1,z2,z3⟩:=id hv;refine wpAny_pyIter_slot hv.typeIs ij (br ij hv.typeIs F.entry_dict_values_iter ?_ (F.args_dict_values_iter_1 _));unfold cK.«dict_values.__iter__»;refine a8 (ah ?_);refine a8 ?_;unfold jG;refine a8 (bV z1 z3 (x:=.ref d) rfl (ah (a8 ?_)));unfold jF;refine a8 (fQ ho hd (a8 (gC ho hd ?_)));have own:bW "dict_valueiterator" = a4:=by decide
 simp only[own,Pa,if_false];refine aH (ah ⟨_,rfl,"dict_valueiterator",_,⟨_,X6 _ rfl,rfl⟩,Pz.lookup,?_⟩);simpa [dh]using q
theorem jca{e:gj}{Q:Option a9->ae->Prop}(hit:s.heap.IsValIter it d i es.size ep)(ho:s.heap.get? d=a3 od)(hd:od.data=.dict es ep)(he:es[i]?=a3 e)
  (hQ:∀h',h'.IsValIter it d (i+1) es.size ep->cf it s.heap h'->Q (a3 e.val) { s with heap:=h' }):ao (ax prog w) A (eP (.ref it)) Q E s:=by
 obtain⟨o,hoI,hc,hdI⟩:=id hit;unfold eP;refine a8 (iB (bu (name:=aU "__next__") hit.typeIs Pz
  (br Pz hit.typeIs fK ?_ (fC _))))
 refine a8 (ah ?_);refine a8 ?_;refine a8 ?_
 first|refine a8 (bC hit.typeIs (ah ?_))|refine a8 (cc hit.typeIs (ah ?_))
 refine a8 (lV hoI hdI ?_);have hown:bW "dict_valueiterator" = a4:=by decide
 simp only[hown,Pa,if_false];show ao _ _ (if (az d==aR)=a5 then _ else _) _ _ s;rw[if_neg (λz=>by cases z)];refine a8 (ah ?_);refine a8 (fQ ho hd ?_);rw[if_neg (by simp)];refine a8 (ah ?_);refine a8 (gC ho hd ?_);rw[if_neg (by simp)];refine ah ?_;simp only[show ¬((i:Int)<0)from by omega,if_false,Xm,he];refine a8 ?_
 first|refine a8 (bC hit.typeIs (ah ?_))|refine a8 (cc hit.typeIs (ah ?_))
 refine a8 (eF hit.typeIs ?_);show ao _ _ (setField (.ref it) 1 (dh ((i:Int)+1)) >>= _) _ _ s;refine a8 (eO hoI hdI (by simp) ?_);have hit':(s.heap.update it (gy (·.setIfInBounds 1 (dh ((i:Int)+1))))).IsValIter it d (i+1) es.size ep :=
  ⟨_,gO _ hoI (ib (cT hdI _)),(jE ..).trans hc,by rw[cT hdI];simp[dh]⟩
 refine a8 (fj ?_);refine a8 (eF (s:={ s with heap:=s.heap.update it (gy (·.setIfInBounds 1 (dh ((i:Int)+1)))) }) hit'.typeIs ?_);refine a8 (eF (s:={ s with heap:=s.heap.update it (gy (·.setIfInBounds 1 (dh ((i:Int)+1)))) }) hit'.typeIs ?_);show ao _ _ (pure e.val) _ _ _;exact ah (ah ⟨_,rfl,ah (hQ _ hit' (T4 ..))⟩)
theorem jg2{Q:Option a9->ae->Prop}(hh:A.handled=a6)(hit:s.heap.IsValIter it d i es.size ep)(ho:s.heap.get? d=a3 od)(hd:od.data=.dict es ep)(hge:es.size<=i)
  (hQ:∀h',dM it s.heap h'->Q a6 { s with heap:=h' }):ao (ax prog w) A (eP (.ref it)) Q E s:=by
 obtain⟨o,hoI,hc,hdI⟩:=id hit;unfold eP;refine a8 (iB (bu (name:=aU "__next__") hit.typeIs Pz
  (br Pz hit.typeIs fK ?_ (fC _))))
 refine a8 (ah ?_);refine a8 ?_;refine a8 ?_
 first|refine a8 (bC hit.typeIs (ah ?_))|refine a8 (cc hit.typeIs (ah ?_))
 refine a8 (lV hoI hdI ?_);have hown:bW "dict_valueiterator" = a4:=by decide
 simp only[hown,Pa,if_false];show ao _ _ (if (az d==aR)=a5 then _ else _) _ _ s;rw[if_neg (λz=>by cases z)];refine a8 (ah ?_);refine a8 (fQ ho hd ?_);rw[if_neg (by simp)];refine a8 (ah ?_);refine a8 (gC ho hd ?_);rw[if_neg (by simp)];refine ah ?_;simp only[show ¬((i:Int)<0)from by omega,if_false,Xm,Array.getElem?_eq_none hge];refine a8 ?_
 first|refine a8 (bC hit.typeIs (ah ?_))|refine a8 (cc hit.typeIs (ah ?_))
 show ao _ _ (setField (.ref it) 0 .none >>= _) _ _ s;refine a8 (eO hoI hdI (by simp) ?_);show ao _ _ (lX (.type "StopIteration") [] >>= _) _ _ _;refine a8 ?_;simp only[lX,newTuple];refine a8 (aH ?_ (by size_fits));refine a8 (m:=eT _ _) (gp (a:=aR) (by first|rfl|(simp only[eT];rfl)) ?_);refine aH ?_ (by size_fits);simp only[raiseNew];refine a8 (m8 ?_);rw[show A.in1.handled=a6 from hh];refine a8 (ah (wpAny_throw ?_));refine a8 (wpAny_isInstance (T:="StopIteration") (b:=a5) ⟨_,X6 _ rfl,rfl⟩ isSubtype_stop ?_);exact ah (hQ _ (((T4 ..).extBut.push _).push _))
theorem j8j(hh:A.handled=a6)(I:aa)(hne:d≠I)(hd:od.data=.dict es ep):Walks prog w A I [I,d] [I] es.size (λi v=>∃e,es[i]?=a3 e/\v=e.val) (λi h=>h.IsValIter I d i es.size ep/\h.get? d=a3 od) where
 sub:=λb hb=>by simp at hb;simp[hb]
 frame:=λ_ _ _ st hk=>⟨let ⟨o,ho,x⟩:=st.1;⟨o,hk I (by simp) o ho,x⟩,hk d (by simp) _ st.2⟩
 item:=λi s Q E hi st hQ=>by refine jca st.1 st.2 hd (bQ hi) λh' hit' hs'=>?_;exact hQ _ h' s.toks ⟨_,bQ hi,rfl⟩ ⟨hit',hs'.extBut _ _ hne st.2⟩ λb o hb e=>hs'.extBut b o (λh=>hb (by simp[h])) e
 done:=λs Q E st hQ=>jg2 hh st.1 st.2 hd (X5 _) λh' he'=>hQ h' s.toks λb o hb e=>he' b o (λh=>hb (by simp[h])) e
 self:=λ_ _ _ _ st hQ=>wpAny_pyIter_valiter st.1 hQ
theorem jg1 (hd:od.data=.dict es ep):fw prog w "dict_values" vw d es.size (λi v=>∃e,es[i]?=a3 e/\v=e.val) (λh=>h.IsValuesView vw d/\h.get? d=a3 od) where
 type:=λ_ hm=>hm.1.typeIs
 there:=λ_ hm=>⟨let ⟨_,ho,_⟩:=hm.1;X4 ho,X4 hm.2⟩
 keep:=λ_ _ hm hk=>⟨let ⟨o,ho,x⟩:=hm.1;⟨o,hk vw (.inl rfl) o ho,x⟩,hk d (.inr rfl) _ hm.2⟩
 notList:=by decide
 notTuple:=by decide
 hint:=λ_ _ _ _ hm hq=>W.kdl_hint_values hm.1.typeIs hq
 iter:=λ_ _ hh hm=>⟨_,_,(λ_ _ hq=>jcb hm.1 hm.2 hd hq),j8j hh _ (Xb (X4 hm.2)) hd,⟨⟨_,X6 _ rfl,rfl,rfl⟩,xj _ hm.2⟩⟩
end
section
variable{prog:au}{w:aA}{A:aB}{E:k91}{s:ae}{T:String}{r d:aa}{n:Nat}{P:Nat->a9->Prop}{OK:aD->Prop}
theorem j18{Q:List a9->ae->Prop}(K:fw prog w T r d n P OK)(hh:A.handled=a6)(hok:OK s.heap)(hn:n<=aj)
  (hQ:∀(h':aD)(tk:Nat)(acc:Array a9),(∀b o,s.heap.get? b=a3 o->h'.get? b=a3 o)->kI P acc n->Q acc.toList { s with heap:=h',toks:=tk }):ao (ax prog w) A (collect (.ref r)) Q E s:=by
 have hlt:=K.there _ hok;have hS:(s.heap.push { cls:=.type "list",data:=.seq ([]:List a9).toArray }).get? s.heap.objs.size=a3 { cls:=.type "list",data:=.seq ([]:List a9).toArray }:=X6 _ rfl;have key:∀R:eV->ae->Prop,(∀(h':aD)(tk:Nat)(acc:Array a9)(c:Nat),(∀b o,s.heap.get? b=a3 o->h'.get? b=a3 o)->h'.get? s.heap.objs.size=a3 { cls:=.type "list",dict:=a6,data:=.seq acc c,slots:=#[] }->kI P acc n->R (.ok (.ret (.ref s.heap.objs.size))) { s with heap:=h',toks:=tk }) ->
   cg (ax prog w) A (.builtin "proto.collect" ⟨[.ref r],[]⟩) R s:=λR hR=>by
  refine bI F.entry_proto_collect ?_;rw[Tg F.plain_proto_collect _];show ao _ A.in1 (newList [] >>= λl=>iO (.builtin "list.__iadd__" ⟨[l,.ref r],[]⟩)) _ _ s;refine a8 (aH ?_);refine ah ⟨cJ k9 _,bI F.entry_list_iadd ?_⟩;rw[Tg k9 _];show ao _ A.in1 (lK (.ref s.heap.objs.size) (.ref r) (.ref s.heap.objs.size)) _ _ _;exact W.kdl_extend (R:=R) (s:={ s with heap:=s.heap.push { cls:=.type "list",data:=.seq ([]:List a9).toArray } }) K hh (K.keep _ _ hok λb _ o e=>xj _ e) _ (T5 hlt.1) (T5 hlt.2) _ 0 hS
   (λh' tk acc c kp hS' hacc=>hR h' tk acc c (λb o e=>kp b o (Xb (X4 e)) (xj _ e)) hS' hacc) hn
 unfold collect;refine a8 (wpAny_runValue (key _ λh' tk acc c kp hS' hacc=>?_));show ao _ A (load s.heap.objs.size >>= _) _ _ _;refine a8 (wpAny_load hS' ?_);exact ah (hQ h' tk acc kp hacc)
theorem Dk {Q:k91} (K:fw prog w T r d n P OK) (hh:A.handled=a6) (hok:OK s.heap) (hsz:n<=aj) (hTt:(eC T==eC "tuple")=a4)
  (hQ:∀(h':aD)(tk:Nat)(acc:Array a9),(∀b o,s.heap.get? b=a3 o->h'.get? b=a3 o)->kI P acc n->Q (.ref h'.objs.size) { s with heap:=h'.push { cls:=.type "tuple",data:=.seq acc },toks:=tk }) :
  ao (ax prog w) A (call (.type "tuple") [.ref r]) Q E s:=by
 refine callType_codes (Q₁:=λobj s₁=>s₁.TypeIs obj "tuple"/\Q obj s₁) F.called_tuple (F.typeCall_tuple_1 _) F.entry_object_init ?_ λobj s₁ h₁ =>⟨h₁.1,iZ obj _,object_init_meets F.called_tuple.init.lookup F.called_tuple.made (by decide) prog w A.in1 _ s₁ ⟨h₁.1,rfl,h₁.2⟩⟩
 refine codeAny_of_tree ?_;show ao _ A.in1.in1 (do gh "tuple.__new__" ⟨[.type "tuple",.ref r],[]⟩;iO (.builtin "tuple.__new__" ⟨[.type "tuple",.ref r],[]⟩)) _ _ s;refine a8 (gp (F.newCall_tuple_1 _) (ah ⟨cJ k8 _,bI F.entry_tuple_new ?_⟩));rw[Tg k8 _];have hsub:=sub_tuple_self;have hinit:=init_tuple_lookup;have hmh:=madeHere_tuple;have hTI:=K.type s hok;have hn:=hsz
 wp_walk using wpAny_typeOf hTI,j18 (A:=A.in1.in1) K hh hok hn
 intro h' tk acc kp hacc;show ao _ _ (aZ acc.toList.toArray >>= λv=>ret v) _ _ _;unfold aZ;refine a8 (aH ?_ (by show acc.toList.toArray.size<=aj;simp only[Array.toArray_toList];rw[hacc.1];exact hsz));refine ah ?_;have e:acc.toList.toArray=acc:=by simp
 rw[e];exact⟨⟨_,X6 _ rfl,rfl⟩,hQ h' tk acc kp hacc⟩
end
section
variable{X:Cx}{ρ:Rho}{a:ai}{ds:List D}{ks:List (List Int)}{pos p p1 p2:aJ}
theorem j09{P:au}{w:aA}{en:Array gj}{xs:List (List Int×aa×a9)}{acc:Array a9}(h:en.toList=xs.map (kq (f9 (fb P w))))(ha:kI (λi v=>∃e,en[i]?=a3 e/\v=e.val) acc en.size):acc=(xs.map λx=>x.2.2).toArray:=by
 obtain⟨h1,h2⟩:=ha;have hl:en.size=xs.length:=by have:=congrArg c7 h;simpa using this
 apply Array.ext';refine Sg λi=>?_;rw[dZ,xx];by_cases hi:i<acc.size
 .have hv:acc[i]?=a3 acc[i]:=bQ hi;obtain⟨e,he,ev⟩:=h2 i _ hv;have he':en.toList[i]?=a3 e:=by simpa using he
  rw[h,xx]at he';rw[gK,hv,ev];obtain⟨x,hx,ex⟩:=Xu.mp he';rw[hx,<-ex];rfl
 .rw[ph (by simpa using hi),ph nofun];rfl
theorem DE.tupVals (ha:DE X ρ a (.dct ks ds)) (hc:X.calm=a5) (hm:X.mg "tuple" = a6) (hg:Gl X "tuple") (hbase:aF a "values" X.env (ay a X.env)=ay a X.env) (hline:(p1.endLine==p2.line)=a5)
  (hs2:a7 [.Call (.Attribute a "values" p1) [] [] p2] X.env=[(a4,ay (.Call (.Attribute a "values" p1) [] [] p2) X.env)]):DE X ρ (.Call (.Name "tuple" p) [.Call (.Attribute a "values" p1) [] [] p2] [] pos) (.tup ds):=λσ H Q R q pins s I=>by
 refine aM (Z8 I hg hm boot_tuple ?_);refine callWith_type1 ?_ hs2 rfl;rw[hs2];show ao _ _ (kE ((a4,ay _ X.env)::aK pos [])) _ _ s;refine iy ?_;refine iK hbase hline (thn (ha σ H (λv H'=>j0 H H'/\Enc X.K (del H' (owns ρ)) (.dct ks ds) v) R (λv H' g e=>⟨g,e⟩) pins s I) λv s1 ⟨x,H1,I1,r1,g1,en⟩=>?_);obtain⟨d,xs,ep,vs,ex,hx,ek,kt,rv,l⟩:=en;subst ex ek;cases r1;have hx1:H1 d=a3 (.dI xs ep):=(of_del hx).2;obtain⟨z1,z2,z3,od,en,h1,h2,h3,h4⟩:=(show ji X.prog X.w H1 s1.heap d (.dI xs ep)from I1.hok _ _ hx1)
 have hsz:en.size=xs.length:=by have:=congrArg c7 h4;simpa using this
 refine⟨"dict","dict.values",PySem.F.plainAttrs_dict,gY,PySem.F.type_dict_values,⟨od,h1,h2.1⟩,λb e=>by cases e;exact⟨od,h1,h2.2.1⟩,dn rfl (iq (jcc ⟨od,h1,h2.1⟩ z2 ?_))⟩;refine iJ ?_;have v1:(s1.heap.push { cls:=.type "dict_values",data:=.fields #[.ref d] }).get? s1.heap.objs.size=a3 { cls:=.type "dict_values",data:=.fields #[.ref d] }:=X6 _ rfl;have I2:=I1.kept (t':=s1.toks) (h':=s1.heap.push { cls:=.type "dict_values",data:=.fields #[.ref d] }) λb o e=>xj _ e;refine Dk (jg1 (vw:=s1.heap.objs.size) (d:=d) (od:=od) h3) (I1.ok.hd hc) ⟨⟨_,v1,rfl,rfl⟩,xj _ h1⟩ (by rw[hsz];exact z1) (by decide) λh' tk acc kp hacc=>?_;have ea:=j09 h4 hacc;subst ea;have I3:Inv X pins σ H1 { s1 with heap:=h',toks:=tk }:=I2.kept (t':=tk) (h':=h') kp;have hf:H1 h'.objs.size=a6:=I3.hok.fresh (X5 _);have hl:=rv.length;have hxl:vs.length<=aj:=by rw[hl,kj];exact z1
 have I4:=I3.laid (a:=h'.objs.size) (o:=.tup vs) (t':=tk) (h':=h'.push { cls:=.type "tuple",data:=.seq (xs.map λx=>x.2.2).toArray }) (λb u q=>xj _ q) (X5 _) ⟨hxl,_,rv,IsTup.new _ _,Zf.new _ _⟩;have nt:h'.objs.size∉owns ρ:=(R.grow g1).fresh hf;exact⟨.ref h'.objs.size,_,I4,rfl,q _ _ (g1.trans (j7 hf)) ⟨h'.objs.size,vs,rfl,.inl (.inl (by rw[j6 nt];exact jc)),l.mono (jj (j7 hf))⟩⟩
end
section
variable{X:Cx}{ρ:Rho}{it e1 e2:ai}{P:Po}{ds:List D}{x t y:Nat}{nx nt ny:af}{p1 p2 p3 p4 p5 p6 p10 p11 p12 p14 p16 p17 p18:aJ}
noncomputable abbrev j9j(nx nt ny:af)(it e1 e2:ai)(p1 p2 p3 p4 p5 p6 p10 p11 p12 p14 p16 p17 p18:aJ):List aS :=
 [.Assign [.Name nx p1] (.Dict [] [] p2) p3,.For (.Name nt p4) it [.Assign [.Name ny p5] e1 p6,.Assign [.Subscript (.Name nx p10) (.Name nt p11) p12] e2 p14] [] p16,.Return (a3 (.Name nx p17)) p18]
theorem vy:∀ns:List Int,jn (ns.map D.int)=a5
 |[]=>rfl
 |n::ns=>by rw[xr,jn,vy ns];rfl
theorem Im{α:Type}:∀{l:List α}{i:Nat}{x:α},l[i]?=a3 x->l.set i x=l
 |[],_,_,_=>rfl
 |y::l,0,x,h=>by simp at h;subst h;rfl
 |y::l,i+1,x,h=>by rw[Pn,Im (by simpa using h)]
theorem j8i{K:k90}{H:Hp}{A:List aa}(hA:∀a∈A,Hd (H a)){ds:List D}{vs:List V}(n:jn ds=a5)(h:j5 K H ds vs):j5 K (del H A) ds vs:=j5.hide hA n h
theorem DSs.nmake(W:Nat->Rho->List (List Int)->List Int->Prop)(rx:x<ρ.length)(rt:t<ρ.length)(ry:y<ρ.length)(hxt:x≠t)(hxy:x≠y)(hty:t≠y)(hi:DI X (ρ.set x .un) (.Name nt p4) it ds)(h0:W 0 (ρ.set x .un) [] [])
  (hs:∀i d ρ' ks ns,ds[i]?=a3 d->W i ρ' ks ns->∃k d1 n,d=.tup (k.map D.int)/\DE X (ρ'.set t (.val d)) e1 d1/\DE X (((ρ'.set t (.val d)).set y (.val d1)).set x (.val (.dct ks (ns.map D.int)))) e2 (.int n) /\
   ks.contains k=a4/\ks.length<aj/\W (i+1) ((ρ'.set t (.val d)).set y (.val d1)) (ks++[k]) (ns++[n]))
  (hd:∀ρ' ks ns,W ds.length ρ' ks ns->P.rt (.val (.dct ks (ns.map D.int))))
  (hu:X.A.units+100<aI) (hc:X.calm=a5) (hp:dG (ax X.prog X.w) X.A X.env X.xe) (hN:X.N.Nodup) (hX:X.N[x]?=a3 nx) (hT:X.N[t]?=a3 nt) (hY:X.N[y]?=a3 ny)
  (lx:Loc X.env.scope nx) (lt:Loc X.env.scope nt) (ly:Loc X.env.scope ny) (fx:X.fn nx=a5\/X.env.scope.names.lookup nx=a3 .local) (ft:X.fn nt=a5\/X.env.scope.names.lookup nt=a3 .local) (fy:X.fn ny=a5\/X.env.scope.names.lookup ny=a3 .local)
  (dx:(nx==k94)=a4) (cx:(nx==k95)=a4) (dt:(nt==k94)=a4) (ct:(nt==k95)=a4)
  (s1:aG (.Dict [] [] p2) (a3 (.Name nx p1)) p3.line X.env=pure a4) (s2:aG e1 (a3 (.Name ny p5)) p6.line X.env=pure a4)
  (s3:aG e2 (a3 (.Subscript (.Name nx p10) (.Name nt p11) p12)) p14.line X.env=pure a4) (hf:∀x,aC it X.env x=pure x) :
  DSs X ρ (j9j nx nt ny it e1 e2 p1 p2 p3 p4 p5 p6 p10 p11 p12 p14 p16 p17 p18) P:=λσ H E R q=>by
 have vis:∀{z:af},Loc X.env.scope z->Vis X.env.scope z:=λh=>h.elim .inl λz=>.inr (.inl z);refine(Q4 (Vy hN hX lx jb0 s1 fx) (Q4 (Eg hp hc piS (Zm hN hT lt ft) (Q4 (Vy hN hY ly peS s2 fy)
  (j1j (jaw hu (J4 hX (vis lx) dx cx) (J4 hT (vis lt) dt ct) peS s3))) hf)
  (j1j (Wh (J4 hX (vis lx) dx cx))))).to ?_
 intro a ha;have R0:Rep X.K (ρ.set x .un) (σ.set x (a3 (.ref a))) H:=R.set_un;have hxl:x<σ.length:=by rw[R.len];exact rx
 refine j2y (A:=[a]) (R':=λJ F=>j0 H F/\U5 X.K (del F (owns (ρ.set x .un))) J ds) (λb hb=>.inr ⟨[],0,by rw[xu.mp hb];exact jc⟩) (by rw[j0e ha];exact hi _ H _ R0 λJ F g ok=>⟨g,ok⟩) λJ F ⟨g,ok⟩ hn=>?_;rw[j1r jc];have fa:F a=a6:=hn a (by simp);refine⟨λi m σ' H'=>∃ρ' Fh xs ep ns,H'=upd Fh a (.dI xs ep)/\Fh a=a6/\Rep X.K ρ' σ' Fh/\j0 F Fh/\(∀b∈owns ρ',b∈owns (ρ.set x .un))/\ρ'.length=ρ.length/\σ'[x]?=a3 (a3 (.ref a)) /\
   (∀z∈xs,SqT X.K Fh z.2.1 (z.1.map V.int))/\Vals (ns.map V.int) (xs.map λz=>z.2.2)/\W i ρ' (xs.map λz=>z.1) ns/\m=ds.length-i/\i<=ds.length,
  ⟨ds.length,ρ.set x .un,F,[],0,[],rfl,fa,R0.grow g,j0.refl _,λb hb=>hb,by simp,V8 hxl,λz hz=>(nomatch hz),.nil,h0,rfl,T6 _⟩,?_⟩
 rintro i m σ' H' ⟨ρ',Fh,xs,ep,ns,rfl,fha,R',gF,sub,hL,sx,kt,rv,w,rfl,hle⟩;have gU:j0 Fh (upd Fh a (.dI xs ep)):=j7 fha;obtain⟨go,stop,yld⟩:=ok i (upd Fh a (.dI xs ep)) (a::owns ρ') (λb o eb=>by
  obtain⟨nb,eb⟩:=of_del eb
  have nba:b≠a:=λz=>by rw[z,fa]at eb;cases eb
  rw[j6,je nba]
  .exact gF b o eb
  .intro z
   rcases xn.mp z with z|z
   .exact nba z
   .exact nb (sub b z)) (λb hb=>by
  rcases xn.mp hb with z|z
  .rw[z,jc];simp
  .obtain⟨ys,eb⟩:=R'.owned b z
   rw[gU _ _ eb];simp)
 by_cases hlt:i<ds.length
 .obtain⟨k,d1,n,ed,hE,hE2,nk,hkl,w'⟩:=hs i ds[i] ρ' _ ns (kh hlt) w;refine .inr ⟨go hlt,λσ2 H2=>∃ρ2 Fh2 xs2 ep2 ns2,H2=upd Fh2 a (.dI xs2 ep2)/\Fh2 a=a6/\Rep X.K ρ2 σ2 Fh2/\j0 F Fh2/\(∀b∈owns ρ2,b∈owns (ρ.set x .un))/\ρ2.length=ρ.length/\σ2[x]?=a3 (a3 (.ref a)) /\
   (∀z∈xs2,SqT X.K Fh2 z.2.1 (z.1.map V.int))/\Vals (ns2.map V.int) (xs2.map λz=>z.2.2)/\W (i+1) ρ2 (xs2.map λz=>z.1) ns2,
   λσ2 H2 ⟨ρ2,Fh2,xs2,ep2,ns2,z1,z2,z3,z4,z5,z5',z6,z7,z8,z10⟩=>⟨ds.length-(i+1),by omega,ρ2,Fh2,xs2,ep2,ns2,z1,z2,z3,z4,z5,z5',z6,z7,z8,z10,rfl,hlt⟩,λv H2 yv=>?_⟩
  obtain⟨g2,en⟩:=yld v H2 yv;have en:=en _ (kh hlt);have h2a:H2 a=a3 (.dI xs ep):=g2 _ _ jc;have e2:H2=upd (del H2 [a]) a (.dI xs ep):=ja1 h2a;have f2a:del H2 [a] a=a6:=qt (by simp);have gF2:j0 Fh (del H2 [a]):=λb o eb=>by
   have nb:b≠a:=λz=>by rw[z,fha]at eb;cases eb
   rw[j6 (by simpa using nb)];exact g2 b o (gU b o eb)
  have en2:Enc X.K (del (del H2 [a]) (owns ρ')) ds[i] v:=by rw[Z5];exact en
  generalize del H2 [a]=F2 at e2 f2a gF2 en2;subst e2;have R2:Rep X.K (ρ'.set t (.val ds[i])) (σ'.set t (a3 v)) F2:=(R'.grow gF2).set_val en2;have sub2:∀b∈owns (ρ'.set t (.val ds[i])),b∈owns (ρ.set x .un):=λb hb=>sub b ((jf rfl).subset hb);show Jo X e1 (σ'.set t (a3 v)) (upd F2 a (.dI xs ep)) _;refine j2z (A:=[a]) (Q':=λv F3=>j0 F2 F3/\Enc X.K (del F3 (owns (ρ'.set t (.val ds[i])))) d1 v) (λb hb=>.inr ⟨xs,ep,by rw[xu.mp hb];exact jc⟩) (by rw[j0e f2a];exact hE _ F2 _ R2 λv F3 g e=>⟨g,e⟩) λv3 F3 ⟨g3,en3⟩ hn3=>?_;rw[j1r jc];have f3a:F3 a=a6:=hn3 a (by simp);have R3:Rep X.K ((ρ'.set t (.val ds[i])).set y (.val d1)) ((σ'.set t (a3 v)).set y (a3 v3)) F3:=(R2.grow g3).set_val en3;have sub3:∀b∈owns ((ρ'.set t (.val ds[i])).set y (.val d1)),b∈owns (ρ.set x .un):=λb hb=>sub2 b ((jf rfl).subset hb);have sx3:((σ'.set t (a3 v)).set y (a3 v3))[x]?=a3 (a3 (.ref a)):=by rw[qe (bJ hxy),qe (bJ hxt)];exact sx
  have lenN:σ'.length=ρ.length:=by rw[R'.len,hL]
  have htl:t<σ'.length:=by rw[lenN];exact rt
  have hL3:((ρ'.set t (.val ds[i])).set y (.val d1)).length=ρ.length:=by rw[tu,tu,hL]
  have st3:((σ'.set t (a3 v)).set y (a3 v3))[t]?=a3 (a3 v):=by rw[qe (bJ hty)];exact V8 htl
  have kt3:∀z∈xs,SqT X.K F3 z.2.1 (z.1.map V.int):=λz hz=>g3.seqT (gF2.seqT (kt z hz));rw[ed]at en2;obtain⟨tb,ys,ev,sq,li⟩:=en2;rw[vq li]at sq;subst ev;have sq3:SqT X.K F3 tb (k.map V.int):=g3.seqT (jq.seqT sq);clear R2;show Jo X e2 ((σ'.set t (a3 (V.ref tb))).set y (a3 v3)) (upd F3 a (.dI xs ep)) _;generalize (σ'.set t (a3 (V.ref tb))).set y (a3 v3)=σ3 at R3 sx3 st3 ⊢;generalize (ρ'.set t (.val ds[i])).set y (.val d1)=ρ3 at R3 sub3 hL3 hE2 w' ⊢;have g4:j0 F3 (upd F3 a (.dI xs ep)):=j7 f3a;have hO:∀b∈owns ρ3,Hd (upd F3 a (.dI xs ep) b):=λb hb=>.inl (let ⟨zs,e⟩:=R3.owned b hb;⟨zs,g4 _ _ e⟩);have na:a∉owns ρ3:=λz=>by obtain⟨zs,e⟩:=R3.owned a z;rw[f3a]at e;cases e
  have R4:Rep X.K (ρ3.set x (.val (.dct (xs.map λz=>z.1) (ns.map D.int)))) σ3 (upd F3 a (.dI xs ep)):=by
   have z:=(R3.grow g4).set_val (i:=x) (d:=.dct (xs.map λz=>z.1) (ns.map D.int)) (v:=.ref a) ⟨a,xs,ep,ns.map V.int,rfl,by rw[j6 na];exact jc,rfl,λz hz=>?_,rv,j8i hO (vy ns) (j5.ints ns)⟩
   .rw[Im sx3]at z;exact z
   .have e:Enc X.K (upd F3 a (.dI xs ep)) (.tup (z.1.map D.int)) (.ref z.2.1):=⟨_,_,rfl,g4.seqT (kt3 z hz),j5.ints z.1⟩
    obtain⟨b,zs,e1,e2,e3⟩:=e.hide hO (by rw[vf];exact vy z.1);cases e1;rw[vq e3]at e2;exact e2
  refine hE2 σ3 _ _ R4 λv4 H4 g5 en4=>?_;cases(show v4=.int n from en4);have h4a:H4 a=a3 (.dI xs ep):=g5 _ _ jc;have f4a:del H4 [a] a=a6:=qt (by simp);have gF4:j0 F3 (del H4 [a]):=λb o eb=>by
   have nb:b≠a:=λz=>by rw[z,f3a]at eb;cases eb
   rw[j6 (by simpa using nb)];exact g5 b o (g4 b o eb)
  have gU4:j0 (del H4 [a]) H4:=jq;refine⟨.ref a,sx3,.ref tb,st3,a,tb,xs,ep,k,rfl,h4a,λz hz=>gU4.seqT (gF4.seqT (kt3 z hz)),rfl,gU4.seqT (gF4.seqT sq3),nk,by rw[kj]at hkl;exact hkl,λu ep' ru=>?_⟩;refine⟨ρ3,del H4 [a],xs++[(k,tb,u)],ep',ns++[n],?_,f4a,R3.grow gF4,gF.trans (gF2.trans (g3.trans gF4)),sub3,hL3,sx3,λz hz=>?_,?_,by rw[Xf];exact w'⟩
  .funext b
   by_cases z:b=a
   .subst z;rw[jc,jc]
   .rw[je z,je z,j6 (by simpa using z)]
  .rcases Xn.mp hz with hz|hz
   .exact gF4.seqT (kt3 z hz)
   .rw[xu.mp hz];exact gF4.seqT sq3
  .rw[Xf,Xf];exact rv.append (.cons ru .nil)
 .have e:i=ds.length:=by omega
  subst e;refine .inl ⟨stop (X5 _),.ref a,sx,?_⟩;refine q.rt (.val (.dct _ (ns.map D.int))) (.ref a) _ (hd ρ' _ ns w) ⟨λb o eb=>gU b o (gF b o (g b o (of_del eb).2)),a,xs,ep,ns.map V.int,rfl,jc,rfl,λz hz=>gU.seqT (kt z hz),rv,j5.ints ns⟩
end
theorem Ng{M:iP}{A:aB}{E:k91}{s:ae}{β:Type}{a b:Nat}(f:Nat->β->lY (ForInStep β))(I:Nat->β->ae->Prop)(Q:β->ae->Prop)
  (turn:∀i c st,a<=i->i<b->I i c st->ao M A (f i c) (λr s'=>match r with|.yield c'=>I (i+1) c' s'|.done c'=>Q c' s') E st)
  (fin:∀c st,I (max a b) c st->Q c st) (c:β) (h:I a c s):ao M A (forIn [a:b] c f) Q E s:=by
 rw[Std.Legacy.Range.forIn_eq_forIn_range'];have hsz:([a:b]:Std.Legacy.Range).size=b-a:=by simp[Std.Legacy.Range.size]
 show ao M A (forIn (lj a ([a:b]:Std.Legacy.Range).size 1) c f) Q E s;rw[hsz];refine gb f (λl c st=>∃i,a<=i/\i<=max a b/\l=lj i (max a b-i) 1/\I i c st) Q ?_ ?_ _ c ⟨a,X5 _,by omega,by congr 1;omega,h⟩
 .rintro x rest c st ⟨i,hai,hib,hl,hI⟩;have hlt:i<max a b:=by
   rcases i4 i (max a b)with h'|h'
   .exact h'
   .rw[show max a b-i=0 by omega]at hl;simp at hl
  obtain⟨n,hn⟩:∃n,max a b-i=n+1:=⟨max a b-i-1,by omega⟩
  rw[hn,jJ]at hl;obtain⟨rfl,rfl⟩:=List.cons.inj hl;refine b7 (turn x c st hai nofun hI) (λr st' h'=>?_) λ_ _ h=>h;cases r with
  |done c'=>exact h'
  |yield c'=>exact⟨x+1,by omega,by omega,by congr 1;omega,h'⟩
 .rintro c st ⟨i,hai,hib,hl,hI⟩;have:i=max a b:=by
   rcases i4 i (max a b)with h'|h'
   .obtain⟨n,hn⟩:∃n,max a b-i=n+1:=⟨max a b-i-1,by omega⟩
    rw[hn,jJ]at hl;cases hl
   .omega
  subst this;exact fin c st hI
theorem Ls(l:aa)(items:Array a9)(n:Nat)(dd:Option aa)(sl:Array (Option a9))(x:a9)(e:a9->Bool)(k:Nat)(hk:k<items.size)(h0:∀(j:Nat)(h:j<items.size),j<k->e items[j]=a4)(h1:e items[k]=a5) :
  jT (cK.«tuple.index» ⟨[.ref l,x],[]⟩)
   (λA R s=>s.heap.get? l=a3 { cls:=.type "tuple",dict:=dd,data:=.seq items n,slots:=sl }/\(∀y,y∈items->cw A.in1 s y x (e y))/\R (.ok (.ret (.int k s.toks))) { s with toks:=s.toks+1 }) :=
 .of_wp λprog w A R s h=>by
  obtain⟨hp,g,d,tk,os⟩:=s;obtain⟨hl,he,h⟩:=h
  wp_walk using cW hl,Ng _ (λi b s'=>b.1=a6/\s'=⟨hp,g,d,tk,os⟩/\i<=k) _
  case turn =>
   rintro i c s'-hi ⟨hb,rfl,hik⟩;have hlt:i<items.size:=by omega
   have hy:items[i]?=a3 items[i]:=by simp[hlt]
   rw[hy];refine a8 (he items[i] (Array.getElem_mem hlt) prog w _ _ ?_);by_cases z:i=k
   .subst z;rw[h1]
    wp_walk
    exact⟨_,rfl,h⟩
   .rw[h0 i hlt nofun]
    wp_walk
    exact⟨rfl,rfl,by omega⟩
  case fin =>rintro c s' ⟨hb,rfl,hik⟩;omega
  case h =>exact⟨rfl,rfl,T6 _⟩
section
variable{X:Cx}{ρ:Rho}{a e:ai}{l:List D}{d:D}{p1 pos:aJ}
noncomputable def ixD(d:D):List D->Option Nat
 |[]=>a6
 |x::r=>if deq x d=a5 then a3 0 else(ixD d r).map (· + 1)
theorem j01{d:D}:∀{l:List D}{k:Nat},ixD d l=a3 k->∃x,l[k]?=a3 x/\deq x d=a5/\∀j y,j<k->l[j]?=a3 y->deq y d=a4
 |[],k,h=>by cases h
 |x::r,k,h=>by
  unfold ixD at h;split at h
  .rename_i z;cases h;exact⟨x,rfl,z,λj y hj=>absurd hj (fW _)⟩
  .rename_i z;cases q:ixD d r with
   |none=>rw[q]at h;cases h
   |some m =>
    rw[q]at h;cases h;obtain⟨y,hy,e,f⟩:=j01 q;refine⟨y,hy,e,λj y hj hq=>?_⟩;cases j with
    |zero=>cases hq;simpa using z
    |succ j=>exact f j y (Nat.lt_of_succ_lt_succ hj) hq
theorem j53 (hu:X.A.units+100<aI):MtR X "tuple.index" (λx vs H Q=>∃t xs ds d y k,x=.ref t/\vs=[y]/\SqT X.K H t xs/\j5 X.K H ds xs/\Enc X.K H d y/\D.depL ds<=97/\d.dep<10000/\ixD d ds=a3 k/\Q (.int (k:Nat)) H):=by
 rintro pins s σ H x vs v us Q I rx rv ⟨t,xs,ds,d,y,k,e,e',sq,l,en,hd,nd,hk,q⟩;subst e e';cases rx;obtain⟨u,eu,ru⟩:=rv.one;subst eu;obtain⟨its,ri,⟨⟨cl,dd,da,sl⟩,h1,h2,n,h3⟩,_⟩:=I.tuple sq;have h2:cl=.type "tuple":=h2;have h3:da=.seq its.toArray n:=h3;subst h2 h3;obtain⟨z,hz,ez,fz⟩:=j01 hk;have ll:=l.length;have rl:=ri.length;have hks:k<its.toArray.size:=by have:=(X3.mp hz).1;simp;omega
 have at_:∀(j:Nat)(h:j<its.toArray.size)(z:D),ds[j]?=a3 z->eqW X H d its.toArray[j]=deq z d:=λj h z hz=>by
  obtain⟨x,hx,ex⟩:=l.get hz;obtain⟨w,hw,rw⟩:=ri.get hx;have g1:its.toArray[j]=w:=by simp at h ⊢;rw[kh (by simpa using h)]at hw;exact aw hw
  have:=D.depL_le hz;rw[g1];exact Wv I nofun ex rw
 refine bc gP ⟨_,h1,rfl⟩ F.entry_tuple_index (F.args_tuple_index_2 _ _) (Ls t its.toArray n dd sl u (eqW X H d) k hks (λj h hj=>?_) (by rw[at_ k hks z hz];exact ez))
  ⟨h1,λy hy=>Zo (n:=97) I en ru nd (by show X.A.units+1+97<aI;omega) hd l ri y (by simpa using hy),⟨.int _,H,I.tok _,⟨_,rfl⟩,q⟩⟩
 have hlt:j<ds.length:=by simp at h;omega
 rw[at_ j h ds[j] (kh hlt)];exact fz j _ hj (kh hlt)
theorem DE.indexT {b:ai} {ds:List D} {k:Nat} {p2:aJ} (hu:X.A.units+100<aI) (ha:DT X ρ a (.tup ds)) (hb:DT X ρ b d) (hd:D.depL ds<=97) (nd:d.dep<10000) (hk:ixD d ds=a3 k) (hbase:aF a "index" X.env (ay a X.env)=ay a X.env)
  (hfew:((aK p2 (a7 [b] X.env)).all (λx=>!x.1)&&(bA p2 (aX [] X.env)).all (λx=>x.1.isSome)
   && decide (([b]:List ai).length+([]:List aT).length+(if ([]:List aT).isEmpty then 0 else 1)<30))=a5) (hline:(p1.endLine==p2.line)=a5)
  (hs:a7 [b] X.env=(a4,ay b X.env)::a7 [] X.env):DE X ρ (.Call (.Attribute a "index" p1) [b] [] p2) (.int (k:Nat)):=λσ H Q R q =>
 (Uj fN gP PySem.F.type_tuple_index (j53 hu) peS (jb peS jo hs) hbase hfew hline hs rfl).to (ha σ H _ R λv H1 g1 ⟨t,xs,e,sq,l⟩=>⟨by rw[e];exact .inr (.inl ⟨rfl,xs,sq⟩),hb σ H1 _ (R.grow g1) λu H2 g2 e2 =>
  ⟨t,xs,ds,d,u,k,e,rfl,g2.seqT sq,l.mono g2,e2,hd,nd,hk,q _ H2 (g1.trans g2) rfl⟩⟩)
end
section
variable{X:Cx}{pins:k92}{σ:St}{H:Hp}{l q S I:aa}{xs:List V}{R:eV->ae->Prop}
end
section
variable{X:Cx}{ρ:Rho}{σ:St}{H:Hp}{q:aa}{f:af}{l:List D}{xs:List V}{kf:Nat->Int}{a:ai}{d:D}{p p1 pk pos:aJ}
end
section
variable{X:Cx}{pins:k92}{σ:St}{H:Hp}{l S I:aa}{xs:List V}{R:eV->ae->Prop}
def jha(X:Cx)(pins:k92)(σ:St)(H:Hp)(xs:List V)(bt:Nat->Nat->Bool):Prop:=∀(i j:Nat)(x y:V)(u v:a9)(s:ae)(Q:k91)(E:k91),xs[i]?=a3 x->xs[j]?=a3 y->RelV x u->RelV y v->Inv X pins σ H s ->
 Q (.bool (bt i j)) s->ao (ax X.prog X.w) X.A.in1 (gr .Lt u v) Q E s
theorem jbb(bt:Nat->Nat->Bool)(hh:X.A.handled=a6)(hl:SqL X.K H l xs)(hSI:S≠I)(fS:Qp X pins H S)(fI:Qp X pins H I)(cmp:jha X pins σ H xs bt)
  (hR:∀x u s',xs[aW bt (xs.length-1)]?=a3 x->RelV x u->Inv X pins σ H s'->R (.ok (.ret u)) s') :
  ∀(r j:Nat)(s:ae)(x:V)(u:a9)(c:Nat),xs.length-(j+1)=r->j+1<=xs.length->Inv X pins σ H s->s.heap.get? S=a3 (eZ "list" #[u,u] c) ->
   s.heap.IsListIter I l (j+1)->xs[aW bt j]?=a3 x->RelV x u->cg (ax X.prog X.w) X.A (.builtin "min.loop" ⟨[.ref I,.none,.ref S],[]⟩) R s:=by
 have hname:(toString "min" ++ toString ".loop":String) = "min.loop":=by decide
 have fp:∀b∈[S,I],Qp X pins H b:=λb hb=>by
  rcases xn.mp hb with e|hb
  .subst e;exact fS
  .rw[xu.mp hb];exact fI
 intro r;induction r with
 |zero =>
  intro j s x u c hr hj I1 oS it hx ru;have hin:j+1=xs.length:=by omega
  obtain⟨its,rv,p,_⟩:=I1.list hl;have hlen:=rv.length;refine bI de ?_;rw[Tg Pu _];show ao _ X.A.in1 (gc (.ref S) >>= _) _ _ _;refine a8 (df oS rfl ?_);show ao _ X.A.in1 (tryCatch (eP (.ref I)) _ >>= _) _ _ _;refine a8 (eN (jH hh it p.isList (by simp;omega) λh' eb=>?_));have I2:Inv X pins σ H { s with heap:=h' }:=I1.chg (ch:=[S,I]) fp λb o hb e=>eb b o (λz=>hb (by simp[z])) e;have oS':h'.get? S=a3 (eZ "list" #[u,u] c):=eb S _ hSI oS;show ao _ X.A.in1 (updateSeq S (λ_=>#[]) >>= _) _ _ _;refine a8 ?_;refine gz oS' rfl (a8 (gq (ah ?_)));have s1:=T4 h' S (cS λ_=>(#[]:Array a9));exact hR x u _ (by rw[<-hin];exact hx) ru (I2.chg (ch:=[S,I]) fp λb o hb e=>(s1.2 b (λz=>hb (by simp[z]))).trans e)
 |succ r ih =>
  intro j s x u c hr hj I1 oS it hx ru;have hlt:j+1<xs.length:=by omega
  obtain⟨its,rv,p,_⟩:=I1.list hl;have hlen:=rv.length;have hx1:xs[j+1]?=a3 xs[j+1]:=by simp[hlt]
  obtain⟨v,hv,rv1⟩:=rv.get hx1;refine bI de ?_;rw[Tg Pu _];show ao _ X.A.in1 (gc (.ref S) >>= _) _ _ _;refine a8 (df oS rfl ?_);show ao _ X.A.in1 (tryCatch (eP (.ref I)) _ >>= _) _ _ _;refine a8 (eN (dR it p.isList (x:=v) (by simpa using hv) λh' it' sb=>?_));have I2:Inv X pins σ H { s with heap:=h' }:=I1.chg (ch:=[S,I]) fp λb o hb e=>(sb.2 b (λz=>hb (by simp[z]))).trans e;have oS':h'.get? S=a3 (eZ "list" #[u,u] c):=(sb.2 S hSI).trans oS;obtain⟨oI,eI,cI,dI⟩:=id it';show ao _ X.A.in1 (tryCatch (kF [v,v] (gr .Lt v u >>= _)) _ >>= _) _ _ _;refine a8 (eN (fj (a8 (cmp (j+1) (aW bt j) _ _ v u _ _ _ hx1 hx rv1 ru I2 ?_))));refine a8 (fj (bh ?_));refine a8 (gq (ah ?_));cases hb:bt (j+1) (aW bt j) with
  |true =>
   have s1:=T4 h' S (cS λ_=>#[v,v]);obtain⟨c2,hc2⟩:∃c2,(h'.update S (cS λ_=>#[v,v])).get? S=a3 (eZ "list" #[v,v] c2):=⟨_,lN oS' λ_=>#[v,v]⟩
   simp only[if_true];refine a8 ?_;refine gz oS' rfl (a8 (gq ?_));rw[hname];exact ah ⟨cJ Pu _,ih (j+1) _ _ v c2 nofun hlt (I2.chg (ch:=[S,I]) fp λb o hb e=>(s1.2 b (λz=>hb (by simp[z]))).trans e) hc2
    ⟨oI,(s1.2 I hSI.symm).trans eI,cI,dI⟩ (by simp only[aW,hb,if_true];exact hx1) rv1⟩
  |false =>simp only[Pa,if_false];refine a8 (gq ?_);rw[hname];exact ah ⟨cJ Pu _,ih (j+1) _ x u c nofun hlt I2 oS' ⟨oI,eI,cI,dI⟩ (by simp only[aW,hb,Pa,if_false];exact hx) ru⟩
theorem j58(bt:Nat->Nat->Bool)(hh:X.A.handled=a6){s:ae}{Q:VK}{E:k91}(I0:Inv X pins σ H s)(hl:SqL X.K H l xs)(hne:0<xs.length)(cmp:jha X pins σ H xs bt)
  (hQ:∀x,xs[aW bt (xs.length-1)]?=a3 x->Q x H):ao (ax X.prog X.w) X.A (call (.builtin "min") [.ref l]) (EP X pins σ Q) E s:=by
 have hname:(toString "min" ++ toString ".loop":String) = "min.loop":=by decide
 obtain⟨its0,rv0,p0,_⟩:=I0.list hl;refine call_function_tree PySem.F.kind_min PySem.F.plain_min PySem.F.entry_min (PySem.F.args_min1 _) ?_;show ao _ X.A.in1 (Builtin.Builtins.bindParams "min" ["key","default"] 0 ⟨[],[]⟩ >>= _) _ _ s;refine a8 (gp (show Builtin.Builtins.bindParams "min" ["key","default"] 0 ⟨[],[]⟩=pure [a6,a6]from rfl) ?_);refine a8 (ah ?_);refine a8 (bN p0.isList ?_);refine a8 (wpAny_newList ?_ (T6 _));rw[hname];generalize hA:s.heap.push { cls:=.type "list_iterator",data:=.fields #[.ref l,.int 0 0] }=h1;have z1:h1.objs.size=s.heap.objs.size+1:=by rw[<-hA];exact size_push' ..
 have gI:(h1.push (eZ "list" #[] 0)).get? s.heap.objs.size=a3 { cls:=.type "list_iterator",data:=.fields #[.ref l,.int 0 0] }:=by rw[<-hA];exact xj _ (X6 _ rfl)
 have gS:(h1.push (eZ "list" #[] 0)).get? h1.objs.size=a3 (eZ "list" #[] 0):=X6 _ rfl;have I1:Inv X pins σ H { s with heap:=h1.push (eZ "list" #[] 0) }:=I0.kept (t':=s.toks) λb o e=>xj _ (by rw[<-hA];exact xj _ e);have fI:Qp X pins H s.heap.objs.size:=I0.fpOk (X5 _) (I0.hok.fresh (X5 _));have fS:Qp X pins H h1.objs.size:=I0.fpOk (by rw[z1];exact Td _) (I0.hok.fresh (by rw[z1];exact Td _));have hSI:h1.objs.size≠s.heap.objs.size:=by rw[z1];exact T5 (du _)
 have fp:∀b∈[h1.objs.size,s.heap.objs.size],Qp X pins H b:=λb hb=>by
  rcases xn.mp hb with e|hb
  .subst e;exact fS
  .rw[xu.mp hb];exact fI
 refine ah ⟨cJ Pu _,?_⟩;obtain⟨its,rv,p,_⟩:=I1.list hl;have hlen:=rv.length;have hx0:xs[0]?=a3 xs[0]:=by simp[hne]
 obtain⟨v,hv,rv1⟩:=rv.get hx0;refine bI de ?_;rw[Tg Pu _];show ao _ X.A.in1 (gc (.ref _) >>= _) _ _ _;refine a8 (df gS rfl ?_);show ao _ X.A.in1 (tryCatch (eP (.ref s.heap.objs.size)) _ >>= _) _ _ _;refine a8 (eN (dR (i:=0) ⟨_,gI,rfl,rfl⟩ p.isList (x:=v) (by simpa using hv) λh' it' sb=>?_));have I2:Inv X pins σ H { s with heap:=h' }:=I1.chg (ch:=[h1.objs.size,s.heap.objs.size]) fp λb o hb e=>(sb.2 b (λz=>hb (by simp[z]))).trans e;have oS':h'.get? h1.objs.size=a3 (eZ "list" #[] 0):=(sb.2 _ hSI).trans gS;obtain⟨oI,eI,cI,dI⟩:=id it';have s1:=T4 h' h1.objs.size (cS λ_=>#[v,v]);obtain⟨c2,hc2⟩:∃c2,(h'.update h1.objs.size (cS λ_=>#[v,v])).get? h1.objs.size=a3 (eZ "list" #[v,v] c2):=⟨_,lN oS' λ_=>#[v,v]⟩
 show ao _ X.A.in1 (updateSeq h1.objs.size (λ_=>#[v,v]) >>= _) _ _ _;refine a8 ?_;refine gz oS' rfl ?_;rw[hname];exact ah ⟨cJ Pu _,jbb bt hh hl hSI fS fI cmp (λx u s' hx ru I=>⟨x,H,I,ru,hQ x hx⟩) _ 0 _ _ v c2 rfl hne
  (I2.chg (ch:=[h1.objs.size,s.heap.objs.size]) fp λb o hb e=>(s1.2 b (λz=>hb (by simp[z]))).trans e) hc2 ⟨oI,(s1.2 _ hSI.symm).trans eI,cI,dI⟩ hx0 rv1⟩
end
noncomputable def Bh(l:List (List Int))(i j:Nat):Bool:=HT.lexLt (l.getD i []) (l.getD j [])
section
variable{X:Cx}{ρ:Rho}{a:ai}{l:List (List Int)}{k:List Int}{p pos:aJ}
theorem DT.minT (hu:X.A.units+100<aI) (hcalm:X.calm=a5) (hm:X.mg "min" = a6) (hg:Gl X "min") (ha:DT X ρ a (.lst (l.map λk=>D.tup (k.map D.int)))) (hk:l[aW (Bh l) (l.length-1)]?=a3 k) (hs:a7 [a] X.env=[(a4,ay a X.env)]) :
  DT X ρ (.Call (.Name "min" p) [a] [] pos) (.tup (k.map D.int)):=λσ H Q R q pins s I=>by
 refine aM (Z8 I hg hm jV ?_ (by decide) (by decide));refine callWith_builtin1 (thn ((jb (es:=[]) peS jo hs).to (σ:=σ) (H:=H) (Q:=λvs H1=>∃v,vs=[v]/\j0 H H1/\Enc X.K H1 (.lst (l.map λk=>D.tup (k.map D.int))) v) (ha σ H _ R λv H1 g1 e1=>⟨v,rfl,g1,e1⟩) pos pins s I) λus s1 ⟨vs,H1,I1,r1,v,ev,g1,e1⟩=>?_) hs rfl;subst ev;obtain⟨b,xs,eb,sq,en⟩:=e1;subst eb;obtain⟨u,eu,ru⟩:=r1.one;subst eu;cases(show u=az b from ru);have hlen:xs.length=l.length:=by rw[en.length,kj]
 have hin:=(X3.mp hk).1;have item:∀{i:Nat}{x:V},xs[i]?=a3 x->∃t,x=.ref t/\SqT X.K H1 t ((l.getD i []).map V.int)/\Enc X.K H1 (.tup ((l.getD i []).map D.int)) x:=λ{i x} hx=>by
  obtain⟨d,hd,ed⟩:=en.get' hx;rw[xx]at hd;obtain⟨k',hk',ek⟩:=Xu.mp hd;subst ek;have eg:l.getD i []=k':=by rw[xf,hk'];rfl
  rw[eg];obtain⟨t,ys,e1,sq',l'⟩:=id ed;rw[vq l']at sq';exact⟨t,e1,sq',ed⟩
 refine j58 (Bh l) (I.ok.hd hcalm) I1 sq nofun (λi j x y u v s2 Q2 E2 hx hy rx ry I2 hq=>?_) λx hx=>?_
 .obtain⟨t,e1,s1',_⟩:=item hx;obtain⟨t',e2,s2',_⟩:=item hy;subst e1 e2;cases rx;cases ry;obtain⟨its,r1,p1,_⟩:=I2.tuple s1';obtain⟨its2,r2,p2,_⟩:=I2.tuple s2';exact HT.lt_tupInts (A:=X.A.in1) p1 p2 (intsAre_of r1) (intsAre_of r2) (by show X.A.units+1<aI;omega) hq
 .rw[hlen]at hx;obtain⟨t,e1,_,ed⟩:=item hx;have eg:l.getD (aW (Bh l) (l.length-1)) []=k:=by rw[xf,hk];rfl
  rw[eg]at ed;exact q x H1 g1 ed
end
section
variable{X:Cx}{ρ:Rho}{it e2:ai}{P:Po}{ds:List D}{x t:Nat}{nx nt:af}{p1 p2 p3 p4 p10 p11 p12 p14 p16 p17 p18:aJ}
end
noncomputable def j3g(p q:Int×List Int):Bool:=if p.1=q.1 then HT.lexLt p.2 q.2 else decide (p.1<q.1)
noncomputable def Z0(l:List (Int×List Int))(i j:Nat):Bool:=j3g (l.getD i (0,[])) (l.getD j (0,[]))
noncomputable def pairD(p:Int×List Int):D:=.tup [.int p.1,.tup (p.2.map D.int)]
theorem Bg:∀l:List Int,HT.lexLt l l=a4
 |[]=>rfl
 |x::l=>by rw[HT.lexLt_cons,if_pos rfl,Bg l]
theorem Om:∀l:List Int,D.depL (l.map D.int)=0
 |[]=>rfl
 |x::l=>by rw[xr,D.depL,Om l];rfl
theorem Cw:∀{ns ms:List Int},zy (ns.map D.int) (ms.map D.int)=a5->ns=ms
 |[],[],_=>rfl
 |[],_::_,h=>nomatch h
 |_::_,[],h=>nomatch h
 |x::ns,y::ms,h=>by rw[xr,xr,Qc,Xg]at h;rw[Cw h.2,show x=y from by simpa [j0d]using h.1]
section
open PySem.SeqAt
open PySem.AutoSeq1 (wpAny_loadPart')
open PySem.MeetsSeq PySem.MeetsSeq2 PySem.MeetsSeq3
theorem Lq(l b x y:aa)(a c:Int)(t u:gH)(n n2:Nat)(dd dd2:Option aa)(sl sl2:Array (Option a9))(e r:Bool) :
  jT (cK.«tuple.__lt__» ⟨[.ref l,.ref b],[]⟩)
   (λA R s=>s.heap.get? l=a3 { cls:=.type "tuple",dict:=dd,data:=.seq #[.int a t,.ref x] n,slots:=sl }/\s.heap.get? b=a3 { cls:=.type "tuple",dict:=dd2,data:=.seq #[.int c u,.ref y] n2,slots:=sl2 } /\
    EqAt A.in1 s (.ref x) (.ref y) e/\(∀(prog:au)(w:aA)(E:k91)(Q:k91),Q (.bool r) s->ao (ax prog w) A.in1 (gr .Lt (.ref x) (.ref y)) Q E s) /\
    R (.ok (.ret (.bool (if a=c then(if e=a5 then a4 else r)else decide (a<c))))) s) :=
 .of_wp λprog w A R s h=>by
  obtain⟨hp,g,d,tk,os⟩:=s;obtain⟨hl,hb,hx,hr,h⟩:=h;have f2:=fL
  wp_walk using cW hl,cW hb,gb _ (λrest b s'=>b.1=a6/\s'=⟨hp,g,d,tk,os⟩ /\
   (rest=[(b8 a t,b8 c u),(az x,az y)]\/(rest=[(az x,az y)]/\a=c)\/(rest=[]/\a=c/\e=a5))) _
  case turn =>
   rintro⟨y',x'⟩ rest b s' ⟨hb',rfl,hz⟩;rcases hz with hz|⟨hz,ac⟩|⟨hz,_⟩
   .injection hz with hyx hrest;injection hyx with hy hx';subst hy hx';obtain⟨e',he,hiff⟩:=HT.eqAt_int A.in1 ⟨hp,g,d,tk,os⟩ a t c u;refine a8 (he prog w _ _ ?_);cases e' with
    |true =>
     wp_walk
     exact⟨rfl,rfl,.inr (.inl ⟨hrest,hiff.mp rfl⟩)⟩
    |false =>
     rw[if_neg (λq=>absurd (hiff.mpr q) xg)]at h;have hri:=HT.rcLt_int A.in1 ⟨hp,g,d,tk,os⟩ a t c u prog w
     wp_walk using hri
     exact⟨_,rfl,by simpa using h⟩
   .injection hz with hyx hrest;injection hyx with hy hx';subst hy hx';refine a8 (hx prog w _ _ ?_);rw[if_pos ac]at h;cases e with
    |true =>
     wp_walk
     exact⟨rfl,rfl,.inr (.inr ⟨hrest,ac,rfl⟩)⟩
    |false =>
     have hri:=hr prog w
     wp_walk using hri
     exact⟨_,rfl,by simpa using h⟩
   .cases hz
  case fin =>
   rintro⟨b1,b2⟩ s' ⟨hb',rfl,hz⟩;simp only at hb';subst hb';rcases hz with hz|⟨hz,ac⟩|⟨hz,ac,e1⟩
   .cases hz
   .cases hz
   .rw[if_pos ac,if_pos e1]at h
    wp_walk
    exact⟨_,rfl,by simpa [dC]using h⟩
  case h =>exact⟨rfl,rfl,.inl rfl⟩
end
section
variable{X:Cx}{ρ:Rho}{a:ai}{l:List (Int×List Int)}{k:Int×List Int}{p pos:aJ}
theorem DT.minP (hu:X.A.units+100<aI) (hcalm:X.calm=a5) (hm:X.mg "min" = a6) (hg:Gl X "min") (ha:DT X ρ a (.lst (l.map pairD))) (hk:l[aW (Z0 l) (l.length-1)]?=a3 k) (hs:a7 [a] X.env=[(a4,ay a X.env)]) :
  DT X ρ (.Call (.Name "min" p) [a] [] pos) (pairD k):=λσ H Q R q pins s I=>by
 refine aM (Z8 I hg hm jV ?_ (by decide) (by decide));refine callWith_builtin1 (thn ((jb (es:=[]) peS jo hs).to (σ:=σ) (H:=H) (Q:=λvs H1=>∃v,vs=[v]/\j0 H H1/\Enc X.K H1 (.lst (l.map pairD)) v) (ha σ H _ R λv H1 g1 e1=>⟨v,rfl,g1,e1⟩) pos pins s I) λus s1 ⟨vs,H1,I1,r1,v,ev,g1,e1⟩=>?_) hs rfl;subst ev;obtain⟨b,xs,eb,sq,en⟩:=e1;subst eb;obtain⟨u,eu,ru⟩:=r1.one;subst eu;cases(show u=az b from ru);have hlen:xs.length=l.length:=by rw[en.length,kj]
 have hin:=(X3.mp hk).1;have item:∀{i:Nat}{x:V},xs[i]?=a3 x->Enc X.K H1 (pairD (l.getD i (0,[]))) x:=λ{i x} hx=>by
  obtain⟨d,hd,ed⟩:=en.get' hx;rw[xx]at hd;obtain⟨k',hk',ek⟩:=Xu.mp hd;subst ek;have eg:l.getD i (0,[])=k':=by rw[xf,hk'];rfl
  rw[eg];exact ed
 have part:∀{q:Int×List Int}{x:V},Enc X.K H1 (pairD q) x->∃t y,x=.ref t/\SqT X.K H1 t [.int q.1,.ref y]/\SqT X.K H1 y (q.2.map V.int)/\Enc X.K H1 (.tup (q.2.map D.int)) (.ref y):=λ{q x} ed=>by obtain⟨t,ys,e1,sq',l'⟩:=ed;obtain⟨v1,ys1,rfl,e2,v2,ys2,rfl,e3,rfl⟩:=l';cases(show v1=.int q.1 from e2);obtain⟨y,zs,e4,sq2,l4⟩:=id e3;subst e4;rw[vq l4]at sq2;exact⟨t,y,e1,sq',sq2,e3⟩
 refine j58 (Z0 l) (I.ok.hd hcalm) I1 sq nofun (λi j x y u v s2 Q2 E2 hx hy rx ry I2 hq=>?_) λx hx=>?_
 .obtain⟨t,x1,e1,s1',s1'',en1⟩:=part (item hx);obtain⟨t',y1,e2,s2',s2'',en2⟩:=part (item hy);subst e1 e2;cases rx;cases ry;obtain⟨its,r1,p1,_⟩:=I2.tuple s1';obtain⟨its2,r2,p2,_⟩:=I2.tuple s2';obtain⟨itx,rx1,px,_⟩:=I2.tuple s1'';obtain⟨ity,ry1,py,_⟩:=I2.tuple s2'';obtain⟨_,_,rfl,⟨k1,rfl⟩,eu⟩:=r1.two;obtain⟨_,_,rfl,⟨k2,rfl⟩,ev⟩:=r2.two;cases eu;cases ev;have hE:=(Zk I2 1 X.A.in1.in1 (d:=.tup ((l.getD i (0,[])).2.map D.int)) (d':=.tup ((l.getD j (0,[])).2.map D.int)) (by rw[D.dep,Om];decide) (by show X.A.units+1+1+1<aI;omega) (by rw[D.dep,Om];decide) en1 rfl en2 rfl).2;obtain⟨⟨cls,dd,data,sl⟩,ho,hc,n,hd⟩:=id p1;obtain⟨⟨cls2,dd2,data2,sl2⟩,ho2,hc2,n2,hd2⟩:=id p2;simp only at hc hd hc2 hd2;subst hc hd hc2 hd2;have hb:Z0 l i j=if (l.getD i (0,[])).1=(l.getD j (0,[])).1 then(if deq (.tup ((l.getD i (0,[])).2.map D.int)) (.tup ((l.getD j (0,[])).2.map D.int))=a5 then a4 else HT.lexLt (l.getD i (0,[])).2 (l.getD j (0,[])).2)else decide ((l.getD i (0,[])).1<(l.getD j (0,[])).1):=by
   show(if _ then _ else _)=_;split
   .split
    .rename_i h;rw[Bv]at h;rw[Cw h,Bg]
    .rfl
   .rfl
  rw[hb]at hq;exact j2 (op:=.Lt) ⟨_,ho,rfl⟩ ⟨_,ho2,rfl⟩ gm g6 (fX _ _) (Lq t t' x1 y1 _ _ _ _ n n2 dd dd2 sl sl2 _ _)
   ⟨ho,ho2,hE,λprog w E Q h=>HT.lt_tupInts (A:=X.A.in1.in1) px py (intsAre_of rx1) (intsAre_of ry1) (by show X.A.units+1+1<aI;omega) h,(λx=>nomatch x),hq⟩ (by show X.A.units+1<aI;omega)
 .rw[hlen]at hx;have ed:=item hx;have eg:l.getD (aW (Z0 l) (l.length-1)) (0,[])=k:=by rw[xf,hk];rfl
  rw[eg]at ed;exact q x H1 g1 ed
end
section
variable{X:Cx}{ρ:Rho}{a:ai}{p p1 p2 pos:aJ}
end
noncomputable def jk9(kvs:List (af×Int))(k:af):Option Int:=(kvs.find? λp=>decide (p.1=k)).map λp=>p.2
noncomputable def jkc(kvs:List (af×Int))(k:af):Bool:=kvs.any λp=>decide (p.1=k)
noncomputable def dput(kvs:List (af×Int))(k:af)(n:Int):List (af×Int):=if jkc kvs k=a5 then kvs.map λp=>if p.1=k then(p.1,n)else p else kvs++[(k,n)]
section
variable{X:Cx}{ρ:Rho}{a b e k:ai}{rest:List aS}{P:Po}{kvs:List (af×Int)}{z:af}{n:Int}{i j:Nat}{nx ny:af}{pos pos' p p1 p2 p3 p4 p5 p6 p7 p8:aJ}{td ty tv:TE}{o value:ai}
theorem j54 (hu:X.A.units+100<aI):MtR X "list.index" (λx vs H Q=>∃t xs ds d y k,x=.ref t/\vs=[y]/\SqL X.K H t xs/\j5 X.K H ds xs/\Enc X.K H d y/\D.depL ds<=97/\d.dep<10000/\ixD d ds=a3 k/\Q (.int (k:Nat)) H):=by
 rintro pins s σ H x vs v us Q I rx rv ⟨t,xs,ds,d,y,k,e,e',sq,l,en,hd,nd,hk,q⟩;subst e e';cases rx;obtain⟨u,eu,ru⟩:=rv.one;subst eu;obtain⟨its,ri,⟨⟨cl,dd,da,sl⟩,n,h1,h2,h4,h3⟩,hz0⟩:=I.list sq;have h2:cl=.type "list":=h2;have h3:da=.seq its.toArray n:=h3;subst h2 h3;obtain⟨z,hz,ez,fz⟩:=j01 hk;have ll:=l.length;have rl:=ri.length;have hks:k<its.toArray.size:=by have:=(X3.mp hz).1;simp;omega
 have at_:∀(j:Nat)(h:j<its.toArray.size)(z:D),ds[j]?=a3 z->eqW X H d its.toArray[j]=deq z d:=λj h z hz=>by
  obtain⟨x,hx,ex⟩:=l.get hz;obtain⟨w,hw,rw⟩:=ri.get hx;have g1:its.toArray[j]=w:=by simp at h ⊢;rw[kh (by simpa using h)]at hw;exact aw hw
  have:=D.depL_le hz;rw[g1];exact Wv I nofun ex rw
 have hn:=U9;have hks':k<its.length:=by simpa using hks
 refine bc ic ⟨_,h1,rfl⟩ F.entry_list_index (F.args_list_index_2 _ _) (SeqAt.list_indexAt t its.toArray n dd sl u (eqW X H d) k hks nofun (by rw[at_ k hks z hz];exact ez) (λj h hj=>?_))
  ⟨h1,λy hy=>Zo (n:=97) I en ru nd (by show X.A.units+1+97<aI;omega) hd l ri y (by simpa using hy),⟨.int _,H,I.tok _,⟨_,rfl⟩,q⟩⟩
 have hlt:j<ds.length:=by simp at h;omega
 rw[at_ j h ds[j] (kh hlt)];exact fz j _ hj (kh hlt)
theorem DE.indexL {ds:List D} {d:D} {k':Nat} (hu:X.A.units+100<aI) (ha:DT X ρ a (.lst ds)) (hb:DT X ρ b d) (hd:D.depL ds<=97) (nd:d.dep<10000) (hk:ixD d ds=a3 k') (hbase:aF a "index" X.env (ay a X.env)=ay a X.env)
  (hfew:((aK p2 (a7 [b] X.env)).all (λx=>!x.1)&&(bA p2 (aX [] X.env)).all (λx=>x.1.isSome)
   && decide (([b]:List ai).length+([]:List aT).length+(if ([]:List aT).isEmpty then 0 else 1)<30))=a5) (hline:(p1.endLine==p2.line)=a5)
  (hs:a7 [b] X.env=(a4,ay b X.env)::a7 [] X.env):DE X ρ (.Call (.Attribute a "index" p1) [b] [] p2) (.int (k':Nat)):=λσ H Q R q =>
 (Uj Tn ic PySem.F.type_list_index (j54 hu) peS (jb peS jo hs) hbase hfew hline hs rfl).to (ha σ H _ R λv H1 g1 ⟨t,xs,e,sq,l⟩=>⟨by rw[e];exact .inl ⟨rfl,xs,sq⟩,hb σ H1 _ (R.grow g1) λu H2 g2 e2 =>
  ⟨t,xs,ds,d,u,k',e,rfl,g2.seq sq,l.mono g2,e2,hd,nd,hk,q _ H2 (g1.trans g2) rfl⟩⟩)
end
section
variable{prog:au}{w:aA}{A:aB}{E:k91}{s:ae}
end
section
variable{prog:au}{w:aA}{A:aB}{E:k91}{s:ae}{l1 l2:Bool}{z TI TO i1 i2 t1 t2 p:aa}{f:Bool}{op:cC}{k:Nat}{us vs:Array a9}{x y a b:a9}
end
section
variable{X:Cx}{pins:k92}{σ:St}{z TI TO i1 i2 t1 t2 d:aa}{l1 l2:Bool}{ks:List af}{ns:List Int}{A:aB}{R:eV->ae->Prop}
end
section
variable{X:Cx}{ρ:Rho}{a b:ai}{ks:List af}{ns:List Int}{p p2 p3 p4:aJ}
end
section
variable{X:Cx}{ρ:Rho}{a e:ai}{es:List ai}{x:af}{d:D}{p p1 p2 pos:aJ}{y:af}{ds:List D}
theorem Dp.grow{σ:St}{H H':Hp}(k:Dp X σ H x)(g:j0 H H'):Dp X σ H' x:=λpins H2 s' e C I g2 hC Fe=>k pins H2 s' e C I (g.trans g2) hC Fe
theorem DXA.head(ha:DX X ρ a x)(hs:a7 (a::es) X.env=(a4,ay a X.env)::a7 es X.env):DXA X ρ (a::es) x:=λσ H Q R k =>(jb peS paS hs).to (ha σ H _ R k)
theorem DXA.tail(ha:DT X ρ a d)(h:DXA X ρ es x)(hs:a7 (a::es) X.env=(a4,ay a X.env)::a7 es X.env):DXA X ρ (a::es) x:=λσ H Q R k =>(jb peS paS hs).to (ha σ H _ R λv H1 g _=>h σ H1 _ (R.grow g) (k.grow g))
theorem DX.args {f:af} (ha:DXA X ρ (e::es) x) (hg:Gl X f) (hdb:(f==k94)=a4) {fa:aa} (hfa:X.mg f=a3 (.ref fa)) (hk:W.keepIn X.K (.ref fa)=a5)
  (he:a7 (e::es) X.env=(a4,ay e X.env)::a7 es X.env) (hpl:(aK pos (a7 es X.env)).any (·.1)=a4):DX X ρ (.Call (.Name f p) (e::es) [] pos) x:=λσ H Q R k pins s I=>by
 refine aM (Z4 I hg hfa ?_ hdb);exact W.callWith_K (h₀:=X.base) I.ok.mod.kin hk (thn (ha σ H (λ_ _=>False) R k pos pins s I) λus s1 ⟨vs,H1,I1,r,z⟩=>z.elim) he hpl
end
noncomputable def vo:List Int->Int
 |[]=>0
 |a::r=>r.foldl max a
theorem j7s:∀(r:List Int)(a:Int),a<=r.foldl max a
 |[],a=>cb a
 |b::r,a=>by rw[Tf];have:=j7s r (max a b);omega
theorem Cr:∀(r:List Int)(a:Int),r.foldl max a∈a::r/\∀b∈a::r,b<=r.foldl max a
 |[],a=>⟨xu.mpr rfl,λb hb=>by rw[xu.mp hb];exact cb _⟩
 |c::r,a=>by
  rw[Tf];obtain⟨h1,h2⟩:=Cr r (max a c);refine⟨?_,λb hb=>?_⟩
  .rcases xn.mp h1 with z|z
   .rw[z];by_cases q:a<=c
    .rw[Int.max_eq_right q];exact km _ xm
    .rw[Int.max_eq_left nofun];exact xm
   .exact km _ (km _ z)
  .have l:=h2 (max a c) xm;rcases xn.mp hb with z|z
   .rw[z];omega
   .rcases xn.mp z with z|z
    .rw[z];omega
    .exact h2 b (km _ z)
theorem O7{ns:List Int}(h:ns≠[]):vo ns∈ns/\∀b∈ns,b<=vo ns:=by
 cases ns with
 |nil=>exact absurd rfl h
 |cons a r=>exact Cr r a
theorem j1v{ns:List Int}{M:Int}(h1:M∈ns)(h2:∀a∈ns,a<=M):vo ns=M:=by
 have hn:ns≠[]:=λe=>by rw[e]at h1;exact nomatch h1
 obtain⟨a,b⟩:=O7 hn;have:=h2 _ a;have:=b _ h1;omega
noncomputable def Z7(ns:List Int):Int:=-vo (ns.map λn=>-n)
theorem j7n{ns:List Int}(h:ns≠[]):Z7 ns∈ns/\∀b∈ns,Z7 ns<=b:=by
 obtain⟨h1,h2⟩:=O7 (ns:=ns.map λn=>-n) (by simpa using h);obtain⟨a,ha,e⟩:=X8.mp h1;unfold Z7;refine⟨?_,λb hb=>?_⟩
 .rw[<-e,Int.neg_neg];exact ha
 .have:=h2 _ (X8.mpr ⟨b,hb,rfl⟩);omega
theorem j1t{ns:List Int}{M:Int}(h1:M∈ns)(h2:∀a∈ns,M<=a):Z7 ns=M:=by
 obtain⟨a,b⟩:=j7n (ns:=ns) λe=>by rw[e]at h1;exact nomatch h1
 have:=h2 _ a;have:=b _ h1;omega
section
variable{X:Cx}{ρ:Rho}{a b e:ai}{es:List ai}{x y:af}{d:D}{i j:Int}{p p1 p2 p3 p4 pk pos:aJ}{ds:List D}
theorem j97{pins:k92}{s:ae}{σ:St}{H:Hp}{l:aa}{ns:List Int}(I:Inv X pins σ H s)(sq:SqL X.K H l (ns.map V.int))(hne:ns≠[]):∃zs,s.heap.IsList l (eQ zs)/\0<zs.size/\zs.size=ns.length/\∀i,i<zs.size->gu zs i=ns.getD i 0:=by
 obtain⟨its,rv,pl,_⟩:=I.list sq;have hl:its.length=ns.length:=by rw[<-rv.length,kj]
 have val:∀(i:Nat)(v:a9),its[i]?=a3 v->∃t,v=b8 (ns.getD i 0) t:=by
  intro i v hv;have hi:i<its.length:=(X3.mp hv).1;have hi':i<ns.length:=by omega
  obtain⟨w1,hw,rw1⟩:=rv.get (x:=.int (ns.getD i 0)) (i:=i) (by rw[xx,kh hi',xf,kh hi'];rfl);rw[hw]at hv;cases hv;exact rw1
 have hall:AllInts its.toArray:=by intro v hv;obtain⟨i,hi,e⟩:=Pj.mp (show v∈its by simpa using hv);obtain⟨t,e'⟩:=val i v (by rw[kh hi,e]);exact⟨_,t,e'⟩
 obtain⟨zs,hz⟩:=hall.items;have pl':=pl.isList;rw[hz]at pl';have hsz:0<zs.size:=by
  have:its.toArray.size=(eQ zs).size:=by rw[hz]
  have h1:0<ns.length:=List.length_pos_iff.mpr hne;simp[eQ]at this;omega
 have hns:∀i,i<zs.size->gu zs i=ns.getD i 0:=by
  intro i hi;obtain⟨v1,e1⟩:∃v,(eQ zs)[i]?=a3 v:=⟨_,bQ (by simpa [eQ]using hi)⟩
  obtain⟨t,ht⟩:=jP e1;rw[<-hz]at e1;obtain⟨t',ht'⟩:=val i _ (by simpa using e1);rw[ht]at ht';exact(Value.int.inj ht').1
 have len:zs.size=ns.length:=by
  have:its.toArray.size=(eQ zs).size:=by rw[hz]
  simp[eQ]at this;omega
 exact⟨zs,pl',hsz,len,hns⟩
theorem j68 (hc:X.calm=a5):Ja X (.builtin "max") (λxs H Q=>∃(l:aa)(ns:List Int),xs=[.ref l]/\SqL X.K H l (ns.map V.int)/\ns≠[]/\Q (.int (vo ns)) H):=by
 rintro pins s σ H xs us Q I r ⟨l,ns,e,sq,hne,q⟩;subst e;obtain⟨u,eu,ru⟩:=vals1 r;subst eu;cases ru;obtain⟨zs,pl',hsz,len,hns⟩:=j97 I sq hne;refine max_intList (I.ok.hd hc) pl' hsz λv h' tk hv hk=>?_;obtain⟨t,rfl⟩:=jP hv;obtain⟨h1,h2⟩:=argBest_gt (gu zs) (zs.size-1);have hM:vo ns=gu zs (aW (λi j=>decide (gu zs i>gu zs j)) (zs.size-1)):=by
  refine j1v ?_ λc hc=>?_
  .rw[hns _ nofun];rw[xf,kh nofun];exact Xr _
  .obtain⟨k,hk,rfl⟩:=Pj.mp hc;have:=h2 k nofun
   rw[hns k nofun,xf,kh hk]at this;exact this
 rw[hM]at q;exact⟨.int _,H,I.kept hk,⟨t,rfl⟩,q⟩
theorem j66 (hc:X.calm=a5):Ja X (.builtin "min") (λxs H Q=>∃(l:aa)(ns:List Int),xs=[.ref l]/\SqL X.K H l (ns.map V.int)/\ns≠[]/\Q (.int (Z7 ns)) H):=by
 rintro pins s σ H xs us Q I r ⟨l,ns,e,sq,hne,q⟩;subst e;obtain⟨u,eu,ru⟩:=vals1 r;subst eu;cases ru;obtain⟨zs,pl',hsz,len,hns⟩:=j97 I sq hne;refine min_intList (I.ok.hd hc) pl' hsz λv h' tk hv hk=>?_;obtain⟨t,rfl⟩:=jP hv;obtain⟨h1,h2⟩:=argBest_lt (gu zs) (zs.size-1);have hM:Z7 ns=gu zs (aW (λi j=>decide (gu zs i<gu zs j)) (zs.size-1)):=by
  refine j1t ?_ λc hc=>?_
  .rw[hns _ nofun];rw[xf,kh nofun];exact Xr _
  .obtain⟨k,hk,rfl⟩:=Pj.mp hc;have:=h2 k nofun
   rw[hns k nofun,xf,kh hk]at this;exact this
 rw[hM]at q;exact⟨.int _,H,I.kept hk,⟨t,rfl⟩,q⟩
theorem DE.max2 (ha:DT X ρ a (.int i)) (hb:DT X ρ b (.int j)) (hm:X.mg "max" = a6) (hc:X.calm=a5) (hg:Gl X "max") (hs:a7 [a,b] X.env=(a4,ay a X.env)::a7 [b] X.env) (hs2:a7 [b] X.env=(a4,ay b X.env)::a7 [] X.env)
  (hpl:(aK pos (a7 [b] X.env)).any (·.1)=a4):DE X ρ (.Call (.Name "max" p) [a,b] [] pos) (.int (if j>i then j else i)):=λσ H Q R q =>
 (zq (j69 hc) hg hm boot_max (jb peS (jb peS jo hs2) hs) (by decide) (by decide) hs hpl).to (ha σ H _ R λv H1 g1 e1=>hb σ H1 _ (R.grow g1) λu H2 g2 e2=>⟨i,j,by rw[show v=.int i from e1,show u=.int j from e2],q _ H2 (g1.trans g2) rfl⟩)
theorem DE.maxL {ns:List Int} (ha:DT X ρ a (.lst (ns.map D.int))) (hn:ns≠[]) (hm:X.mg "max" = a6) (hc:X.calm=a5) (hg:Gl X "max") (hs:a7 [a] X.env=[(a4,ay a X.env)]):DE X ρ (.Call (.Name "max" p) [a] [] pos) (.int (vo ns)):=λσ H Q R q =>(zq (j68 hc) hg hm boot_max (jb peS jo hs) (by decide) (by decide) hs).to (ha σ H _ R λv H1 g1 ⟨l,xs,e,sq,en⟩=>⟨l,ns,by rw[e],by rw[vq en]at sq;exact sq,hn,q _ H1 g1 rfl⟩)
theorem DE.minL {ns:List Int} (ha:DT X ρ a (.lst (ns.map D.int))) (hn:ns≠[]) (hm:X.mg "min" = a6) (hc:X.calm=a5) (hg:Gl X "min") (hs:a7 [a] X.env=[(a4,ay a X.env)]):DE X ρ (.Call (.Name "min" p) [a] [] pos) (.int (Z7 ns)):=λσ H Q R q =>(zq (j66 hc) hg hm jV (jb peS jo hs) (by decide) (by decide) hs).to (ha σ H _ R λv H1 g1 ⟨l,xs,e,sq,en⟩=>⟨l,ns,by rw[e],by rw[vq en]at sq;exact sq,hn,q _ H1 g1 rfl⟩)
theorem DG.three{i j k:Nat}{x y z:af}{n:Nat}{q1:aJ}{d d' d'':D}(hN:X.N.Nodup)(hi:X.N[i]?=a3 x)(hj:X.N[j]?=a3 y)(hk:X.N[k]?=a3 z)(hx:Loc X.env.scope x)(hy:Loc X.env.scope y)(hz:Loc X.env.scope z)
  (fx:X.fn x=a5\/X.env.scope.names.lookup x=a3 .local) (fy:X.fn y=a5\/X.env.scope.names.lookup y=a3 .local) (fz:X.fn z=a5\/X.env.scope.names.lookup z=a3 .local) (hc:X.calm=a5) :
  DG X ρ (.Tuple [.Name x p1,.Name y p2,.Name z p3] n q1) (.tup [d,d',d'']) (((ρ.set i (.val d)).set j (.val d')).set k (.val d'')):=by
 refine⟨λb hb=>(jf rfl).subset ((jf rfl).subset ((jf rfl).subset hb)),λσ H v Q R en q=>?_⟩;obtain⟨t,xs,ev,sq,u,r,e,eu,u',r',e',eu',u'',r'',e'',eu'',er⟩:=en;subst e e' e'' ev er;refine(j4r hc (Y4 (Zm hN hi hx fx) (Y4 (Zm hN hj hy fy) (Y4 (Zm hN hk hz fz) j1m rfl) rfl) rfl) rfl rfl).to ⟨t,[u,u',u''],rfl,jq.seqT sq,rfl,u,[u',u''],rfl,u',[u''],rfl,u'',[],rfl,rfl,q _ ?_⟩;have R1:Rep X.K (ρ.set i (.val d)) (σ.set i (a3 u)) H:=R.set_val eu;have R2:Rep X.K ((ρ.set i (.val d)).set j (.val d')) ((σ.set i (a3 u)).set j (a3 u')) H:=R1.set_val (eu'.mono (v5 λb hb=>(jf rfl).subset hb));exact R2.set_val (eu''.mono (v5 λb hb=>(jf rfl).subset ((jf rfl).subset hb)))
end
section
variable{X:Cx}{ρ:Rho}{p1 p2 p3 p4 p5 p6 q1 pos:aJ}
end
section
variable{X:Cx}{ρ:Rho}{p1 p2 p3 p4 p5 p6 q1 pos:aJ}
end
noncomputable def ch1(c:Nat):af:=⟨#[c]⟩
noncomputable def chs(y:af):List D:=y.cps.toList.map λc=>D.str (ch1 c)
noncomputable def ascii(y:af):Bool:=y.cps.all (· < 128)
noncomputable def Its(y:af):It:=⟨λi _=>i<y.cps.size,λi H x H'=>H'=H/\∃c,y.cps[i]?=a3 c/\x=.str (ch1 c),λi _=>y.cps.size<=i⟩
theorem j6k {P:au} {w:aA} {K:k90} {tg:ai} (it:aa) (y:af) (t:gH):Turn P w K tg (Its y) [it] it (λi h=>h.IsStrIter it "str_ascii_iterator" y t i) where
 mem:=by simp
 obj:=λi h st b hb=>by
  have e:b=it:=by simpa using hb
  subst e;obtain⟨o,e,c,d⟩:=st;exact⟨o,e,λv z=>by rw[d]at z;cases z⟩
 keep:=λi h h' st k=>let ⟨o,e,r⟩:=st;⟨o,k it (by simp) o e,r⟩
 item:=by intro X hP hw hK hc i pins s σ H E I hf st hg;subst hP hw hK;obtain⟨f0,f1,f2,f3,f4,f5⟩:=hf it (by simp);have W:=Walks.strAscii (prog:=X.prog) (w:=X.w) (I.ok.hd hc) it y t;refine W.item i s _ _ hg st λv h' tk hv st' kk=>?_;obtain⟨c,u,hcu,rfl⟩:=hv;have I1:Inv X pins σ H { s with heap:=h',toks:=tk }:=I.turned (λb o hb e=>kk b o (by simpa using hb) e) f0 f1 f3 f4 f5;obtain⟨o,e,oc,d⟩:=id st';exact⟨_,rfl,Kd (s:={ s with heap:=h',toks:=tk }) e oc d (by decide) ⟨.str (ch1 c),H,I1,⟨u,rfl⟩,⟨rfl,c,hcu,rfl⟩,st',λb hb=>(hf b hb).1⟩⟩
 done:=by intro X hP hw hK hc i pins s σ H E I hf st hg;subst hP hw hK;obtain⟨f0,f1,f2,f3,f4,f5⟩:=hf it (by simp);exact wpAny_pyNext_ascii_end (I.ok.hd hc) st (by have:y.cps.size<=i:=hg;simp;omega) λh' eb=>⟨rfl,I.turned (t':=s.toks) (λb o hb e=>eb b o hb e) f0 f1 f3 f4 f5⟩
 self:=λ_ _ _ _ _ st h=>wpAny_pyIter_striter_ascii st h
section
variable{X:Cx}{ρ:Rho}{a b c e tg it:ai}{y z:af}{i j k:Int}{p p2 pos:aJ}
theorem j7y{K:k90}{F:Hp}(y:af):U5 K F (Its y) (chs y):=λi H A g hA=>by
 have hl:(chs y).length=y.cps.size:=by unfold chs;rw[kj,cG]
 rw[hl];refine⟨λh=>h,λh=>h,λx H' ⟨e,c,hc,ex⟩=>?_⟩;subst e ex;refine⟨j0.refl _,λd hd=>?_⟩;unfold chs at hd;rw[xx,gK,hc]at hd;cases hd;rfl
theorem DI.str(h:DT X ρ it (.str y))(ha:ascii y=a5):DI X ρ tg it (chs y):=λσ H R r q pins s I=>by
 refine thn (h σ H (λv H1=>v=.str y/\j0 H H1) r (λv H1 g e=>⟨e,g⟩) pins s I) λv s1 ⟨x,H1,I1,r1,ex,g1⟩=>?_;subst ex;obtain⟨t,rfl⟩:=(show ∃t,v=bg y t from r1)
 refine wpAny_pyIter_ascii ha ?_;refine⟨s1.heap.objs.size,[s1.heap.objs.size],_,_,H1,rfl,I1.kept (t':=s1.toks) λb o e=>xj _ e,j6k _ y t,⟨_,X6 _ rfl,rfl,rfl⟩,λb hb=>?_,q _ H1 g1 (j7y y)⟩;have e:b=s1.heap.objs.size:=by simpa using hb
 subst e;exact I1.fpOk (X5 _) (I1.hok.fresh (X5 _))
noncomputable def inS(y z:af):Bool:=!(fi z y 0 z.length 1).isEmpty
theorem Cg:OpR X (aP .Gt) (λx y H Q=>∃i j,x=.str i/\y=.str j/\Q (.bl (decide (j.cps.toList<i.cps.toList))) H):=by intro pins s σ H x y v u Q I rx ry h;obtain⟨i,j,rfl,rfl,q⟩:=h;obtain⟨t,rfl⟩:=rx;obtain⟨t',rfl⟩:=ry;exact P.gt_str (jr I q rfl)
theorem DE.ltS(ha:DT X ρ a (.str y))(hb:DT X ρ b (.str z)):DE X ρ (.Compare a [.Lt] [b] pos) (.bl (decide (y.cps.toList<z.cps.toList))):=λσ H Q R q =>(Je Cd peS peS (zc _)).to (ha σ H _ R λv H1 g1 e1=>hb σ H1 _ (R.grow g1) λu H2 g2 e2=>⟨y,z,e1,e2,q _ H2 (g1.trans g2) rfl⟩)
theorem DB.ltS(ha:DT X ρ a (.str y))(hb:DT X ρ b (.str z)):DB X ρ (.Compare a [.Lt] [b] pos) (decide (y.cps.toList<z.cps.toList)):=λσ H Q R q =>(Jd Cd peS peS (zc _)).to (ha σ H _ R λv H1 g1 e1=>hb σ H1 _ (R.grow g1) λu H2 g2 e2=>⟨y,z,e1,e2,_,rfl,q H2 (g1.trans g2)⟩)
theorem DE.gtS(ha:DT X ρ a (.str y))(hb:DT X ρ b (.str z)):DE X ρ (.Compare a [.Gt] [b] pos) (.bl (decide (z.cps.toList<y.cps.toList))):=λσ H Q R q =>(Je Cg peS peS (zc _)).to (ha σ H _ R λv H1 g1 e1=>hb σ H1 _ (R.grow g1) λu H2 g2 e2=>⟨y,z,e1,e2,q _ H2 (g1.trans g2) rfl⟩)
theorem DB.gtS(ha:DT X ρ a (.str y))(hb:DT X ρ b (.str z)):DB X ρ (.Compare a [.Gt] [b] pos) (decide (z.cps.toList<y.cps.toList)):=λσ H Q R q =>(Jd Cg peS peS (zc _)).to (ha σ H _ R λv H1 g1 e1=>hb σ H1 _ (R.grow g1) λu H2 g2 e2=>⟨y,z,e1,e2,_,rfl,q H2 (g1.trans g2)⟩)
theorem DE.inS(ha:DT X ρ a (.str y))(hb:DT X ρ b (.str z))(hm:aO .In b=a4):DE X ρ (.Compare a [.In] [b] pos) (.bl (inS y z)):=λσ H Q R q =>(Je Ce peS peS hm).to (ha σ H _ R λv H1 g1 e1=>hb σ H1 _ (R.grow g1) λu H2 g2 e2=>⟨y,z,e1,e2,q _ H2 (g1.trans g2) rfl⟩)
theorem DB.inS(ha:DT X ρ a (.str y))(hb:DT X ρ b (.str z))(hm:aO .In b=a4):DB X ρ (.Compare a [.In] [b] pos) (inS y z):=λσ H Q R q =>(Jd Ce peS peS hm).to (ha σ H _ R λv H1 g1 e1=>hb σ H1 _ (R.grow g1) λu H2 g2 e2=>⟨y,z,e1,e2,_,rfl,q H2 (g1.trans g2)⟩)
theorem mulOk_of(h1:1<=k/\k<=1000)(h2:y.length<=1000):MulOk y k:=by
 refine⟨?_,λ_ _=>?_,λ_ _=>?_⟩
 .simp;omega
 .have:(1000:Int)<=(2^63-1)/k:=Int.le_ediv_of_mul_le nofun nofun
  omega
 .have hk:k.toNat<=1000:=by omega
  have:y.length*k.toNat<=1000000:=Nat.mul_le_mul h2 hk;unfold cu;rw[dw];simp;omega
theorem j36:OpR X (b0 .Mult) (λx y H Q=>∃i k,x=.str i/\y=.int k/\MulOk i k/\Q (.str (iY i k)) H):=by intro pins s σ H x y v u Q I rx ry h;obtain⟨i,k,rfl,rfl,hm,q⟩:=h;obtain⟨t,rfl⟩:=rx;obtain⟨t',rfl⟩:=ry;exact SB.mul hm λt' tk=>⟨.str _,H,I.un (t':=tk) Un.refl I.hok,⟨_,rfl⟩,q⟩
theorem DE.mulS(ha:DT X ρ a (.str y))(hb:DT X ρ b (.int k))(h1:1<=k/\k<=1000)(h2:y.length<=1000):DE X ρ (.BinOp a .Mult b pos) (.str (iY y k)):=λσ H Q R q =>(Yq j36 peS peS).to (ha σ H _ R λv H1 g1 e1=>hb σ H1 _ (R.grow g1) λu H2 g2 e2=>⟨y,k,e1,e2,mulOk_of h1 h2,q _ H2 (g1.trans g2) rfl⟩)
theorem DE.chn(ha:DT X ρ a (.int i))(hb:DT X ρ b (.int j))(hc:DT X ρ c (.int k))(hm:l7 [.Lt,.Lt] [b,c]=a4):DE X ρ (.Compare a [.Lt,.Lt] [b,c] pos) (.bl (decide (i<j)&&decide (j<k))):=λσ H Q R q =>
 (j7g Ka Ka peS peS peS hm).to (ha σ H _ R λv H1 g1 e1=>hb σ H1 _ (R.grow g1) λu H2 g2 e2=>⟨i,j,e1,e2,_,rfl,by
  by_cases h:i<j
  .rw[decide_eq_true h,if_pos rfl]
   exact hc σ H2 _ (R.grow (g1.trans g2)) λw H3 g3 e3=>⟨j,k,e2,e3,q _ H3 ((g1.trans g2).trans g3) (by rw[decide_eq_true h,eG];rfl)⟩
  .rw[decide_eq_false h,if_neg xg]
   exact q _ H2 (g1.trans g2) (by rw[decide_eq_false h,fY];rfl)⟩)
end
section
variable{X:Cx}{pins:k92}{σ:St}{H:Hp}{l S I:aa}{xs:List V}{R:eV->ae->Prop}{dv:a9}
end
section
variable{X:Cx}{ρ:Rho}{a b c:ai}{ns:List Int}{i j k:Int}{n:Nat}{p p1 pk pos:aJ}
end
section
variable{X:Cx}{ρ ρ1 ρ':Rho}{e c:ai}{ss sa sb:List aS}{is is2:List Nat}{d:D}{i:Nat}{x:af}{p pos:aJ}
def DMs(X:Cx)(ρ ρ':Rho)(is:List Nat)(ss:List aS):Prop:=∀(σ:St)(H:Hp)(E:Ends),Rep X.K ρ σ H->(∀σ' H',j0 H H'->Rep X.K ρ' σ' H'->(∀j,j∉is->σ'[j]?=σ[j]?)->E.nx σ' H')->Zz X ss E σ H
theorem DMs.nil:DMs X ρ ρ [] []:=λσ H E R k=>Nz.to (k σ H (j0.refl _) R λ_ _=>rfl)
theorem DMs.set(he:DE X ρ e d)(hr:DMs X (ρ.set i (.val d)) ρ' is ss)(hN:X.N.Nodup)(hi:X.N[i]?=a3 x)(hx:Loc X.env.scope x)(hs:aG e (a3 (.Name x p)) pos.line X.env=pure a4)(hf:X.fn x=a5\/X.env.scope.names.lookup x=a3 .local) :
  DMs X ρ ρ' (i::is) (.Assign [.Name x p] e pos::ss):=λσ H E R k =>
 (Q4 psS Qn).to ((Vy hN hi hx peS hs hf).to (he σ H _ R λv H1 g1 e1=>hr _ H1 E ((R.grow g1).set_val e1) λσ' H' g R' fr=>k σ' H' (g1.trans g) R' λj hj=>by
  rw[fr j λz=>hj (km _ z),qe λz=>hj (by rw[z];exact xm)]))
theorem DMs.ifT(hc:DB X ρ c a5)(h1:DMs X ρ ρ1 is sa)(h2:DMs X ρ1 ρ' is2 ss):DMs X ρ ρ' (is++is2) (.If c sa sb pos::ss):=λσ H E R k =>
 (Q4 psS Qn).to ((j32 ptS Qn Qn).to (hc σ H _ R λH1 g1=>Fw (h1 σ H1 { E with nx:=Zz X ss E } (R.grow g1) λσ1 H2 g2 R2 f2=>h2 σ1 H2 E R2 λσ' H' g3 R' f3=>k σ' H' (g1.trans (g2.trans g3)) R' λj hj=>by
  rw[f3 j λz=>hj (Xd _ z),f2 j λz=>hj (P0 _ z)])))
theorem DMs.ifF(hc:DB X ρ c a4)(h1:DMs X ρ ρ1 is sb)(h2:DMs X ρ1 ρ' is2 ss):DMs X ρ ρ' (is++is2) (.If c sa sb pos::ss):=λσ H E R k =>
 (Q4 psS Qn).to ((j32 ptS Qn Qn).to (hc σ H _ R λH1 g1=>Fx (h1 σ H1 { E with nx:=Zz X ss E } (R.grow g1) λσ1 H2 g2 R2 f2=>h2 σ1 H2 E R2 λσ' H' g3 R' f3=>k σ' H' (g1.trans (g2.trans g3)) R' λj hj=>by
  rw[f3 j λz=>hj (Xd _ z),f2 j λz=>hj (P0 _ z)])))
def DMt(X:Cx)(ρ ρ':Rho)(is:List Nat)(full tl:List aS):Prop:=∀(σ:St)(H:Hp)(E:Ends),Rep X.K ρ σ H->(∀σ' H',j0 H H'->Rep X.K ρ' σ' H'->(∀j,j∉is->σ'[j]?=σ[j]?)->Zz X tl E σ' H')->Zz X full E σ H
variable{tl:List aS}
end
def Kp(ρ ρ':Rho)(is:List Nat):Prop:=(∀b∈owns ρ',b∈owns ρ)/\∀j,j∉is->ρ'[j]?=ρ[j]?
section
variable{X:Cx}{ρ ρ1 ρ':Rho}{is js:List Nat}{i:Nat}{d:D}
theorem Kp.refl:Kp ρ ρ is:=⟨λ_ h=>h,λ_ _=>rfl⟩
theorem Kp.set(h:Kp (ρ.set i (.val d)) ρ' is):Kp ρ ρ' (i::is) :=
 ⟨λb hb=>(jf rfl).subset (h.1 b hb),λj hj=>by
  rw[h.2 j λz=>hj (km _ z),qe λz=>hj (by rw[z];exact xm)]⟩
theorem Kp.trans{js2:List Nat}(h:Kp ρ ρ1 is)(h2:Kp ρ1 ρ' js)(k1:∀j∈is,j∈js2)(k2:∀j∈js,j∈js2):Kp ρ ρ' js2 :=
 ⟨λb hb=>h.1 b (h2.1 b hb),λj hj=>by rw[h2.2 j λz=>hj (k2 j z),h.2 j λz=>hj (k1 j z)]⟩
theorem Be:∀{ds:List D}{i:Nat}{d:D},jn ds=a5->ds[i]?=a3 d->vf d=a5
 |[],_,_,_,h=>by simp at h
 |x::ds,0,d,h,e=>by simp at e;subst e;exact(by simpa [jn]using h:vf x=a5/\jn ds=a5).1
 |x::ds,i+1,d,h,e=>by simp at e;exact Be (by simpa [jn]using h:vf x=a5/\jn ds=a5).2 e
theorem j12{l:List D}(h:jn l=a5){i:Nat}{d:D}(e:(zb l)[i]?=a3 d):vf d=a5:=by
 rw[Va]at e;cases z:l[i]? with
 |none=>rw[z]at e;cases e
 |some x =>rw[z]at e;cases e;simp[vf,jn,Be h z]
theorem DSs.lend{P:Po}{f:Nat}{nf:af}{a:aa}{l ds:List D}{tg it:ai}{body rest:List aS}{p6 p7 p8 p9 pos:aJ}(W:Nat->Rho->Prop)(hk:ρ[f]?=a3 (.own a l))(nl:∀(i:Nat)(d:D),ds[i]?=a3 d->vf d=a5)
  (hi:DI X (ρ.set f (.val (.lst l))) tg it ds) (h0:W 0 ρ)
  (hs:∀i d ρ',ds[i]?=a3 d->W i ρ'->ρ'[f]?=a3 (.own a l)->∃ρ2 ρ3 is,DG X ρ' tg d ρ2/\DMs X ρ2 ρ3 is body/\W (i+1) ρ3/\ρ3[f]?=a3 (.own a l)/\∀b∈owns ρ3,b∈owns ρ2)
  (hd:∀ρ',W ds.length ρ'->ρ'[f]?=a3 (.own a l)->DSs X (ρ'.set f (.own a [])) rest P)
  (hc:X.calm=a5) (hp:dG (ax X.prog X.w) X.A X.env X.xe) (hf:∀x,aC it X.env x=pure x)
  (iF:X.N[f]?=a3 nf) (vF:Vis X.env.scope nf) (dF:(nf==k94)=a4) (cF:(nf==k95)=a4) (hline:(p7.endLine==p8.line)=a5)
  (hbase:aF (.Name nf p6) "clear" X.env (ay (.Name nf p6) X.env)=ay (.Name nf p6) X.env) :
  DSs X ρ (.For tg it body [] pos::.Expr (.Call (.Attribute (.Name nf p6) "clear" p7) [] [] p8) p9::rest) P:=λσ H E R q=>by
 refine(Q4 psS Qn).to ((Eg hp hc piS pgS Qn hf).to (hi σ H _ (R.freeze hk) λJ H1 g1 ok=>?_));refine⟨λi m σ' H'=>∃ρ',W i ρ'/\ρ'[f]?=a3 (.own a l)/\(∀b∈owns ρ',b∈owns ρ)/\Rep X.K ρ' σ' H'/\j0 H1 H'/\m=ds.length-i/\i<=ds.length,⟨ds.length,ρ,h0,hk,λ_ h=>h,R.grow g1,j0.refl _,rfl,T6 _⟩,?_⟩;rintro i m σ' H' ⟨ρ',w,hk',sub,R',g,rfl,hle⟩;obtain⟨go,stop,yld⟩:=ok i H' [] (λb o z=>by
  obtain⟨_,z⟩:=of_del z
  rw[j6 (by simp)];exact g b o z) λa ha=>nomatch ha
 by_cases hlt:i<ds.length
 .refine .inr ⟨go hlt,λσ2 H2=>∃ρ2,W (i+1) ρ2/\ρ2[f]?=a3 (.own a l)/\(∀b∈owns ρ2,b∈owns ρ)/\Rep X.K ρ2 σ2 H2/\j0 H1 H2,λσ2 H2 ⟨ρ2,w2,k2,s2,R2,f2⟩=>⟨ds.length-(i+1),by omega,ρ2,w2,k2,s2,R2,f2,rfl,hlt⟩,λx H2 y=>?_⟩;obtain⟨g2,en⟩:=yld x H2 y;have hd':=kh hlt;obtain⟨ρ2,ρ3,is,⟨sub2,hG⟩,hB,w3,k3,s3⟩:=hs i ds[i] ρ' hd' w hk';have R2:=R'.grow g2;have en':Enc X.K (del H2 (owns ρ')) ds[i] x:=by
   have z:=Enc.hide (A:=owns ρ') (λc hc=>by
    rw[j6 (by simp)];exact .inl (R2.owned c hc)) (nl i _ hd') (en _ hd')
   exact z.mono λb o z=>by obtain⟨nb,z⟩:=of_del z;rw[j6 (by simp)]at z;rw[j6 nb];exact z
  refine hG σ' H2 x _ R2 en' λσ3 R3=>?_;exact hB σ3 H2 _ R3 λσ4 H4 g4 R4 _=>⟨ρ3,w3,k3,λb hb=>sub b (sub2 b (s3 b hb)),R4,g.trans (g2.trans g4)⟩
 .have e:i=ds.length:=by omega
  subst e;refine .inl ⟨stop (X5 _),?_⟩;refine DSs.then (X:=X) (ρ:=ρ') (P:=P) (DS.clear f hk' rfl iF vF dF cF hline hbase rfl) (hd ρ' w hk') σ' H' E R' (q.step λb o z=>?_);obtain⟨nb,z⟩:=of_del z;rw[j6 λy=>nb (sub b y)];exact g b o (g1 b o z)
end
end L2
end
section
namespace L2
noncomputable def Z2(t:Int):List Int:=if t=2 then[0,1] else[t]
noncomputable def step(acc:List (List Int))(f:List Int):List (List Int):=acc.flatMap λa=>f.map λx=>a++[x]
noncomputable def qx(fs:List (List Int)):List (List Int):=fs.foldl step [[]]
noncomputable def zp:List (List Int)->List (List Int)
 |[]=>[[]]
 |f::fs=>f.flatMap λx=>(zp fs).map (x :: ·)
theorem Br:∀(fs:List (List Int)) (acc:List (List Int)),fs.foldl step acc=acc.flatMap λa=>(zp fs).map (a ++ ·)
 |[],acc=>by simp[zp]
 |f::fs,acc=>by
  rw[Tf,Br fs,step,List.flatMap_assoc];congr 1
  funext a
  rw[zp,List.map_flatMap,List.flatMap_map];congr 1
  funext x
  rw[Xa];congr 1
  funext r
  simp
theorem Js(fs:List (List Int)):qx fs=zp fs:=by rw[qx,Br];simp
noncomputable def V0:Nat->List (List Int)
 |0=>[[]]
 |m+1=>(V0 m).map (0 :: ·)++(V0 m).map (1 :: ·)
theorem Iw:∀m,(V0 m).length=2^m
 |0=>rfl
 |m+1=>by rw[V0,Xe,kj,kj,Iw m,T7];omega
theorem Oi{b:Int}(hb:0<b)(n c:Int):∀{i m:Nat},i<=m->j4 b i (n+b^m*c)=j4 b i n
 |0,m,_=>rfl
 |i+1,m,h=>by
  rw[j4,j4,Oi hb n c nofun];congr 1;obtain⟨k,rfl⟩:∃k,m=i+(k+1):=⟨m-i-1,by omega⟩
  have hp:b^i≠0:=i8 (cB hb);rw[Int.pow_add,kL,dJ _ _ hp,i7,dA (b^k) b,kL,Int.add_mul_emod_self_left]
theorem Iz:∀m:Nat,(ar (2^m)).map (λn=>j4 2 m ((n:Nat):Int))=V0 m
 |0=>rfl
 |m+1=>by
  have e:2^(m+1)=2^m+2^m:=by rw[T7];omega
  rw[e,List.range_add,Xf,V0,<-Iz m,Xa,Xa,Xa];have pc:((2^m:Nat):Int)=(2:Int)^m:=by simp
  congr 1
  .apply Ph;intro n hn;have hn':n<2^m:=Xp.mp hn;show j4 2 (m+1) (n:Int)=0::j4 2 m (n:Int);rw[j4];congr 1;have h0:(n:Int)/2^m=0:=Tw nofun (by rw[<-pc];omega)
   rw[h0];rfl
  .apply Ph;intro n hn;have hn':n<2^m:=Xp.mp hn;show j4 2 (m+1) ((2^m+n:Nat):Int)=1::j4 2 m (n:Int);have e1:((2^m+n:Nat):Int)=(n:Int)+2^m*1:=by rw[kg,pc,lR,ia]
   rw[e1,j4,Oi (by decide) _ _ (X5 m)];congr 1;have hp:(2:Int)^m≠0:=i8 (cB (by decide));have h0:(n:Int)/2^m=0:=Tw nofun (by rw[<-pc];omega)
   rw[dJ _ _ hp,h0];rfl
noncomputable def fits:List Int->List Int->Bool
 |t::ts,x::xs=>(t==2 || t==x)&&fits ts xs
 |_,_=>a5
theorem Wq:∀{p:List Int},(∀t∈p,0<=t/\t<3)->(V0 p.length).filter (fits p)=zp (p.map Z2)
 |[],_=>rfl
 |t::ts,h=>by
  have ih:=Wq (p:=ts) λu hu=>h u (km _ hu);rw[xq,V0,sr,xr,zp,<-ih];have key:∀x:Int,((V0 ts.length).map (x :: ·)).filter (fits (t::ts))=if (t==2 || t==x)=a5 then((V0 ts.length).filter (fits ts)).map (x :: ·) else[]:=λx=>by
   rw[k6];by_cases c:(t==2 || t==x)=a5
   .rw[if_pos c];congr 1;apply List.filter_congr;intro r _;show((t==2 || t==x)&&fits ts r)=fits ts r;rw[c,eG]
   .rw[if_neg c];have:(fits (t::ts) ∘ λr=>x::r)=λ_=>a4:=by
     funext r
     show((t==2 || t==x)&&fits ts r)=a4;rw[Bool.eq_false_iff.mpr c,fY]
    rw[this];simp
  rw[key 0,key 1];have ht:=h t (xm ..);have:t=0\/t=1\/t=2:=by omega
  rcases this with e|e|e<;>subst e<;>simp[Z2]
theorem Vz:∀p:List Int,(zp (p.map Z2)).length=2^(p.countP λt=>t==2)
 |[]=>rfl
 |t::ts=>by
  have ih:=Vz ts;rw[xr,zp,Xx];by_cases c:t=2
  .subst c;simp[Z2,ih,T7];omega
  .have e1:Z2 t=[t]:=if_neg c;have e2:(t==2)=a4:=by simpa using c
   rw[e1,e2];simp[ih]
end L2
end
section
namespace L2
open PySem
inductive Sv where
 |un
 |val (d:D)
 |own (l:List D)
 |exc (x:af)
noncomputable abbrev En:=List Sv
set_option genInjectivity true in
inductive Rk where
 |e (d:D)
 |o (l:List D)
 |w (l:List D)
 |t (d:D)
noncomputable def Rk.d:Rk->D
 |.e d=>d
 |.o l=>.lst l
 |.w l=>.lst l
 |.t d=>d
noncomputable def Rk.st:Rk->Option D
 |.e d=>a3 d
 |.o l=>a3 (.lst l)
 |.w l=>a6
 |.t d=>if vf d=a5 then a3 d else a6
noncomputable def Rk.sq:Rk->Option (Bool×List D)
 |.e (.lst l)=>a3 (a5,l)
 |.e (.tup l)=>a3 (a4,l)
 |.o l=>a3 (a5,l)
 |.w l=>a3 (a5,l)
 |_=>a6
noncomputable def Rk.lw:Rk->Option (List D)
 |.o l=>a3 l
 |.w l=>a3 l
 |_=>a6
inductive Rc where
 |val (d:D)
 |fresh (l:List D)
 |err (x:af)
 |lval (d:D)
 |no
noncomputable def Rc.rk:Rc->Option Rk
 |.val d=>a3 (.e d)
 |.fresh l=>a3 (.o l)
 |_=>a6
inductive Bop where
 |add|sub|mul|fdiv|mod|pow|shl|shr|band|bxor
inductive Cop where
 |lt|le|gt|ge|eq|ne|isin|notin
inductive Bf where
 |len|min|max|all|tuple|list|sum|int|any|sorted
inductive Mf where
 |count
inductive Ex where
 |lit (d:D)
 |var (i:Nat)
 |glob (x:af)
 |bin (op:Bop) (a b:Ex)
 |neg (a:Ex)
 |cmp (op:Cop) (a b:Ex)
 |isN (a:Ex)
 |and (a b:Ex)
 |or (a b:Ex)
 |not (a:Ex)
 |ite (c a b:Ex)
 |nil
 |cons (a b:Ex)
 |tup (es:Ex)
 |lst (es:Ex)
 |ix (a b:Ex)
 |sl (a lo hi:Ex)
 |call (f:af) (es:Ex)
 |blt (f:Bf) (es:Ex)
 |meth (m:Mf) (a es:Ex)
 |isi (a:Ex) (ts:List String)
 |comp (is:List Nat) (elt it cond:Ex)
 |seq (a:Ex)
 |range (es:Ex)
 |fst (es:Ex)
 |isx (i:Nat) (cs:List af)
 |join (sep:af) (a:Ex)
 |enum (a:Ex)
 |lrng (a:Ex)
 |tix (a b:Ex)
 |dzip (a b:Ex)
 |callD (f:af) (es:Ex)
 |chn (a b c:Ex)
 |che (a b c:Ex)
 |maxD (a:Ex)
 |callK (f:af) (es a:Ex)
 |dix (a b:Ex)
 |dnil
 |rpr (a:Ex)
 |upr (a:Ex)
 |din (a b:Ex)
 |items (a:Ex)
 |callV (i:Nat) (es:Ex)
 |dget (a b:Ex)
 |dvals (a:Ex)
 |minT (a:Ex)
set_option genInjectivity true in
inductive W where
 |v (r:Rk)
 |a (rs:List Rk)
 |i (ds:List D)
noncomputable def jl(n:Nat):Bool:=decide (n<=aj)
noncomputable def binI:Bop->Int->Int->Option Int
 |.add,i,j=>a3 (i+j)
 |.sub,i,j=>a3 (i-j)
 |.mul,i,j=>if (-(2^64)<i/\i<2^64)\/(-(2^64)<j/\j<2^64)then a3 (i*j)else a6
 |.fdiv,i,j=>if 0<j/\j<18446744073709551616 then a3 (i/j)else a6
 |.mod,i,j=>if 0<j then a3 (i%j)else a6
 |.pow,i,j=>if 0<=j/\j<=1000000/\i.natAbs<2^64 then a3 (i^j.toNat)else a6
 |.shl,i,j=>if 0<=j/\j<=1000000/\i.natAbs<2^64 then a3 (i*2^j.toNat)else a6
 |.shr,i,j=>if 0<=j then a3 (i/2^j.toNat)else a6
 |.band,i,j=>a3 (Builtin.bitAnd i j)
 |.bxor,i,j=>a3 (Builtin.bitXor i j)
noncomputable def Vj(op:Bop)(a b:Rk):Option Rk :=
 match a.d,b.d with
 |.int i,.int j=>(binI op i j).map λk=>.e (.int k)
 |.str y,.str z=>match op with
  |.add=>if jl (y.length+z.length)=a5 then a3 (.e (.str (y++z)))else a6
  |_=>a6
 |.str y,.int k=>match op with
  |.mul=>if (1<=k/\k<=1000)/\y.length<=1000 then a3 (.e (.str (iY y k)))else a6
  |_=>a6
 |_,_=>match op,a.sq,b.sq,b.d with
  |.add,a3 (a5,l),a3 (a5,m),_=>if jl (l.length+m.length)=a5 then a3 (.o (l++m))else a6
  |.add,a3 (a4,l),a3 (a4,m),_=>if jl (l.length+m.length)=a5 then a3 (.e (.tup (l++m)))else a6
  |.mul,a3 (a4,l),_,.int k=>if 1<=k/\k<2^63/\l.isEmpty=a4/\jl (l.length*k.toNat)=a5 then a3 (.e (.tup (aq k.toNat l).flatten))else a6
  |.mul,_,_,.int k=>match a.lw with
   |some l=>if -(2^63)<=k/\k<2^63/\jl (l.length*k.toNat)=a5 then a3 (.o (aq k.toNat l).flatten)else a6
   |none=>a6
  |_,_,_,_=>a6
noncomputable def cmpI:Cop->Int->Int->Option Bool
 |.lt,i,j=>a3 (decide (i<j))
 |.le,i,j=>a3 (decide (i<=j))
 |.gt,i,j=>a3 (decide (j<i))
 |.ge,i,j=>a3 (decide (j<=i))
 |.eq,i,j=>a3 (decide (i=j))
 |.ne,i,j=>a3 (!decide (i=j))
 |_,_,_=>a6
noncomputable def D.sqv:D->Option (Bool×List D)
 |.lst l=>a3 (a5,l)
 |.tup l=>a3 (a4,l)
 |_=>a6
noncomputable def Qd(op:Cop)(a b:D):Option Bool :=
 match op,a,b with
 |op,.int i,.int j=>cmpI op i j
 |.eq,a,b=>if a.dep<=90/\b.dep<=90 then a3 (deq a b)else a6
 |.ne,.bl a,.bl b=>a3 (a != b)
 |.ne,.str a,.str b=>a3 (!decide (a=b))
 |.ne,.non,.non=>a3 a4
 |.ne,.lst l,.lst m=>if D.depL l<=90/\D.depL m<=90 then a3 (!zy l m)else a6
 |.ne,.tup l,.tup m=>if D.depL l<=90/\D.depL m<=90 then a3 (!zy l m)else a6
 |.isin,.str a,.str b=>a3 (inS a b)
 |.lt,.str a,.str b=>a3 (decide (a.cps.toList<b.cps.toList))
 |.gt,.str a,.str b=>a3 (decide (b.cps.toList<a.cps.toList))
 |.isin,a,b=>match b.sqv with
  |some (_,l)=>if D.depL l<=90/\a.dep<=90 then a3 (l.any λe=>deq e a)else a6
  |none=>a6
 |.notin,a,b=>match b.sqv with
  |some (_,l)=>if D.depL l<=90/\a.dep<=90 then a3 (!l.any λe=>deq e a)else a6
  |none=>a6
 |_,_,_=>a6
noncomputable def boolsOf:List D->Option (List Bool)
 |[]=>a3 []
 |.bl b::r=>(boolsOf r).map (b :: ·)
 |_::_=>a6
noncomputable def intsOf:List D->Option (List Int)
 |[]=>a3 []
 |.int b::r=>(intsOf r).map (b :: ·)
 |_::_=>a6
noncomputable def strsOf:List D->Option (List af)
 |[]=>a3 []
 |.str b::r=>(strsOf r).map (b :: ·)
 |_::_=>a6
noncomputable def Zb:Bf->List Rk->Option Rk
 |.len,[a]=>match a.d with
  |.lst l=>a3 (.e (.int l.length))
  |.tup l=>a3 (.e (.int l.length))
  |.str y=>if jl y.length=a5 then a3 (.e (.int y.length))else a6
  |_=>a6
 |.min,[a,b]=>match a.d,b.d with
  |.int i,.int j=>a3 (.e (.int (if j<i then j else i)))
  |_,_=>a6
 |.max,[a,b]=>match a.d,b.d with
  |.int i,.int j=>a3 (.e (.int (if j>i then j else i)))
  |_,_=>a6
 |.max,[a]=>match a.d with
  |.lst l=>match intsOf l with
   |some ns=>if ns.isEmpty=a4 then a3 (.e (.int (vo ns)))else a6
   |none=>a6
  |_=>a6
 |.min,[a]=>match a.d with
  |.lst l=>match intsOf l with
   |some ns=>if ns.isEmpty=a4 then a3 (.e (.int (Z7 ns)))else a6
   |none=>a6
  |_=>a6
 |.all,[a]=>match a.d with
  |.lst l=>(boolsOf l).map λbs=>.e (.bl (bs.all id))
  |_=>a6
 |.any,[a]=>match a.d with
  |.lst l=>(boolsOf l).map λbs=>.e (.bl (bs.any id))
  |_=>a6
 |.tuple,[a]=>match a.sq with
  |some (_,l)=>a3 (.e (.tup l))
  |none=>a6
 |.list,[a]=>match a.sq with
  |some (_,l)=>a3 (.o l)
  |none=>a6
 |.sum,[a]=>match a.d with
  |.lst l=>(intsOf l).map λns=>.e (.int ns.sum)
  |.tup l=>(intsOf l).map λns=>.e (.int ns.sum)
  |_=>a6
 |.int,[a]=>match a.d with
  |.bl k=>a3 (.e (.int (if k then 1 else 0)))
  |_=>a6
 |_,_=>a6
noncomputable def j3c:Mf->Rk->List Rk->Option Rk
 |.count,a,[b]=>match a.d with
  |.tup l=>if D.depL l<=90/\b.d.dep<=90 then a3 (.e (.int (l.countP λe=>deq e b.d)))else a6
  |.lst l=>if D.depL l<=90/\b.d.dep<=90 then a3 (.e (.int (l.countP λe=>deq e b.d)))else a6
  |_=>a6
 |_,_,_=>a6
noncomputable def Y6(t c:String):Option Bool :=
 if t = "function" then a6 else
 if c = "int" then a3 (t == "int" || t == "bool") else
 if c = "bool" then a3 (t == "bool") else
 if c = "str" then a3 (t == "str") else
 if c = "list" then a3 (t == "list") else
 if c = "tuple" then a3 (t == "tuple")else a6
noncomputable def Y7(d:D):List String->Option Bool
 |[]=>a3 a4
 |c::cs=>match Y6 d.ty c,Y7 d cs with
  |some a,a3 b=>a3 (a || b)
  |_,_=>a6
noncomputable def qy:List Nat->D->En->Option En
 |[i],d,ρ=>a3 (ρ.set i (.val d))
 |[i,j],d,ρ=>match d with
  |.tup [a,b]=>a3 ((ρ.set i (.val a)).set j (.val b))
  |_=>a6
 |[i,j,k],d,ρ=>match d with
  |.tup [a,.tup [b,c]]=>a3 (((ρ.set i (.val a)).set j (.val b)).set k (.val c))
  |_=>a6
 |[i,j,k,_],d,ρ=>match d with
  |.tup [a,b,c]=>a3 (((ρ.set i (.val a)).set j (.val b)).set k (.val c))
  |_=>a6
 |_,_,_=>a6
noncomputable def Ke(is:List Nat)(ρ:En):Bool:=is.all λi=>match ρ[i]? with
 |some .un=>a5
 |_=>a4
noncomputable def Jy(f:D->Option (Option D)):List D->Option (List D)
 |[]=>a3 []
 |d::ds=>match f d,Jy f ds with
  |some (a3 x),a3 xs=>a3 (x::xs)
  |some a6,a3 xs=>a3 xs
  |_,_=>a6
noncomputable def v6:List Rk->Option (List D)
 |[]=>a3 []
 |r::rs=>match r.st,v6 rs with
  |some d,a3 ds=>a3 (d::ds)
  |_,_=>a6
noncomputable def W.one:W->Option Rk
 |.v r=>a3 r
 |_=>a6
noncomputable def W.args:W->Option (List Rk)
 |.a rs=>a3 rs
 |_=>a6
noncomputable def W.it:W->Option (List D)
 |.i ds=>a3 ds
 |_=>a6
noncomputable def Qe:Option W->Option (Option Int)
 |some (.a [])=>a3 a6
 |some (.a [r])=>match r.d with
  |.int i=>a3 (a3 i)
  |_=>a6
 |_=>a6
noncomputable def truth:Option W->Option Bool
 |some (.v r)=>match r.d with
  |.bl k=>a3 k
  |_=>a6
 |_=>a6
noncomputable def j87:Ex->Option Nat
 |.seq (.var i)=>a3 i
 |.enum (.var i)=>a3 i
 |_=>a6
noncomputable def frz(t:Ex)(ρ:En):En:=match j87 t with
 |some i=>match ρ[i]? with
  |some (.own l)=>ρ.set i (.val (.lst l))
  |_=>ρ
 |none=>ρ
noncomputable def J8(t:Ex)(ρ:En):Bool:=match j87 t with
 |some i=>match ρ[i]? with
  |some (.own _)=>a5
  |_=>a4
 |none=>a4
noncomputable def vd:D->Option af
 |.int i=>if -18446744073709551616<i/\i<18446744073709551616 then a3 (aU (toString i))else a6
 |.str y=>if y.length<=2000 then a3 y else a6
 |_=>a6
noncomputable def Jc:List Rk->Option (List af)
 |[]=>a3 []
 |r::rs=>match vd r.d,Jc rs with
  |some y,a3 ys=>a3 (y::ys)
  |_,_=>a6
noncomputable def bang(x:af):af:=("!":af)++x
noncomputable def qm(f:af):af:=("??":af)++f
noncomputable def tupI:D->Option (List Int)
 |.tup l=>intsOf l
 |_=>a6
noncomputable def j3b(kf:D->Option Int):D->Int->List D->Option D
 |b,_,[]=>a3 b
 |b,kb,d::ds=>match kf d with
  |some k=>if k<kb then j3b kf d k ds else j3b kf b kb ds
  |none=>a6
noncomputable def Ri:List D->Option (List (List Int))
 |[]=>a3 []
 |d::ds=>match tupI d,Ri ds with
  |some k,a3 ks=>a3 (k::ks)
  |_,_=>a6
noncomputable def prI:D->Option (Int×List Int)
 |.tup [.int a,d]=>(tupI d).map λk=>(a,k)
 |_=>a6
noncomputable def Fb:List D->Option (List (Int×List Int))
 |[]=>a3 []
 |d::ds=>match prI d,Fb ds with
  |some k,a3 ks=>a3 (k::ks)
  |_,_=>a6
noncomputable def Rc.lv:Rc->Option W
 |.lval d=>a3 (.v (.e d))
 |_=>a6
noncomputable def Ob(w:Option W):Option W:=match w with
 |some (.a rs)=>if rs.length<=1000 then(Jc rs).map λys=>.v (.e (.str (Bl fA ys)))else a6
 |_=>a6
noncomputable def jjd(w:Option W):Option W:=match w with
 |some (.v x)=>match x.d with
  |.str y=>if y.length<=1000 then a3 (.v (.e (.str (PySem.Txt.upper y))))else a6
  |_=>a6
 |_=>a6
noncomputable def Nh(s:Option Sv):Option W:=match s with
 |some (.val d)=>a3 (.v (.e d))
 |some (.own l)=>a3 (.v (.w l))
 |_=>a6
noncomputable def blW(i:Option Bool):Option W:=i.map λk=>.v (.e (.bl k))
noncomputable def rkW(r:Option Rk):Option W:=r.map .v
noncomputable def Ji(op:Bop)(a b:Option W):Option W:=match a,b with
 |some (.v x),a3 (.v y)=>rkW (Vj op x y)
 |_,_=>a6
noncomputable def Es(a:Option W):Option W:=match a with
 |some (.v x)=>match x.d with
  |.int i=>a3 (.v (.e (.int (-i))))
  |_=>a6
 |_=>a6
noncomputable def Dj(op:Cop)(a b:Option W):Option W:=match a,b with
 |some (.v x),a3 (.v y)=>blW (Qd op x.d y.d)
 |_,_=>a6
noncomputable def consW(a b:Option W):Option W:=match a,b with
 |some (.v x),a3 (.a xs)=>a3 (.a (x::xs))
 |_,_=>a6
noncomputable def Zj(a:Option W):Option W:=match a with
 |some (.a rs)=>match v6 rs with
  |some ds=>if jl ds.length=a5 then a3 (.v (.e (.tup ds)))else a6
  |none=>a6
 |_=>a6
noncomputable def Zq(a:Option W):Option W:=match a with
 |some (.a rs)=>match v6 rs with
  |some ds=>if jl ds.length=a5 then a3 (.v (.o ds))else a6
  |none=>a6
 |_=>a6
noncomputable def ixW(a b:Option W):Option W:=match a,b with
 |some (.v x),a3 (.v y)=>match x.sq,y.d with
  |some (_,l),.int i=>(atI l i).map λd=>.v (.e d)
  |none,.int i=>match x.d with
   |.str z=>if jl z.length=a5 then(atI z.cps.toList i).map λc=>.v (.e (.str ⟨#[c]⟩))else a6
   |_=>a6
  |_,_=>a6
 |_,_=>a6
noncomputable def Rv(sep:af)(a:Option W):Option W:=match a with
 |some (.v x)=>match x.d with
  |.lst l=>match strsOf l with
   |some ts=>if eW sep ts=a5 then a3 (.v (.e (.str (dQ sep ts))))else a6
   |none=>a6
  |_=>a6
 |_=>a6
noncomputable def Nr(a b:Option W):Option W:=match a,b with
 |some (.v x),a3 (.v y)=>match x.d with
  |.tup l=>if D.depL l<=90/\y.d.dep<=90 then(ixD y.d l).map λk=>.v (.e (.int (k:Nat)))else a6
  |.lst l=>if D.depL l<=90/\y.d.dep<=90 then(ixD y.d l).map λk=>.v (.e (.int (k:Nat)))else a6
  |_=>a6
 |_,_=>a6
noncomputable def ji3(a:Option W):Option W:=match a with
 |some (.v y)=>match y.d with
  |.int n=>if 0<=n/\n<=1000000 then a3 (.v (.o ((ar n.toNat).map λ(i:Nat)=>D.int (i:Int))))else a6
  |_=>a6
 |_=>a6
noncomputable def Ut(a:Option W):Option W:=match a with
 |some (.v x)=>match x.st with
  |some (.lst l)=>a3 (.i (zb l))
  |some (.tup l)=>a3 (.i (zb l))
  |_=>a6
 |_=>a6
noncomputable def Qk(Γ:af->List D->Rc)(f:af)(a:Option W):Option W:=match a with
 |some (.a rs)=>match v6 rs with
  |some ds=>rkW (Γ f ds).rk
  |none=>match Γ f (rs.map Rk.d) with
   |.val d=>a3 (.v (.t d))
   |_=>a6
 |_=>a6
noncomputable def vp(f:Bf)(a:Option W):Option W:=match a with
 |some (.a rs)=>rkW (Zb f rs)
 |_=>a6
noncomputable def Rr(m:Mf)(a b:Option W):Option W:=match a,b with
 |some (.v x),a3 (.a rs)=>rkW (j3c m x rs)
 |_,_=>a6
noncomputable def j02(a:Option W)(ts:List String):Option W:=match a with
 |some (.v x)=>blW (Y7 x.d ts)
 |_=>a6
noncomputable def Mw(a:Option W):Option W:=match a with
 |some (.v (.e (.lst l)))=>a3 (.i l)
 |some (.v (.e (.tup l)))=>a3 (.i l)
 |some (.v (.o l))=>a3 (.i l)
 |some (.v (.e (.str y)))=>if ascii y=a5 then a3 (.i (chs y))else a6
 |_=>a6
noncomputable def Wg(a:Option W):Option W:=match a with
 |some (.a [x])=>match x.d with
  |.int n=>if -(2^62)<=n/\n<2^62 then a3 (.i (upto 0 n.toNat))else a6
  |_=>a6
 |some (.a [x,y])=>match x.d,y.d with
  |.int m,.int n=>if -(2^62)<=m/\m<2^62/\-(2^62)<=n/\n<2^62 then a3 (.i (upto m (n-m).toNat))else a6
  |_,_=>a6
 |_=>a6
noncomputable def jkb(a b:Option W):Option W:=match a,b with
 |some (.v x),a3 (.v y)=>match x.d,y.d with
  |.tup l,.dct ks _=>(intsOf l).map λk=>.v (.e (.bl (ks.contains k)))
  |_,_=>a6
 |_,_=>a6
noncomputable def jf2(a:Option W):Option W:=match a with
 |some (.v (.e (.dct ks ds)))=>a3 (.i (jf3 ks ds))
 |_=>a6
noncomputable def jir(a b:Option W):Option W:=match a,b with
 |some (.v x),a3 (.v y)=>match x.st.bind D.sqv,y.st.bind D.sqv with
  |some (_,l),a3 (_,m)=>match strsOf l,intsOf m with
   |some ks,a3 ns=>if ks.Nodup/\ks.length=ns.length/\jl ks.length=a5 then a3 (.v (.e (.sct (ks.zip ns))))else a6
   |_,_=>a6
  |_,_=>a6
 |_,_=>a6
noncomputable def jke(a b c:Option W):Option W:=match a,b,c with
 |some (.v x),a3 (.v y),a3 (.v z)=>match x.d,y.d,z.d with
  |.int i,.int j,.int k=>a3 (.v (.e (.bl (decide (i<=j)&&decide (j<=k)))))
  |_,_,_=>a6
 |_,_,_=>a6
noncomputable def ji2(a:Option W):Option W:=match a with
 |some (.v x)=>match x.d with
  |.lst l=>match intsOf l with
   |some ns=>a3 (.v (.e (.int (vo ns))))
   |none=>a6
  |_=>a6
 |_=>a6
noncomputable def j0k(a b c:Option W):Option W:=match a,b,c with
 |some (.v x),a3 (.v y),a3 (.v z)=>match x.d,y.d,z.d with
  |.int i,.int j,.int k=>a3 (.v (.e (.bl (decide (i<j)&&decide (j<k)))))
  |_,_,_=>a6
 |_,_,_=>a6
noncomputable def R9(Γ:af->List D->Rc)(s:Option Sv)(a:Option W):Option W:=match s,a with
 |some (.val (.fn x cs)),a3 (.a rs)=>match v6 rs with
  |some ds=>if Jw ds=a5 then(Γ (q8 x) (cs++ds)).lv else a6
  |none=>a6
 |_,_=>a6
noncomputable def Ry(a b:Option W):Option W:=match a,b with
 |some (.v (.e (.dct ks ds))),a3 (.v y)=>match tupI y.d with
  |some k=>(Qt ks ds k).map λd=>.v (.e d)
  |none=>a6
 |_,_=>a6
noncomputable def j0a(a:Option W):Option W:=match a with
 |some (.v (.e (.dct _ ds)))=>a3 (.v (.e (.tup ds)))
 |_=>a6
noncomputable def Rq(a:Option W):Option W:=match a with
 |some (.v x)=>match x.d with
  |.lst l=>match Ri l with
   |some ks=>(ks[aW (Bh ks) (ks.length-1)]?).map λk=>.v (.t (.tup (k.map D.int)))
   |none=>match Fb l with
    |some ps=>(ps[aW (Z0 ps) (ps.length-1)]?).map λk=>.v (.t (pairD k))
    |none=>a6
  |_=>a6
 |_=>a6
noncomputable def jka(a b:Option W):Option W:=match a,b with
 |some (.v x),a3 (.v y)=>match x.d,y.d with
  |.sct kvs,.str k=>(jk9 kvs k).map λn=>.v (.e (.int n))
  |_,_=>a6
 |_,_=>a6
noncomputable def ev(Γ:af->List D->Rc)(G:af->Option D):Ex->En->Option W
 |.lit d,_=>a3 (.v (.e d))
 |.var i,ρ=>Nh ρ[i]?
 |.glob x,_=>(G x).map λd=>.v (.e d)
 |.bin op a b,ρ=>Ji op (ev Γ G a ρ) (ev Γ G b ρ)
 |.neg a,ρ=>Es (ev Γ G a ρ)
 |.cmp op a b,ρ=>Dj op (ev Γ G a ρ) (ev Γ G b ρ)
 |.isN a,ρ=>match ev Γ G a ρ with
  |some (.v x)=>a3 (.v (.e (.bl x.d.isNon)))
  |_=>a6
 |.and a b,ρ=>match truth (ev Γ G a ρ) with
  |some a4=>a3 (.v (.e (.bl a4)))
  |some a5=>(truth (ev Γ G b ρ)).map λk=>.v (.e (.bl k))
  |none=>a6
 |.or a b,ρ=>match truth (ev Γ G a ρ) with
  |some a5=>a3 (.v (.e (.bl a5)))
  |some a4=>(truth (ev Γ G b ρ)).map λk=>.v (.e (.bl k))
  |none=>a6
 |.not a,ρ=>(truth (ev Γ G a ρ)).map λk=>.v (.e (.bl (!k)))
 |.ite c a b,ρ=>match truth (ev Γ G c ρ) with
  |some a5=>match ev Γ G a ρ with
   |some (.v x)=>x.st.map λd=>.v (.e d)
   |_=>a6
  |some a4=>match ev Γ G b ρ with
   |some (.v x)=>x.st.map λd=>.v (.e d)
   |_=>a6
  |none=>a6
 |.nil,_=>a3 (.a [])
 |.cons a b,ρ=>consW (ev Γ G a ρ) (ev Γ G b ρ)
 |.tup es,ρ=>Zj (ev Γ G es ρ)
 |.lst es,ρ=>Zq (ev Γ G es ρ)
 |.ix a b,ρ=>ixW (ev Γ G a ρ) (ev Γ G b ρ)
 |.sl a lo hi,ρ=>match ev Γ G a ρ,Qe (ev Γ G lo ρ),Qe (ev Γ G hi ρ) with
  |some (.v x),a3 l,a3 h=>match x.sq with
   |some (a5,ds)=>a3 (.v (.o (cutD ds l h)))
   |some (a4,ds)=>if HT.sIx ds.length 0 l=0/\HT.sIx ds.length ds.length h=ds.length then a6 else a3 (.v (.e (.tup (cutD ds l h))))
   |none=>match x.d with
    |.str z=>if jl z.length=a5 then a3 (.v (.e (.str (bG z l h))))else a6
    |_=>a6
  |_,_,_=>a6
 |.call f es,ρ=>Qk Γ f (ev Γ G es ρ)
 |.blt f es,ρ=>vp f (ev Γ G es ρ)
 |.meth m a es,ρ=>Rr m (ev Γ G a ρ) (ev Γ G es ρ)
 |.isi a ts,ρ=>j02 (ev Γ G a ρ) ts
 |.comp is elt it cond,ρ=>match ev Γ G it (frz it ρ) with
  |some (.i ds)=>if Ke is (frz it ρ)=a5/\jl ds.length=a5 then
    (Jy (λd=>match qy is d (frz it ρ) with
     |none=>a6
     |some ρ2=>match ev Γ G cond ρ2 with
      |some (.a [])=>match ev Γ G elt ρ2 with
       |some (.v x)=>x.st.map a3
       |_=>a6
      |some (.a [y])=>match y.d with
       |.bl a5=>match ev Γ G elt ρ2 with
        |some (.v x)=>x.st.map a3
        |_=>a6
       |.bl a4=>a3 a6
       |_=>a6
      |_=>a6) ds).bind λl=>if (J8 it ρ && !jn l)=a5 then a6 else a3 (.v (.o l))
   else a6
  |_=>a6
 |.seq a,ρ=>Mw (ev Γ G a ρ)
 |.chn a b c,ρ=>j0k (ev Γ G a ρ) (ev Γ G b ρ) (ev Γ G c ρ)
 |.che a b c,ρ=>jke (ev Γ G a ρ) (ev Γ G b ρ) (ev Γ G c ρ)
 |.maxD a,ρ=>ji2 (ev Γ G a ρ)
 |.range es,ρ=>Wg (ev Γ G es ρ)
 |.fst es,ρ=>Ob (ev Γ G es ρ)
 |.isx i cs,ρ=>match ρ[i]?,G "?" with
  |some (.exc x),a3 (.bl a5)=>if jt.contains x=a5 then a3 (.v (.e (.bl (cs.any λc=>c == "ValueError" || x==c))))else a6
  |_,_=>a6
 |.join sep a,ρ=>Rv sep (ev Γ G a ρ)
 |.enum a,ρ=>Ut (ev Γ G a ρ)
 |.tix a b,ρ=>Nr (ev Γ G a ρ) (ev Γ G b ρ)
 |.dzip a b,ρ=>jir (ev Γ G a ρ) (ev Γ G b ρ)
 |.callD f es,ρ=>match ev Γ G es ρ with
  |some (.a rs)=>match v6 rs with
   |some ds=>match Γ f (ds++[.non]) with
    |.val d=>a3 (.v (.e d))
    |_=>a6
   |none=>a6
  |_=>a6
 |.callK f es a,ρ=>match ev Γ G es ρ,ev Γ G a ρ with
  |some (.a rs),a3 (.v x)=>match v6 rs,x.st with
   |some ds,a3 d'=>match Γ f (ds++[d']) with
    |.val d=>a3 (.v (.e d))
    |_=>a6
   |_,_=>a6
  |_,_=>a6
 |.dix a b,ρ=>jka (ev Γ G a ρ) (ev Γ G b ρ)
 |.dnil,_=>a3 (.v (.e (.sct [])))
 |.rpr a,ρ=>match ev Γ G a ρ with
  |some (.v x)=>match x.d with
   |.str y=>if (reprText y).length<=2000 then a3 (.v (.e (.str (reprText y))))else a6
   |_=>a6
  |_=>a6
 |.upr a,ρ=>jjd (ev Γ G a ρ)
 |.lrng a,ρ=>ji3 (ev Γ G a ρ)
 |.din a b,ρ=>jkb (ev Γ G a ρ) (ev Γ G b ρ)
 |.items a,ρ=>jf2 (ev Γ G a ρ)
 |.callV i es,ρ=>R9 Γ ρ[i]? (ev Γ G es ρ)
 |.dget a b,ρ=>Ry (ev Γ G a ρ) (ev Γ G b ρ)
 |.dvals a,ρ=>j0a (ev Γ G a ρ)
 |.minT a,ρ=>Rq (ev Γ G a ρ)
section
variable{Γ:af->List D->Rc}{G:af->Option D}{ρ:En}
theorem Nb{d}:ev Γ G (.lit d) ρ=(a3 (.v (.e d))):=(rfl)
theorem jix{i}:ev Γ G (.var i) ρ=(Nh ρ[i]?):=(rfl)
theorem jgw{x}:ev Γ G (.glob x) ρ=((G x).map λd=>.v (.e d)):=(rfl)
theorem jj7{op a b}:ev Γ G (.bin op a b) ρ=(Ji op (ev Γ G a ρ) (ev Γ G b ρ)):=(rfl)
theorem jj1{a}:ev Γ G (.neg a) ρ=(Es (ev Γ G a ρ)):=(rfl)
theorem j9t{op a b}:ev Γ G (.cmp op a b) ρ=(Dj op (ev Γ G a ρ) (ev Γ G b ρ)):=(rfl)
theorem j9s{a}:ev Γ G (.isN a) ρ=(match ev Γ G a ρ with
  |some (.v x)=>a3 (.v (.e (.bl x.d.isNon)))
  |_=>a6):=(rfl)
theorem j9u{a b}:ev Γ G (.and a b) ρ=(match truth (ev Γ G a ρ) with
  |some a4=>a3 (.v (.e (.bl a4)))
  |some a5=>(truth (ev Γ G b ρ)).map λk=>.v (.e (.bl k))
  |none=>a6):=(rfl)
theorem jkj{a b}:ev Γ G (.or a b) ρ=(match truth (ev Γ G a ρ) with
  |some a5=>a3 (.v (.e (.bl a5)))
  |some a4=>(truth (ev Γ G b ρ)).map λk=>.v (.e (.bl k))
  |none=>a6):=(rfl)
theorem j3x{a}:ev Γ G (.not a) ρ=((truth (ev Γ G a ρ)).map λk=>.v (.e (.bl (!k)))):=(rfl)
theorem jj3{c a b}:ev Γ G (.ite c a b) ρ=(match truth (ev Γ G c ρ) with
  |some a5=>match ev Γ G a ρ with
   |some (.v x)=>x.st.map λd=>.v (.e d)
   |_=>a6
  |some a4=>match ev Γ G b ρ with
   |some (.v x)=>x.st.map λd=>.v (.e d)
   |_=>a6
  |none=>a6):=(rfl)
theorem W5:ev Γ G (.nil) ρ=(a3 (.a [])):=(rfl)
theorem Ug{a b}:ev Γ G (.cons a b) ρ=(consW (ev Γ G a ρ) (ev Γ G b ρ)):=(rfl)
theorem jiy{es}:ev Γ G (.tup es) ρ=(Zj (ev Γ G es ρ)):=(rfl)
theorem jj2{es}:ev Γ G (.lst es) ρ=(Zq (ev Γ G es ρ)):=(rfl)
theorem jkk{a b}:ev Γ G (.ix a b) ρ=(ixW (ev Γ G a ρ) (ev Γ G b ρ)):=(rfl)
theorem jki{a lo hi}:ev Γ G (.sl a lo hi) ρ=(match ev Γ G a ρ,Qe (ev Γ G lo ρ),Qe (ev Γ G hi ρ) with
  |some (.v x),a3 l,a3 h=>match x.sq with
   |some (a5,ds)=>a3 (.v (.o (cutD ds l h)))
   |some (a4,ds)=>if HT.sIx ds.length 0 l=0/\HT.sIx ds.length ds.length h=ds.length then a6 else a3 (.v (.e (.tup (cutD ds l h))))
   |none=>match x.d with
    |.str z=>if jl z.length=a5 then a3 (.v (.e (.str (bG z l h))))else a6
    |_=>a6
  |_,_,_=>a6):=(rfl)
theorem jh0{f es}:ev Γ G (.call f es) ρ=(Qk Γ f (ev Γ G es ρ)):=(rfl)
theorem W6{f es}:ev Γ G (.blt f es) ρ=(vp f (ev Γ G es ρ)):=(rfl)
theorem jgu{m a es}:ev Γ G (.meth m a es) ρ=(Rr m (ev Γ G a ρ) (ev Γ G es ρ)):=(rfl)
theorem jj4{a ts}:ev Γ G (.isi a ts) ρ=(j02 (ev Γ G a ρ) ts):=(rfl)
theorem jgz{is elt it cond}:ev Γ G (.comp is elt it cond) ρ=(match ev Γ G it (frz it ρ) with
  |some (.i ds)=>if Ke is (frz it ρ)=a5/\jl ds.length=a5 then
    (Jy (λd=>match qy is d (frz it ρ) with
     |none=>a6
     |some ρ2=>match ev Γ G cond ρ2 with
      |some (.a [])=>match ev Γ G elt ρ2 with
       |some (.v x)=>x.st.map a3
       |_=>a6
      |some (.a [y])=>match y.d with
       |.bl a5=>match ev Γ G elt ρ2 with
        |some (.v x)=>x.st.map a3
        |_=>a6
       |.bl a4=>a3 a6
       |_=>a6
      |_=>a6) ds).bind λl=>if (J8 it ρ && !jn l)=a5 then a6 else a3 (.v (.o l))
   else a6
  |_=>a6):=(rfl)
theorem jj0{a}:ev Γ G (.seq a) ρ=(Mw (ev Γ G a ρ)):=(rfl)
theorem jj6{a b c}:ev Γ G (.chn a b c) ρ=(j0k (ev Γ G a ρ) (ev Γ G b ρ) (ev Γ G c ρ)):=(rfl)
theorem jcq{es}:ev Γ G (.range es) ρ=(Wg (ev Γ G es ρ)):=(rfl)
theorem jj5{es}:ev Γ G (.fst es) ρ=(Ob (ev Γ G es ρ)):=(rfl)
theorem j3y {i cs}:ev Γ G (.isx i cs) ρ=(match ρ[i]?,G "?" with
  |some (.exc x),a3 (.bl a5)=>if jt.contains x=a5 then a3 (.v (.e (.bl (cs.any λc=>c == "ValueError" || x==c))))else a6
  |_,_=>a6):=(rfl)
theorem jgv{sep a}:ev Γ G (.join sep a) ρ=(Rv sep (ev Γ G a ρ)):=(rfl)
theorem jgx{a}:ev Γ G (.enum a) ρ=(Ut (ev Γ G a ρ)):=(rfl)
theorem jiz{a b}:ev Γ G (.tix a b) ρ=(Nr (ev Γ G a ρ) (ev Γ G b ρ)):=(rfl)
theorem jcs{i es}:ev Γ G (.callV i es) ρ=(R9 Γ ρ[i]? (ev Γ G es ρ)):=(rfl)
theorem jgy{a b}:ev Γ G (.dget a b) ρ=(Ry (ev Γ G a ρ) (ev Γ G b ρ)):=(rfl)
theorem jcr{a}:ev Γ G (.dvals a) ρ=(j0a (ev Γ G a ρ)):=(rfl)
theorem jgt{a}:ev Γ G (.minT a) ρ=(Rq (ev Γ G a ρ)):=(rfl)
end
noncomputable def er(Γ:af->List D->Rc)(G:af->Option D):Ex->En->Option af
 |.call f es,ρ=>match er Γ G es ρ with
  |some x=>if (G (qm f)).isSome=a5 then a3 x else a6
  |none=>match ev Γ G es ρ with
   |some (.a rs)=>match Γ f (rs.map Rk.d) with
    |.err x=>if (G (bang x)).isSome=a5 then a3 x else a6
    |_=>a6
   |_=>a6
 |.cons a b,ρ=>match er Γ G a ρ with
  |some x=>a3 x
  |none=>match ev Γ G a ρ with
   |some (.v _)=>er Γ G b ρ
   |_=>a6
 |.ix a _,ρ=>er Γ G a ρ
 |.dzip a b,ρ=>match er Γ G a ρ with
  |some x=>a3 x
  |none=>match ev Γ G a ρ with
   |some (.v _)=>er Γ G b ρ
   |_=>a6
 |_,_=>a6
end L2
end
section
namespace L2
open PySem PySem.Spec PyProof.Rows
def DM(X:Cx)(ρ:Rho)(e:ai)(s:Bool)(ds:List D):Prop:=∀σ H Q,Rep X.K ρ σ H->(∀a xs H',j0 H H'->SqB X.K s H' a xs->j5 X.K (del H' (owns ρ)) ds xs->Q (.ref a) H')->Jo X e σ H Q
section
variable{X:Cx}{ρ:Rho}{e a b c:ai}{es:List ai}{d:D}{ds ds':List D}{i j:Int}{pos p p2:aJ}{k:Nat}{x:af}{s:Bool}
theorem jhl{K:k90}{H:Hp}{a:aa}{xs:List V}(h:SqL K H a xs):SqB K a5 H a xs:=by unfold SqB;rw[if_pos rfl];exact h
theorem U6{K:k90}{H:Hp}{a:aa}{xs:List V}(h:SqB K a5 H a xs):SqL K H a xs:=by unfold SqB at h;rw[if_pos rfl]at h;exact h
theorem Q0{K:k90}{H:Hp}{a:aa}{xs:List V}(h:SqB K a4 H a xs):SqT K H a xs:=by unfold SqB at h;rw[if_neg xg]at h;exact h
theorem DE.toM(h:DE X ρ e (D.seq s ds)):DM X ρ e s ds:=λσ H Q R q=>h σ H Q R λv H1 g1 e1=>by obtain⟨t,xs,ev,sq,en⟩:=Zu e1;subst ev;exact q t xs H1 g1 (jq.seqB sq) en
theorem DL.toM(h:DL X ρ e ds):DM X ρ e a5 ds:=λσ H Q R q=>h σ H Q R λt xs H1 g1 m en=>q t xs H1 g1 (jhl (.inl (.inl m))) en
theorem DO.toM(h:DO X ρ e ds):DM X ρ e a5 ds:=h.toL.toM
def Has(X:Cx)(ρ:Rho)(e:ai):Rk->Prop
 |.e d=>DE X ρ e d
 |.o l=>DO X ρ e l
 |.w l=>DL X ρ e l
 |.t d=>DT X ρ e d
theorem Has.toT:∀{r:Rk},Has X ρ e r->DT X ρ e r.d
 |.e _,h=>DE.toT h
 |.o _,h=>DL.toT (DO.toL h)
 |.w _,h=>DL.toT h
 |.t _,h=>h
theorem Has.toE:∀{r:Rk}{d:D},Has X ρ e r->r.st=a3 d->DE X ρ e d
 |.e _,_,h,q=>by cases q;exact h
 |.o _,_,h,q=>by cases q;exact DO.toE h
 |.w _,_,h,q=>by cases q
 |.t d',d,h,q=>by
  have q:(if vf d'=a5 then a3 d' else a6)=a3 d:=q;by_cases z:vf d'=a5
  .rw[if_pos z]at q;cases q;exact DT.toE h z
  .rw[if_neg z]at q;cases q
theorem Has.toM:∀{r:Rk}{s:Bool}{l:List D},Has X ρ e r->r.sq=a3 (s,l)->DM X ρ e s l
 |.e (.lst l),_,_,h,q=>by cases q;exact DE.toM (s:=a5) h
 |.e (.tup l),_,_,h,q=>by cases q;exact DE.toM (s:=a4) h
 |.e .non,_,_,_,q=>by cases q
 |.e (.bl _),_,_,_,q=>by cases q
 |.e (.int _),_,_,_,q=>by cases q
 |.e (.str _),_,_,_,q=>by cases q
 |.o l,_,_,h,q=>by cases q;exact DO.toM h
 |.w l,_,_,h,q=>by cases q;exact DL.toM h
 |.t _,_,_,_,q=>by cases q
theorem jb6:OpR X (b0 .Add) (λx y H Q=>∃l b xs zs,x=.ref l/\y=.ref b/\SqL X.K H l xs/\SqL X.K H b zs/\xs.length+zs.length<=aj/\∀p,H p=a6->Q (.ref p) (upd H p (.lst (xs++zs)))):=by
 intro pins s σ H x y v u Q I rx ry h;obtain⟨l,b,xs,zs,e1,e2,hH,hB,hz,q⟩:=h;subst e1 e2;cases rx;cases ry;obtain⟨us,ru,⟨⟨c1,d1,f1,g1⟩,n1,h1,k1,w1,m1⟩,_⟩:=I.list hH;obtain⟨vs,rv,⟨⟨c2,d2,f2,g2⟩,n2,h2,k2,w2,m2⟩,_⟩:=I.list hB;have k1:c1=.type "list":=k1;have m1:f1=.seq us.toArray n1:=m1;have k2:c2=.type "list":=k2;have m2:f2=.seq vs.toArray n2:=m2;subst k1 m1 k2 m2;have l1:=ru.length;have l2:=rv.length;have ea:us.toArray++vs.toArray=(us++vs).toArray:=by simp
 refine fR ⟨_,h1,rfl⟩ ⟨_,h2,rfl⟩ noFill_list_add seq_list_add PySem.F.slot_list_add PySem.F.entry_list_add (PySem.F.args_list_add_2 _ _)
  (list_addW l b us.toArray vs.toArray n1 n2 d1 d2 g1 g2 (by rw[X7,X7,<-l1,<-l2];exact hz)) ⟨h1,h2,?_⟩
 rw[ea];exact⟨.ref _,_,I.lnew (t':=s.toks) (ru.append rv) (by rw[Xe];exact hz),rfl,q _ I.fresh⟩
theorem DO.catM(ha:DM X ρ a a5 ds)(hb:DM X ρ b a5 ds')(hl:ds.length+ds'.length<=aj):DO X ρ (.BinOp a .Add b pos) (ds++ds'):=λσ H Q R q =>
 (Yq jb6 peS peS).to (ha σ H _ R λl xs H1 g1 s1 e1=>hb σ H1 _ (R.grow g1) λl' ys H2 g2 s2 e2 =>
  ⟨l,l',xs,ys,rfl,rfl,g2.seq (U6 s1),U6 s2,by rw[e1.length,e2.length];exact hl,λp hp=>q p _ _ ((g1.trans g2).trans (j7 hp)) ((g1.trans g2).free hp) jc (Uu hp ((e1.mono (jj g2)).append e2))⟩)
theorem DE.catTM(ha:DM X ρ a a4 ds)(hb:DM X ρ b a4 ds')(hl:ds.length+ds'.length<=aj):DE X ρ (.BinOp a .Add b pos) (.tup (ds++ds')):=λσ H Q R q =>
 (Yq j7k peS peS).to (ha σ H _ R λt xs H1 g1 sq l=>hb σ H1 _ (R.grow g1) λt' ys H2 g2 sq' l'=>by
  have l2:=l.mono (jj g2)
  have enT:∀{t:aa}{xs:List V}{ds:List D},SqT X.K H2 t xs->j5 X.K (del H2 (owns ρ)) ds xs->Enc X.K (del H2 (owns ρ)) (.tup ds) (.ref t):=λ{t xs ds} sq l=>by
   refine⟨t,xs,rfl,?_,l⟩
   have ow:=(R.grow (g1.trans g2)).owned
   have out:∀{o:HO},H2 t=a3 o->(∀zs,o≠.lst zs)->del H2 (owns ρ) t=a3 o:=λ{o} h z=>by
    rw[j6];exact h
    intro y;obtain⟨zs,e'⟩:=ow t y;rw[h]at e';cases e';exact z zs rfl
   rcases sq with (h|⟨o,h⟩)|h
   .exact .inl (.inl (out h λ_ z=>by cases z))
   .exact .inl (.inr ⟨o,out h λ_ z=>by cases z⟩)
   .exact .inr h
  refine⟨t,t',xs,ys,rfl,rfl,g2.seqT (Q0 sq),Q0 sq',by rw[l.length,l'.length];exact hl,λh=>?_,λh h'=>?_,λh h' p hp=>?_⟩
  .subst h
   cases ds with
   |nil=>exact q _ H2 (g1.trans g2) (enT (Q0 sq') l')
   |cons _ _=>have:=l.length;cases this
  .subst h'
   cases ds' with
   |nil=>exact q _ H2 (g1.trans g2) (by rw[Xv];exact enT (g2.seqT (Q0 sq)) l2)
   |cons _ _=>have:=l'.length;cases this
  .have np:p∉owns ρ:=(R.grow (g1.trans g2)).fresh hp
   exact q _ _ ((g1.trans g2).trans (j7 hp)) ⟨p,xs++ys,rfl,.inl (.inl (by rw[j6 np];exact jc)),(l2.append l').mono (jj (j7 hp))⟩)
theorem DE.ixM(ha:DM X ρ a s ds)(hb:DT X ρ b (.int i))(h:L2.atI ds i=a3 d)(hs:Vt b):DE X ρ (.Subscript a b pos) d:=by
 cases s with
 |true=>exact λσ H Q R q=>(Bd jbk peS peS hs).to (ha σ H _ R λl xs H1 g1 sq en=>hb σ H1 _ (R.grow g1) λu H2 g2 e2=>by
   obtain⟨y,hy,ey⟩:=en.atI h
   exact⟨l,xs,i,y,rfl,e2,g2.seq (U6 sq),hy,q y H2 (g1.trans g2) (ey.mono (jj g2))⟩)
 |false=>exact λσ H Q R q=>(Bd j5f peS peS hs).to (ha σ H _ R λl xs H1 g1 sq en=>hb σ H1 _ (R.grow g1) λu H2 g2 e2=>by
   obtain⟨y,hy,ey⟩:=en.atI h
   exact⟨l,xs,i,y,rfl,e2,g2.seqT (Q0 sq),hy,q y H2 (g1.trans g2) (ey.mono (jj g2))⟩)
variable{lo hi:Option ai}{l u:Option Int}
theorem DO.sliceM(ha:DM X ρ a a5 ds)(hl:DP X ρ lo l)(hu:DP X ρ hi u):DO X ρ (.Subscript a (.Slice lo hi a6 p2) pos) (cutD ds l u):=λσ H Q R q =>
 (O2 jab peS poS poS).to (ha σ H _ R λt xs H1 g1 sq en=>hl σ H1 _ (R.grow g1) λH2 g2=>hu σ H2 _ (R.grow (g1.trans g2)) λH3 g3=>⟨t,xs,rfl,(g2.trans g3).seq (U6 sq),λp hp =>
  q p _ _ ((g1.trans (g2.trans g3)).trans (j7 hp)) ((g1.trans (g2.trans g3)).free hp) jc (Uu hp ((en.mono (jj (g2.trans g3))).cut l u))⟩)
theorem DE.sliceM(ha:DM X ρ a a4 ds)(hl:DP X ρ lo l)(hu:DP X ρ hi u)(hw:¬(HT.sIx ds.length 0 l=0/\HT.sIx ds.length ds.length u=ds.length)):DE X ρ (.Subscript a (.Slice lo hi a6 p2) pos) (.tup (cutD ds l u)):=λσ H Q R q =>
 (O2 jd6 peS poS poS).to (ha σ H _ R λt xs H1 g1 sq en=>hl σ H1 _ (R.grow g1) λH2 g2=>hu σ H2 _ (R.grow (g1.trans g2)) λH3 g3=>⟨t,xs,rfl,(g2.trans g3).seqT (Q0 sq),by rw[en.length];exact hw,λp hp =>
  q _ _ ((g1.trans (g2.trans g3)).trans (j7 hp)) ⟨p,_,rfl,.inl (.inl (by rw[j6 ((R.grow (g1.trans (g2.trans g3))).fresh hp)];exact jc)),((en.mono (jj (g2.trans g3))).cut l u).mono (jj (j7 hp))⟩⟩)
theorem DE.tupM (ha:DM X ρ a s ds) (hm:X.mg "tuple" = a6) (hg:Gl X "tuple") (hs:a7 [a] X.env=[(a4,ay a X.env)]):DE X ρ (.Call (.Name "tuple" p) [a] [] pos) (.tup ds):=λσ H Q R q =>
 (Wl K6 hg hm boot_tuple (jb peS jo hs) (by decide) (by decide) hs).to (ha σ H _ R λl xs H1 g1 sq en=>by
  cases s with
  |true =>
   refine⟨l,xs,rfl,.inl ⟨U6 sq,λt ht=>?_⟩⟩
   have nt:t∉owns ρ:=(R.grow g1).fresh ht
   exact q _ _ (g1.trans (j7 ht)) ⟨t,xs,rfl,.inl (.inl (by rw[j6 nt];exact jc)),en.mono (jj (j7 ht))⟩
  |false =>
   refine⟨l,xs,rfl,.inr ⟨Q0 sq,?_⟩⟩
   refine q _ _ g1 ⟨l,xs,rfl,?_,en⟩
   have ow:=(R.grow g1).owned
   have out:∀{o:HO},H1 l=a3 o->(∀zs,o≠.lst zs)->del H1 (owns ρ) l=a3 o:=λ{o} h z=>by
    rw[j6];exact h
    intro y;obtain⟨zs,e'⟩:=ow l y;rw[h]at e';cases e';exact z zs rfl
   rcases Q0 sq with (h|⟨o,h⟩)|h
   .exact .inl (.inl (out h λ_ z=>by cases z))
   .exact .inl (.inr ⟨o,out h λ_ z=>by cases z⟩)
   .exact .inr h)
theorem DO.listM (ha:DM X ρ a s ds) (hm:X.mg "list" = a6) (hg:Gl X "list") (hs:a7 [a] X.env=[(a4,ay a X.env)]):DO X ρ (.Call (.Name "list" p) [a] [] pos) ds:=λσ H Q R q =>
 (Wl j0m hg hm boot_list (jb peS jo hs) (by decide) (by decide) hs).to (ha σ H _ R λl xs H1 g1 sq en =>
  ⟨l,xs,rfl,(by cases s with|true=>exact .inl (U6 sq)|false=>exact .inr (Q0 sq)),λp hp=>q p _ _ (g1.trans (j7 hp)) (g1.free hp) jc (Uu hp en)⟩)
end
theorem Fj:fillsNumberSlot (.type "tuple") "mul" = pure a4 :=
 PySem.fillsNumberSlot_seq (id:="tuple.__mul__") (r:=a3 (.builtin "tuple.__rmul__")) PySem.F.slot_tuple_mul.lookup (by decide +kernel) PySem.F.slot_tuple_rmul.lookup (by decide +kernel)
theorem jar:seqRepeat? (.type "tuple")=pure (a3 (.builtin "tuple.__mul__")):=by
 unfold seqRepeat?;rw[j1 (T:="tuple") (name:="__mul__") (id:="tuple.__mul__") PySem.F.slot_tuple_mul.lookup (by decide +kernel),
  j1 (T:="tuple") (name:="__rmul__") (id:="tuple.__rmul__") PySem.F.slot_tuple_rmul.lookup (by decide +kernel)]
 rfl
section
variable(a:Int)(t:gH)(l:aa)(its:Array a9)(n:Nat)(d1:Option aa)(sl:Array (Option a9))
theorem j04:jT (cK.«int.__rmul__» ⟨[.int a t,.ref l],[]⟩) (λ_ R s=>s.heap.get? l=a3 ⟨.type "tuple",d1,.seq its n,sl⟩/\R (.ok (.ret gM)) s) :=
 .of_wp λ_ _ _ _ s h=>by
  obtain⟨_,_,_,_,_⟩:=s;obtain⟨hl,h⟩:=h
  wp_walk
  exact⟨_,rfl,h⟩
theorem j6m:jT (cK.«tuple.__mul__» ⟨[.ref l,.int 1 t],[]⟩) (λ_ R s=>s.heap.get? l=a3 ⟨.type "tuple",d1,.seq its n,sl⟩/\R (.ok (.ret (.ref l))) s) :=
 .of_wp λ_ _ _ _ s h=>by
  obtain⟨_,_,_,_,_⟩:=s;obtain⟨hl,h⟩:=h
  wp_walk
  exact⟨_,rfl,h⟩
theorem j6l(h0:its.isEmpty=a4)(h1:1<a)(h2:a<2^63)(hz:its.size*a.toNat<=aj) :
  jT (cK.«tuple.__mul__» ⟨[.ref l,.int a t],[]⟩) (λ_ R s=>s.heap.get? l=a3 ⟨.type "tuple",d1,.seq its n,sl⟩ /\
   R (.ok (.ret (.ref s.heap.objs.size))) { s with heap:=s.heap.push { cls:=.type "tuple",data:=.seq (cQ (λx y=>x++y) #[] (aq a.toNat its)) } }) :=
 .of_wp λ_ _ _ _ s h=>by
  obtain⟨_,_,_,_,_⟩:=s;obtain⟨hl,h⟩:=h;have c1:(decide (a < -2^63) || decide (a>=2^63))=a4:=by rw[decide_eq_false nofun,decide_eq_false nofun];rfl
  have c2:(its.isEmpty || a==1)=a4:=by rw[h0,beq_eq_false_iff_ne.mpr nofun];rfl
  have c3:(decide (a<=0) || its.isEmpty)=a4:=by rw[h0,decide_eq_false nofun];rfl
  have ea:((its.size*a.toNat:Nat):Int)=(its.size:Int)*a:=by rw[cH,Int.toNat_of_nonneg nofun]
  have hz':(its.size:Int)*a<=(aj:Int):=by rw[<-ea];exact Int.ofNat_le.mpr hz
  have c4:¬(its.size:Int)*a>(2^63-1)/8:=by
   have:(aj:Int)<=(2^63-1)/8:=by decide
   omega
  have c5:eD ((its.size:Int)*a)=a4:=by unfold eD;exact decide_eq_false nofun
  have c6:(cQ (λx y=>x++y) #[] (aq a.toNat its)).size<=aj:=by rw[AutoListH.size_joined,Array.size_empty,Th,cN];exact hz
  wp_walk
  rw[c1]
  wp_walk
  rw[c2]
  wp_walk
  rw[c3]
  wp_walk
  rw[if_neg c4]
  wp_walk
  exact⟨_,rfl,h⟩
end
theorem jb4{X:Cx}:OpR X (b0 .Mult) (λx y H Q=>∃a k xs,x=.ref a/\y=.int k/\SqT X.K H a xs/\xs≠[]/\1<=k/\k<2^63/\xs.length*k.toNat<=aj /\
  (k=1->Q (.ref a) H)/\(1<k->∀p,H p=a6->Q (.ref p) (upd H p (.tup (aq k.toNat xs).flatten)))):=by
 intro pins s σ H x y v u Q I rx ry h;obtain⟨a,k,xs,e1,e2,sq,hne,h1,h2,hz,q1,q2⟩:=h;subst e1 e2;cases rx;obtain⟨t,e⟩:=ry;subst e;obtain⟨us,ru,⟨⟨c1,d1,f1,g1⟩,p1,k1,n1,m1⟩,_⟩:=I.tuple sq;have k1:c1=.type "tuple":=k1;have m1:f1=.seq us.toArray n1:=m1;subst k1 m1;have lu:=ru.length;have hne':us.toArray.isEmpty=a4:=by
  cases us with
  |nil=>cases ru;exact absurd rfl hne
  |cons _ _=>simp
 refine ip (T:="tuple") (U:="int") (by decide) ⟨_,p1,rfl⟩ (λs'=>fF s' k t) Fj kA dN jar F.slot_int_index.lookup
  (bc dN (fF s k t) kl (kc _ _) (j04 k t a us.toArray n1 d1 g1) ⟨p1,rfl,⟨_,p1,rfl⟩,?_⟩)
 by_cases hk:k=1
 .subst hk;exact bc ki ⟨_,p1,rfl⟩ ka (jN _ _) (j6m t a us.toArray n1 d1 g1) ⟨p1,⟨.ref a,H,I,rfl,q1 rfl⟩⟩
 .have hz':us.toArray.size*k.toNat<=aj:=by rw[X7,<-lu];exact hz
  refine bc ki ⟨_,p1,rfl⟩ ka (jN _ _) (j6l k t a us.toArray n1 d1 g1 hne' nofun h2 hz') ⟨p1,?_⟩;have hnew:cQ (λx1 x2=>x1++x2) #[] (aq k.toNat us.toArray)=(aq k.toNat us).flatten.toArray:=by have:=foldl_rep us k.toNat [];rw[dz]at this;exact this
  rw[hnew];refine⟨.ref _,_,I.laid (t':=s.toks) (λb o e=>xj _ e) (X5 _) ?_,rfl,q2 nofun _ I.fresh⟩;exact⟨by rw[len_rep,cN];exact hz,_,ru.rep k.toNat,IsTup.new _ _,Zf.new _ _⟩
theorem DE.repT{X:Cx}{ρ:Rho}{a b:ai}{ds:List D}{k:Int}{pos:aJ}(ha:DM X ρ a a4 ds)(hb:DT X ρ b (.int k))(hne:ds≠[])(h1:1<=k)(h2:k<2^63)(hl:ds.length*k.toNat<=aj) :
  DE X ρ (.BinOp a .Mult b pos) (.tup (aq k.toNat ds).flatten):=λσ H Q R q =>
 (Yq jb4 peS peS).to (ha σ H _ R λt xs H1 g1 sq l=>hb σ H1 _ (R.grow g1) λu H2 g2 e2=>by
  have l2:=l.mono (jj g2)
  refine⟨t,k,xs,rfl,e2,g2.seqT (Q0 sq),?_,h1,h2,by rw[l.length];exact hl,λh=>?_,λh p hp=>?_⟩
  .intro z;subst z
   cases ds with
   |nil=>exact hne rfl
   |cons _ _=>have:=l.length;cases this
  .subst h
   have e:(aq (1:Int).toNat ds).flatten=ds:=by simp
   rw[e]at q
   refine q _ H2 (g1.trans g2) ⟨t,xs,rfl,?_,l2⟩
   have ow:=(R.grow (g1.trans g2)).owned
   have out:∀{o:HO},H2 t=a3 o->(∀zs,o≠.lst zs)->del H2 (owns ρ) t=a3 o:=λ{o} h z=>by
    rw[j6];exact h
    intro y;obtain⟨zs,e'⟩:=ow t y;rw[h]at e';cases e';exact z zs rfl
   rcases g2.seqT (Q0 sq)with (h|⟨o,h⟩)|h
   .exact .inl (.inl (out h λ_ z=>by cases z))
   .exact .inl (.inr ⟨o,out h λ_ z=>by cases z⟩)
   .exact .inr h
  .have np:p∉owns ρ:=(R.grow (g1.trans g2)).fresh hp
   exact q _ _ ((g1.trans g2).trans (j7 hp)) ⟨p,_,rfl,.inl (.inl (by rw[j6 np];exact jc)),(l2.rep k.toNat).mono (jj (j7 hp))⟩)
section
variable{X:Cx}{ρ:Rho}{a:ai}{m k:Bool}{d:D}{n:Nat}{pos p2:aJ}
theorem DE.isNotN(ha:DT X ρ a d):DE X ρ (.Compare a [.IsNot] [.Constant .none n p2] pos) (.bl (!d.isNon)):=λσ H Q R q =>(Je j1p peS Ej (zc _)).to (ha σ H _ R λx H1 g1 e1=>⟨rfl,q _ H1 g1 (by rw[Cp e1];rfl)⟩)
theorem DB.isNotN(ha:DT X ρ a d):DB X ρ (.Compare a [.IsNot] [.Constant .none n p2] pos) (!d.isNon):=λσ H Q R q =>(Jd j1p peS Ej (zc _)).to (ha σ H _ R λx H1 g1 e1=>⟨rfl,_,rfl,by rw[Cp e1];exact q H1 g1⟩)
end
end L2
end
section
namespace PySem
open Sem (wp)
namespace F
end F
section
variable{prog:au}{w:aA}{A:aB}{E:k91}{s:ae}{I:aa}{fp wr:List aa}{G:Array eY->Array eY->Prop}{n:Nat}{P:Nat->a9->Prop}{St:Nat->ae->Prop}
end
end PySem
namespace L2
open PySem PySem.Spec PyProof.Rows
section
variable{X:Cx}{ρ:Rho}{a:ai}{ds:List D}{p p1 p2 p3 pos:aJ}
end
noncomputable def Sl.abs:Sl->Sv
 |.un=>.un
 |.val d=>.val d
 |.own _ l=>.own l
 |.raw _ _ x=>.exc x
noncomputable def j8(ρ:Rho):En:=ρ.map Sl.abs
theorem W4{ρ:Rho}{i:Nat}:(j8 ρ)[i]?=(ρ[i]?).map Sl.abs:=xx ..
theorem Yl{ρ:Rho}{i:Nat}{d:D}(h:(j8 ρ)[i]?=a3 (.val d)):ρ[i]?=a3 (.val d):=by
 rw[W4]at h;cases e:ρ[i]? with
 |none=>rw[e]at h;cases h
 |some s=>rw[e]at h;cases s<;>cases h;rfl
theorem jcp{ρ:Rho}{i:Nat}(h:(j8 ρ)[i]?=a3 .un):ρ[i]?=a3 .un:=by
 rw[W4]at h;cases e:ρ[i]? with
 |none=>rw[e]at h;cases h
 |some s=>rw[e]at h;cases s<;>cases h;rfl
theorem Ju{ρ:Rho}{i:Nat}{l:List D}(h:(j8 ρ)[i]?=a3 (.own l)):∃a,ρ[i]?=a3 (.own a l):=by
 rw[W4]at h;cases e:ρ[i]? with
 |none=>rw[e]at h;cases h
 |some s=>rw[e]at h;cases s<;>cases h;exact⟨_,rfl⟩
theorem Oo{ρ:Rho}{i:Nat}{x:af}(h:(j8 ρ)[i]?=a3 (.exc x)):∃a o,ρ[i]?=a3 (.raw a o x):=by
 rw[W4]at h;cases e:ρ[i]? with
 |none=>rw[e]at h;cases h
 |some s=>rw[e]at h;cases s<;>cases h;exact⟨_,_,rfl⟩
theorem jg{ρ:Rho}{i:Nat}{s:Sl}:j8 (ρ.set i s)=(j8 ρ).set i s.abs:=List.map_set ..
noncomputable def Bop.op:Bop->jS
 |.add=>.Add
 |.sub=>.Sub
 |.mul=>.Mult
 |.fdiv=>.FloorDiv
 |.mod=>.Mod
 |.pow=>.Pow
 |.shl=>.LShift
 |.shr=>.RShift
 |.band=>.BitAnd
 |.bxor=>.BitXor
noncomputable def Cop.op:Cop->jU
 |.lt=>.Lt
 |.le=>.LtE
 |.gt=>.Gt
 |.ge=>.GtE
 |.eq=>.Eq
 |.ne=>.NotEq
 |.isin=>.In
 |.notin=>.NotIn
noncomputable def Bf.name:Bf->af
 |.len=>"len"
 |.min=>"min"
 |.max=>"max"
 |.all=>"all"
 |.tuple=>"tuple"
 |.list=>"list"
 |.sum=>"sum"
 |.int=>"int"
 |.any=>"any"
 |.sorted=>"sorted"
noncomputable def Yi:List af:=["len","min","max","all","tuple","list","sum","int","any","sorted","isinstance","bool","str","range","zip","enumerate","reversed","ValueError","set","dict"]
noncomputable def Vc(x:af):Bool:=x.cps.toList.head?==a3 33 || x.cps.toList.head?==a3 63
inductive Nd where
 |e (x:ai)
 |b (x:ai)
 |w (x:ai)
 |a (xs:List ai)
 |i (tg it:ai)
 |o (x:Option ai)
 |c (xs:List ai)
 |p (xs:List ai)
structure Cok(X:Cx)(G:af->Option D):Prop where
 un':X.A.units+100<aI
 un:X.calm=a5->X.A.units+150<aI
 dp:X.calm=a5->X.A.depth+4<bx
 bt:∀x∈Yi,X.mg x=a6
 gl:∀x d,Vc x=a4->G x=a3 d->∃u v,X.mg x=a3 u/\RelV v u/\∀H,Enc X.K H d v
 nd:X.N.Nodup
 po:dG (ax X.prog X.w) X.A X.env X.xe
 ea:Qi X.K=a5
 ec:∀x d,G (bang x)=a3 d->x∈jt/\∃o,W.nsIn X.K ak x=a3 (a3 o)
 el:G "?" = a3 (.bl a5)->∀c∈jt,∃v,W.nsIn X.K ak c=a3 (a3 v)
 kin:X.K.In X.base
 ns:X.base.Ns ak X.mg
 kd:∀x l,G (bang x)=a3 (.lst l)->Kinds X "_law_kinds" x l
 fn:∀f d,G (qm f)=a3 d->∃fa,X.mg f=a3 (.ref fa)/\W.keepIn X.K (.ref fa)=a5
 pl:∀d,G (qm "_law_plan")=a3 d->Cal X "_law_plan" (jd5 X.K j9c)
 lm:∀x∈Z9,X.env.qual=x ++ ".<locals>."->∃c P,X.env.code=.ref c/\W.codeHdIn X.K c P=a5/\W.tabIn X.K x=a3 (c,P)
def Gok(X:Cx)(Γ:af->List D->Rc):Prop:=∀f ds,match Γ f ds with
 |.val d=>Cal X f (spP X.K λds' d'=>ds'=ds/\d'=d)
 |.fresh l=>Cal X f (spF X.K λds' l'=>ds'=ds/\l'=l)
 |.err x=>CalX X f (spX X.K X.mg λds' y=>ds'=ds/\y=x)
 |.lval d=>∀x,f=q8 x->∃k,Room k X.A/\Kl X.prog X.w X.K X.mg X.base k x λds' d'=>ds'=ds/\d'=d
 |.no=>True
theorem Cok.comp{X:Cx}{G:af->Option D}{scope:b9}{C:aa}{s:ae}{H:Hp}{fp:List aa}{pn:k92}(h:Cok X G):Cok (cCx X scope C s H fp pn) G:=⟨h.un',h.un,h.dp,h.bt,h.gl,h.nd,bj,h.ea,h.ec,h.el,h.kin,h.ns,h.kd,h.fn,λd e=>Cal.comp (h.pl d e),h.lm⟩
theorem Gok.comp{X:Cx}{Γ:af->List D->Rc}{scope:b9}{C:aa}{s:ae}{H:Hp}{fp:List aa}{pn:k92}(h:Gok X Γ):Gok (cCx X scope C s H fp pn) Γ:=λf ds=>by
 have q:=h f ds;cases e:Γ f ds with
 |val d=>rw[e]at q;exact Cal.comp q
 |fresh l=>rw[e]at q;exact Cal.comp q
 |err x=>rw[e]at q;exact⟨q.ex⟩
 |lval d=>rw[e]at q;exact q
 |no=>trivial
inductive HasA(X:Cx)(ρ:Rho):List ai->List Rk->Prop where
 |nil:HasA X ρ [] []
 |cons {a:ai} {es:List ai} {r:Rk} {rs:List Rk} (hs:a7 (a::es) X.env=(a4,ay a X.env)::a7 es X.env):Has X ρ a r->HasA X ρ es rs->HasA X ρ (a::es) (r::rs)
section
variable{X:Cx}{ρ:Rho}{es:List ai}{rs:List Rk}
theorem HasA.toA:∀{es:List ai}{rs:List Rk}{ds:List D},HasA X ρ es rs->v6 rs=a3 ds->DA X ρ es ds
 |_,_,_,.nil,q=>by cases q;exact DA.nil
 |_,_,ds,.cons (r:=r) (rs:=rs) hs h t,q=>by
  unfold v6 at q;cases e1:r.st with
  |none=>rw[e1]at q;cases q
  |some d =>
   cases e2:v6 rs with
   |none=>rw[e1,e2]at q;cases q
   |some ds'=>rw[e1,e2]at q;cases q;exact DA.cons (h.toE e1) (t.toA e2) hs
theorem HasA.toT:∀{es:List ai}{rs:List Rk},HasA X ρ es rs->DTA X ρ es (rs.map Rk.d)
 |_,_,.nil=>DTA.nil
 |_,_,.cons hs h t=>DTA.cons h.toT t.toT hs
theorem HasA.one{e:ai}(h:HasA X ρ [e] rs):∃r,rs=[r]/\Has X ρ e r/\a7 [e] X.env=[(a4,ay e X.env)]:=by cases h with|cons hs h t=>cases t;exact⟨_,rfl,h,hs⟩
theorem DO.unfrz{e:ai}{i:Nat}{a:aa}{l ds:List D}(hk:ρ[i]?=a3 (.own a l))(h:DO X (ρ.set i (.val (.lst l))) e ds)(hn:jn ds=a5):DO X ρ e ds:=λσ H Q R q =>
 h σ H Q (R.freeze hk) λb xs H' g n m en=>q b xs H' g n m ((en.mono jq).hide (λc hc=>by
  rcases xn.mp hc with z|z
  .rw[z];exact .inl ⟨xs,m⟩
  .exact .inl ((R.grow g).owned c z)) hn)
end
theorem Bx{f:D->Option (Option D)}:∀{ds l:List D},Jy f ds=a3 l ->
  l=(ds.filter (λd=>(f d).join.isSome)).map (λd=>(f d).join.getD .non)/\∀d∈ds,∃o,f d=a3 o
 |[],l,h=>by cases h;exact⟨rfl,λd hd=>nomatch hd⟩
 |d::ds,l,h=>by
  unfold Jy at h;cases e1:f d with
  |none=>rw[e1]at h;cases h
  |some o =>
   cases e2:Jy f ds with
   |none=>rw[e1,e2]at h;cases o<;>cases h
   |some xs =>
    rw[e1,e2]at h;obtain⟨q1,q2⟩:=Bx e2;have mem:∀d'∈d::ds,∃o,f d'=a3 o:=λd' hd=>by
     rcases xn.mp hd with z|z
     .subst z;exact⟨o,e1⟩
     .exact q2 d' z
    cases o with
    |none=>cases h;exact⟨by rw[c9 (by rw[e1];simp)];exact q1,mem⟩
    |some x=>cases h;exact⟨by rw[c8 (by rw[e1];rfl),xr,<-q1,e1];rfl,mem⟩
section
variable{X:Cx}{ρ:Rho}{a b:ai}{d da db:D}{ds ds':List D}{pos:aJ}{k:Bool}
theorem j5j {t c:String} (h:Y6 t c=a3 k):t ≠ "function":=λz=>by unfold Y6 at h;rw[if_pos z]at h;cases h
theorem jbi{K:k90}{c:String}(h:Y6 d.ty c=a3 k):W.kitOne K (.type d.ty) (.type c)=a3 k:=by
 have nf:d.ty ≠ "function":=j5j h;unfold Y6 at h;rw[if_neg nf]at h;by_cases h1:c = "int"
 .subst h1;cases d<;>first|exact absurd rfl nf|(simp[D.ty]at h;subst h;kernel_rfl)
 rw[if_neg h1]at h;by_cases h2:c = "bool"
 .subst h2;cases d<;>first|exact absurd rfl nf|(simp[D.ty]at h;subst h;kernel_rfl)
 rw[if_neg h2]at h;by_cases h3:c = "str"
 .subst h3;cases d<;>first|exact absurd rfl nf|(simp[D.ty]at h;subst h;kernel_rfl)
 rw[if_neg h3]at h;by_cases h4:c = "list"
 .subst h4;cases d<;>first|exact absurd rfl nf|(simp[D.ty]at h;subst h;kernel_rfl)
 rw[if_neg h4]at h;by_cases h5:c = "tuple"
 .subst h5;cases d<;>first|exact absurd rfl nf|(simp[D.ty]at h;subst h;kernel_rfl)
 rw[if_neg h5]at h;cases h
theorem jbm {c:String} {cs:List String} (h:Y7 d (c::cs)=a3 k):d.ty ≠ "function":=by
 unfold Y7 at h;split at h
 .rename_i e _;exact j5j e
 .cases h
theorem DE.neD(s:Bool)(hu:X.A.units+100<aI)(ha:DT X ρ a (D.seq s ds))(hb:DT X ρ b (D.seq s ds'))(hd:D.depL ds<=98)(nd:D.depL ds'<10000):DE X ρ (.Compare a [.NotEq] [b] pos) (.bl (!zy ds ds')):=λσ H Q R q =>(Je (j4w hu) peS peS (zc _)).to (ha σ H _ R λv H1 g1 e1=>hb σ H1 _ (R.grow g1) λu H2 g2 e2=>⟨ds,ds',s,e1.mono g2,e2,hd,nd,q _ H2 (g1.trans g2) rfl⟩)
theorem DE.notIn(s:Bool)(hu:X.A.units+100<aI)(ha:DT X ρ a d)(hb:DT X ρ b (D.seq s ds))(hd:D.depL ds<=98)(nd:d.dep<10000)(hm:aO .NotIn b=a4):DE X ρ (.Compare a [.NotIn] [b] pos) (.bl (!ds.any λe=>deq e d)):=λσ H Q R q =>(Je (Dz hu) peS peS hm).to (ha σ H _ R λv H1 g1 e1=>hb σ H1 _ (R.grow g1) λu H2 g2 e2=>⟨d,ds,s,e1.mono g2,e2,hd,nd,q _ H2 (g1.trans g2) rfl⟩)
theorem DE.in(s:Bool)(hu:X.A.units+100<aI)(ha:DT X ρ a d)(hb:DT X ρ b (D.seq s ds))(hd:D.depL ds<=98)(nd:d.dep<10000)(hm:aO .In b=a4):DE X ρ (.Compare a [.In] [b] pos) (.bl (ds.any λe=>deq e d)):=λσ H Q R q =>(Je (j4x hu) peS peS hm).to (ha σ H _ R λv H1 g1 e1=>hb σ H1 _ (R.grow g1) λu H2 g2 e2=>⟨d,ds,s,e1.mono g2,e2,hd,nd,q _ H2 (g1.trans g2) rfl⟩)
theorem jaa:∀{b:D}{s:Bool}{l:List D},b.sqv=a3 (s,l)->b=D.seq s l
 |.lst _,_,_,h=>by cases h;rfl
 |.dct _ _,_,_,h=>by cases h
 |.sct _,_,_,h=>by cases h
 |.fn _ _,_,_,h=>by cases h
 |.tup _,_,_,h=>by cases h;rfl
 |.non,_,_,h=>by cases h
 |.bl _,_,_,h=>by cases h
 |.int _,_,_,h=>by cases h
 |.str _,_,_,h=>by cases h
theorem j3r{op:Cop}{i j:Int}(h:cmpI op i j=a3 k)(ha:DT X ρ a (.int i))(hb:DT X ρ b (.int j)):DE X ρ (.Compare a [op.op] [b] pos) (.bl k)/\DB X ρ (.Compare a [op.op] [b] pos) k:=by
 cases op<;>(first|(cases h;done)|skip)
 .cases h;exact⟨DE.lt ha hb,DB.lt ha hb⟩
 .cases h;exact⟨DE.le ha hb,DB.le ha hb⟩
 .cases h;exact⟨DE.gt ha hb,DB.gt ha hb⟩
 .cases h;exact⟨DE.ge ha hb,DB.ge ha hb⟩
 .cases h;exact⟨DE.eqI ha hb,DB.eqI ha hb⟩
 .cases h;exact⟨DE.neI ha hb,DB.neI ha hb⟩
theorem La{op:Cop}(hu:X.A.units+100<aI)(h:Qd op da db=a3 k)(ha:DT X ρ a da)(hb:DT X ρ b db)(hm:aO op.op b=a4) :
  DE X ρ (.Compare a [op.op] [b] pos) (.bl k)/\DB X ρ (.Compare a [op.op] [b] pos) k:=by
 have inn:∀{r:Bool->Bool},(match db.sqv with|some (_,l)=>if D.depL l<=90/\da.dep<=90 then a3 (r (l.any λe=>deq e da))else a6|none=>a6)=a3 k->∃s l,DT X ρ b (D.seq s l)/\D.depL l<=98/\da.dep<10000/\k=r (l.any λe=>deq e da):=λ{r} h=>by
  cases e:db.sqv with
  |none=>rw[e]at h;cases h
  |some p =>
   obtain⟨s,l⟩:=p;rw[e]at h;have h:(if D.depL l<=90/\da.dep<=90 then a3 (r (l.any λe=>deq e da))else a6)=a3 k:=h;by_cases z:D.depL l<=90/\da.dep<=90
   .rw[if_pos z]at h;cases h;exact⟨s,l,jaa e▸hb,by omega,by omega,rfl⟩
   .rw[if_neg z]at h;cases h
 unfold Qd at h;split at h
 .exact j3r h ha hb
 .by_cases z:da.dep<=90/\db.dep<=90
  .rw[if_pos z]at h;cases h;exact⟨DE.eqD hu ha hb nofun nofun,DB.eqD hu ha hb nofun nofun⟩
  .rw[if_neg z]at h;cases h
 .cases h;exact⟨DE.neB ha hb,DB.neB ha hb⟩
 .cases h;exact⟨(DE.neS ha hb).eq (by rw[j0f]),(DB.neS ha hb).eq (by rw[j0f])⟩
 .cases h;exact⟨(DE.neS ha hb).eq (by simp),(DB.neS ha hb).eq (by simp)⟩
 .rename_i l m;by_cases z:D.depL l<=90/\D.depL m<=90
  .rw[if_pos z]at h;cases h;exact⟨DE.neD a5 hu ha hb nofun nofun,DB.neD a5 hu ha hb nofun nofun⟩
  .rw[if_neg z]at h;cases h
 .rename_i l m;by_cases z:D.depL l<=90/\D.depL m<=90
  .rw[if_pos z]at h;cases h;exact⟨DE.neD a4 hu ha hb nofun nofun,DB.neD a4 hu ha hb nofun nofun⟩
  .rw[if_neg z]at h;cases h
 .cases h;exact⟨DE.inS ha hb hm,DB.inS ha hb hm⟩
 .cases h;exact⟨DE.ltS ha hb,DB.ltS ha hb⟩
 .cases h;exact⟨DE.gtS ha hb,DB.gtS ha hb⟩
 .obtain⟨s,l,hb,hd,nd,e⟩:=inn (r:=id) h;subst e;exact⟨DE.in s hu ha hb hd nd hm,DB.in s hu ha hb hd nd hm⟩
 .obtain⟨s,l,hb,hd,nd,e⟩:=inn (r:=(!·)) h;subst e;exact⟨DE.notIn s hu ha hb hd nd hm,DB.notIn s hu ha hb hd nd hm⟩
 .cases h
theorem DE.shr{i j:Int}(ha:DT X ρ a (.int i))(hb:DT X ρ b (.int j))(h:0<=j):DE X ρ (.BinOp a .RShift b pos) (.int (i/2^j.toNat)):=DE.arI (g:=λi j=>i/2^j.toNat) je7 ha hb h
theorem qb{α:Type}{c:Prop}[Decidable c]{x y:α}(h:(if c then a3 x else a6)=a3 y):c/\x=y:=by
 by_cases z:c
 .rw[if_pos z]at h;exact⟨z,aw h⟩
 .rw[if_neg z]at h;cases h
theorem j3t{op:Bop}{i j n:Int}(h:binI op i j=a3 n)(ha:DT X ρ a (.int i))(hb:DT X ρ b (.int j)):DE X ρ (.BinOp a op.op b pos) (.int n):=by
 cases op
 .cases h;exact DE.add ha hb
 .cases h;exact DE.sub ha hb
 .obtain⟨z,e⟩:=qb h;subst e;exact DE.mul ha hb z
 .obtain⟨z,e⟩:=qb h;subst e;exact DE.fdivB ha hb z
 .obtain⟨z,e⟩:=qb h;subst e;exact DE.mod ha hb z
 .obtain⟨z,e⟩:=qb h;subst e;exact DE.pow ha hb z
 .obtain⟨z,e⟩:=qb h;subst e;exact DE.shl ha hb z
 .obtain⟨z,e⟩:=qb h;subst e;exact DE.shr ha hb z
 .cases h;exact DE.arI0 jed ha hb
 .cases h;exact DE.arI0 je5 ha hb
theorem zf{n:Nat}(h:jl n=a5):n<=aj:=of_decide_eq_true h
end
section
variable{X:Cx}{ρ:Rho}{a b e:ai}{es:List ai}{d:D}{pos p:aJ}
theorem Has.lw:∀{r:Rk}{l:List D},Has X ρ a r->r.lw=a3 l->DL X ρ a l
 |.o l,_,h,q=>by cases q;exact DO.toL h
 |.w l,_,h,q=>by cases q;exact h
 |.e _,_,_,q=>by cases q
 |.t _,_,_,q=>by cases q
theorem j6d{op:Bop}{x y r:Rk}(h:Vj op x y=a3 r)(ha:Has X ρ a x)(hb:Has X ρ b y):Has X ρ (.BinOp a op.op b pos) r:=by
 unfold Vj at h;split at h
 .rename_i i j e1 e2;cases z:binI op i j with
  |none=>rw[z]at h;cases h
  |some n=>rw[z]at h;cases h;exact j3t z (e1▸ha.toT) (e2▸hb.toT)
 .rename_i y z e1 e2;split at h
  .obtain⟨q,e⟩:=qb h;subst e;exact DE.catS (e1▸ha.toT) (e2▸hb.toT) (zf q)
  .cases h
 .rename_i y k e1 e2;split at h
  .obtain⟨q,e⟩:=qb h;subst e;exact DE.mulS (e1▸ha.toT) (e2▸hb.toT) q.1 q.2
  .cases h
 .split at h
  .rename_i l m _ e1 e2;obtain⟨z,q⟩:=qb h;subst q;exact DO.catM (ha.toM e1) (hb.toM e2) (zf z)
  .rename_i l m _ e1 e2;obtain⟨z,q⟩:=qb h;subst q;exact DE.catTM (ha.toM e1) (hb.toM e2) (zf z)
  .rename_i l k _ _ e1 e3;obtain⟨z,q⟩:=qb h;subst q;exact DE.repT (ha.toM e1) (e3▸hb.toT) (λe=>by subst e;exact absurd z.2.2.1 (by simp)) z.1 z.2.1 (zf z.2.2.2)
  .rename_i k _ _ _ e3 _;cases e:x.lw with
   |none=>rw[e]at h;cases h
   |some l =>rw[e]at h;obtain⟨z,q⟩:=qb h;subst q;exact DO.rep (ha.lw e) (e3▸hb.toT) z.1 z.2.1 (zf z.2.2)
  .cases h
theorem Uz:∀{l:List D}{bs:List Bool},boolsOf l=a3 bs->l=bs.map D.bl
 |[],_,h=>by cases h;rfl
 |.bl b::r,bs,h=>by
  unfold boolsOf at h;cases e:boolsOf r with
  |none=>rw[e]at h;cases h
  |some q=>rw[e]at h;cases h;rw[Uz e];rfl
 |.non::_,_,h=>by cases h
 |.int _::_,_,h=>by cases h
 |.str _::_,_,h=>by cases h
 |.tup _::_,_,h=>by cases h
 |.lst _::_,_,h=>by cases h
 |.dct _ _::_,_,h=>by cases h
 |.sct _::_,_,h=>by cases h
 |.fn _ _::_,_,h=>by cases h
theorem Q8:∀{l:List D}{bs:List Int},intsOf l=a3 bs->l=bs.map D.int
 |[],_,h=>by cases h;rfl
 |.int b::r,bs,h=>by
  unfold intsOf at h;cases e:intsOf r with
  |none=>rw[e]at h;cases h
  |some q=>rw[e]at h;cases h;rw[Q8 e];rfl
 |.non::_,_,h=>by cases h
 |.bl _::_,_,h=>by cases h
 |.str _::_,_,h=>by cases h
 |.tup _::_,_,h=>by cases h
 |.lst _::_,_,h=>by cases h
 |.dct _ _::_,_,h=>by cases h
 |.sct _::_,_,h=>by cases h
 |.fn _ _::_,_,h=>by cases h
theorem Dv:∀{l:List D}{bs:List af},strsOf l=a3 bs->l=bs.map D.str
 |[],_,h=>by cases h;rfl
 |.str b::r,bs,h=>by
  unfold strsOf at h;cases e:strsOf r with
  |none=>rw[e]at h;cases h
  |some q=>rw[e]at h;cases h;rw[Dv e];rfl
 |.non::_,_,h=>by cases h
 |.bl _::_,_,h=>by cases h
 |.int _::_,_,h=>by cases h
 |.tup _::_,_,h=>by cases h
 |.lst _::_,_,h=>by cases h
 |.dct _ _::_,_,h=>by cases h
 |.sct _::_,_,h=>by cases h
 |.fn _ _::_,_,h=>by cases h
theorem J3{w:Option W}{k:Bool}(h:truth w=a3 k):∃r,w=a3 (.v r)/\r.d=.bl k:=by
 unfold truth at h;split at h
 .rename_i r;split at h
  .rename_i q e;cases h;exact⟨r,rfl,e⟩
  .cases h
 .cases h
def j0t(X:Cx)(ρ:Rho):List ai->List Rk->Prop
 |[],[]=>True
 |e::es,r::rs=>(∀y,vd r.d=a3 y->DE X ρ e (.str y))/\j0t X ρ es rs
 |_,_=>False
theorem j0t.all{X:Cx}{ρ:Rho}:∀{es:List ai}{rs:List Rk}{ys:List af},j0t X ρ es rs->Jc rs=a3 ys->DPs X ρ es ys/\ys.length=rs.length
 |[],[],ys,_,q=>by cases q;exact⟨trivial,rfl⟩
 |e::es,r::rs,ys,h,q=>by
  unfold Jc at q;cases e1:vd r.d with
  |none=>rw[e1]at q;cases q
  |some y =>
   cases e2:Jc rs with
   |none=>rw[e1,e2]at q;cases q
   |some ys' =>rw[e1,e2]at q;cases q;obtain⟨z1,z2⟩:=j0t.all h.2 e2;exact⟨⟨h.1 y e1,z1⟩,by rw[xq,xq,z2]⟩
 |[],_::_,_,h,_=>h.elim
 |_::_,[],_,h,_=>h.elim
theorem log2_small{i:Int}(h:-18446744073709551616<i/\i<18446744073709551616):i.natAbs.log2<1920:=by
 by_cases z:i.natAbs=0
 .rw[z];decide
 .have e:(2:Nat)^64=18446744073709551616:=by decide
  have:i.natAbs.log2<64:=(lP z).mpr (by rw[e];omega);omega
theorem j4c{d:D}{y:af}(h:vd d=a3 y):y.length<=2000:=by
 cases d with
 |int i =>
  simp only[vd]at h;split at h
  .rename_i q;cases h;have:=int_text_length_le (k:=1920) (by decide) (log2_small q);rw[PySem.ofString_length];omega
  .cases h
 |str z =>
  simp only[vd]at h;split at h
  .rename_i q;cases h;exact q
  .cases h
 |_=>cases h
theorem Ma:∀{rs:List Rk}{ys:List af},Jc rs=a3 ys->∀y∈ys,y.length<=2000
 |[],_,q=>by cases q;exact λy hy=>nomatch hy
 |r::rs,ys,q=>by
  unfold Jc at q;cases e1:vd r.d with
  |none=>rw[e1]at q;cases q
  |some y =>
   cases e2:Jc rs with
   |none=>rw[e1,e2]at q;cases q
   |some ys' =>
    rw[e1,e2]at q;cases q;intro z hz;rcases xn.mp hz with rfl|hz
    .exact j4c e1
    .exact Ma e2 z hz
theorem DE.fmt{X:Cx}{ρ:Rho}{a:ai}{d:D}{y:af}{pos:aJ}(ha:DT X ρ a d)(h:vd d=a3 y):DE X ρ (.FormattedValue a (-1) a6 pos) (.str y):=by
 cases d with
 |int i =>
  simp only[vd]at h;split at h
  .rename_i q;cases h;exact DE.fmtI ha (log2_small q)
  .cases h
 |str z =>
  simp only[vd]at h;split at h
  .rename_i q;cases h;exact DE.fmtS ha (by rw[dw];omega)
  .cases h
 |_=>cases h
def jh8(Γ:af->List D->Rc)(G:af->Option D)(X:Cx)(t:Ex):Nd->Prop
 |.e e=>∀ρ r,ev Γ G t (j8 ρ)=a3 (.v r)->Has X ρ e r
 |.b e=>∀ρ k,truth (ev Γ G t (j8 ρ))=a3 k->DB X ρ e k
 |.w e=>∀ρ k,truth (ev Γ G t (j8 ρ))=a3 k->DW X ρ e k
 |.a es=>∀ρ rs,ev Γ G t (j8 ρ)=a3 (.a rs)->HasA X ρ es rs
 |.i tg it=>∀ρ ds,ev Γ G t (j8 ρ)=a3 (.i ds)->DI X ρ tg it ds
 |.o e=>∀ρ o,Qe (ev Γ G t (j8 ρ))=a3 o->DP X ρ e o
 |.p es=>∀ρ rs,ev Γ G t (j8 ρ)=a3 (.a rs)->j0t X ρ es rs
 |.c ifs=>∀ρ,(ev Γ G t (j8 ρ)=a3 (.a [])->DTs X ρ ifs a5)/\∀y k,ev Γ G t (j8 ρ)=a3 (.a [y])->y.d=.bl k->DTs X ρ ifs k
end
section
variable{Γ:af->List D->Rc}{G:af->Option D}{X:Cx}
theorem Mq{is:List Nat}{elt' it' c':Ex}{elt it tg:ai}{ifs:List ai}{scope:b9}{ρ:Rho}{r:Rk}
  (hit:∀ρ ds,ev Γ G it' (j8 ρ)=a3 (.i ds)->DI X ρ tg it ds)
  (hb:∀ρ d ρ2,qy is d (j8 ρ)=a3 ρ2->(∀j∈is,ρ[j]?=a3 .un)->∃ρ',j8 ρ'=ρ2/\Wk ρ' ρ/\owns ρ'=owns ρ/\∀C s H fp pn,DG (cCx X scope C s H fp pn) ρ tg d ρ')
  (he:∀C s H fp pn ρ r,ev Γ G elt' (j8 ρ)=a3 (.v r)->Has (cCx X scope C s H fp pn) ρ elt r)
  (hc:∀C s H fp pn ρ,(ev Γ G c' (j8 ρ)=a3 (.a [])->DTs (cCx X scope C s H fp pn) ρ ifs a5)/\∀y k,ev Γ G c' (j8 ρ)=a3 (.a [y])->y.d=.bl k->DTs (cCx X scope C s H fp pn) ρ ifs k)
  (h:ev Γ G (.comp is elt' it' c') (j8 ρ)=a3 (.v r)):∃(l:List D)(ρf:Rho)(ds:List D)(pr:D->Bool)(g:D->D),r=.o l/\l=(ds.filter pr).map g /\
   (ρf=ρ\/(jn l=a5/\∃(i:Nat)(a:aa)(l':List D),ρ[i]?=a3 (.own a l')/\ρf=ρ.set i (.val (.lst l'))))/\DI X ρf tg it ds/\(∀j∈is,ρf[j]?=a3 .un)/\ds.length<=aj /\
   (∀C s H fp pn,∀d∈ds,∃ρ2,DG (cCx X scope C s H fp pn) ρf tg d ρ2/\Wk ρ2 ρf/\owns ρ2=owns ρf/\DTs (cCx X scope C s H fp pn) ρ2 ifs (pr d)/\(pr d=a5->DE (cCx X scope C s H fp pn) ρ2 elt (g d))):=by
 have fr:∃ρf,j8 ρf=frz it' (j8 ρ)/\((J8 it' (j8 ρ)=a4/\ρf=ρ)\/(J8 it' (j8 ρ)=a5/\∃i a l,ρ[i]?=a3 (.own a l)/\ρf=ρ.set i (.val (.lst l)))):=by
  by_cases z:J8 it' (j8 ρ)=a5
  .unfold J8 at z;split at z
   .rename_i i ei;split at z
    .rename_i l e;obtain⟨a,q⟩:=Ju e;refine⟨ρ.set i (.val (.lst l)),?_,.inr ⟨?_,i,a,l,q,rfl⟩⟩
     .rw[jg];simp only[frz,ei,e,Sl.abs]
     .simp only[J8,ei,e]
    .cases z
   .cases z
  .have z':J8 it' (j8 ρ)=a4:=by simpa using z
   refine⟨ρ,?_,.inl ⟨z',rfl⟩⟩;unfold frz;split
   .rename_i i ei;split
    .rename_i l e;simp only[J8,ei,e]at z';cases z'
    .rfl
   .rfl
 obtain⟨ρf,ef,fr⟩:=fr;rw[jgz]at h;rw[<-ef]at h;split at h
 .rename_i ds hds;split at h
  .rename_i hz;obtain⟨hfree,hlen⟩:=hz;generalize hf:(λd=>_:D->Option (Option D))=f at h;cases hl:Jy f ds with
   |none=>rw[hl]at h;cases h
   |some l =>
    rw[hl]at h;have h:(if (J8 it' (j8 ρ) && !jn l)=a5 then a6 else a3 (W.v (.o l)))=a3 (.v r):=h;by_cases zz:(J8 it' (j8 ρ) && !jn l)=a5
    .rw[if_pos zz]at h;cases h
    .rw[if_neg zz]at h;cases h;obtain⟨el,hmem⟩:=Bx hl;have hun:∀j∈is,ρf[j]?=a3 .un:=λj hj=>by
      have:=Pb.mp hfree j hj;split at this
      .rename_i e;exact jcp e
      .cases this
     refine⟨l,ρf,ds,_,_,rfl,el,?_,hit ρf ds hds,hun,zf hlen,λC s H fp pn d hd=>?_⟩
     .rcases fr with ⟨_,e⟩|⟨e1,i,a,l',hk,e⟩
      .exact .inl e
      .exact .inr ⟨by rw[e1]at zz;simpa using zz,i,a,l',hk,e⟩
     ·
      obtain⟨o,ho⟩:=hmem d hd;rw[<-hf]at ho ⊢;dsimp only at ho ⊢;cases hb2:qy is d (j8 ρf) with
      |none=>rw[hb2]at ho;cases ho
      |some ρ2 =>
       obtain⟨ρ',e',wk,ow,dg⟩:=hb ρf d ρ2 hb2 hun;subst e';refine⟨ρ',dg C s H fp pn,wk,ow,?_⟩;rw[hb2]at ho;dsimp only at ho ⊢;cases hcv:ev Γ G c' (j8 ρ') with
       |none=>rw[hcv]at ho;cases ho
       |some w =>
        rw[hcv]at ho;split at ho
        .rename_i hw;cases hw;cases hev:ev Γ G elt' (j8 ρ') with
         |none=>rw[hev]at ho;cases ho
         |some w =>
          rw[hev]at ho;cases w with
          |i _=>cases ho
          |a _=>cases ho
          |v x =>
           dsimp only at ho ⊢;cases hst:x.st with
           |none=>rw[hst]at ho;cases ho
           |some y =>simp only[hst,dq,iQ,dY,d7];exact⟨((hc C s H fp pn ρ').1 hcv),λ_=>(he C s H fp pn ρ' x hev).toE hst⟩
        .rename_i y hw;cases hw;split at ho
         .rename_i e1;cases hev:ev Γ G elt' (j8 ρ') with
          |none=>rw[hev]at ho;cases ho
          |some w =>
           rw[hev]at ho;cases w with
           |i _=>cases ho
           |a _=>cases ho
           |v x =>
            dsimp only at ho ⊢;cases hst:x.st with
            |none=>rw[hst]at ho;cases ho
            |some z =>simp only[e1,hst,dq,iQ,dY,d7];exact⟨(hc C s H fp pn ρ').2 y a5 hcv e1,λ_=>(he C s H fp pn ρ' x hev).toE hst⟩
         .rename_i e1;simp only[e1,Option.join,kv];exact⟨(hc C s H fp pn ρ').2 y a4 hcv e1,λz=>by cases z⟩
         .cases ho
        .cases ho
  .cases h
 .cases h
theorem Bw{is:List Nat}{elt' it' c':Ex}{elt it tg:ai}{ifs:List ai}{scope:b9}{p:aJ}{ρ:Rho}{r:Rk}(hq:X.calm=a5)(hX:Cok X G)
  (hit:∀ρ ds,ev Γ G it' (j8 ρ)=a3 (.i ds)->DI X ρ tg it ds) (hkind:scope.kind=.function) (hok:Jg scope X.env X.N is=a5) (hs:∀x,aC it X.env x=pure x)
  (hb:∀ρ d ρ2,qy is d (j8 ρ)=a3 ρ2->(∀j∈is,ρ[j]?=a3 .un)->∃ρ',j8 ρ'=ρ2/\Wk ρ' ρ/\owns ρ'=owns ρ/\∀C s H fp pn,DG (cCx X scope C s H fp pn) ρ tg d ρ')
  (he:∀C s H fp pn ρ r,ev Γ G elt' (j8 ρ)=a3 (.v r)->Has (cCx X scope C s H fp pn) ρ elt r)
  (hc:∀C s H fp pn ρ,(ev Γ G c' (j8 ρ)=a3 (.a [])->DTs (cCx X scope C s H fp pn) ρ ifs a5)/\∀y k,ev Γ G c' (j8 ρ)=a3 (.a [y])->y.d=.bl k->DTs (cCx X scope C s H fp pn) ρ ifs k)
  (h:ev Γ G (.comp is elt' it' c') (j8 ρ)=a3 (.v r)):∃l,r=.o l/\DO X ρ (.ListComp elt [⟨tg,it,ifs,0⟩] scope p) l:=by
 obtain⟨l,ρf,ds,pr,g,er,el,hf,hi,hun,hz,hb'⟩:=Mq hit hb he hc h;refine⟨l,er,?_⟩;have main:DO X ρf (.ListComp elt [⟨tg,it,ifs,0⟩] scope p) ((ds.filter pr).map g):=DO.comp is _ _ hi hb' hun hz hq hkind hok hs;rw[<-el]at main;rcases hf with e|⟨hn,i,a,l',hk,e⟩
 .subst e;exact main
 .subst e;exact DO.unfrz hk main hn
end
section
variable{X:Cx}{ρ:Rho}{a b e:ai}{es:List ai}{d:D}{pos p:aJ}
theorem Has.map(h:∀σ H Q,Jo X a σ H Q->Jo X e σ H Q):∀{r:Rk},Has X ρ a r->Has X ρ e r
 |.e _,q=>λσ H Q R z=>h σ H Q (q σ H Q R z)
 |.o _,q=>λσ H Q R z=>h σ H Q (q σ H Q R z)
 |.w _,q=>λσ H Q R z=>h σ H Q (q σ H Q R z)
 |.t _,q=>λσ H Q R z=>h σ H Q (q σ H Q R z)
theorem Has.bl{r:Rk}{k:Bool}(h:Has X ρ a r)(e:r.d=.bl k):DE X ρ a (.bl k):=DT.toE (e▸h.toT)
theorem Qf{f:Bf}{rs:List Rk}{r:Rk}{p2:aJ}{G:af->Option D}(c:Cok X G)(hq:f=.min\/f=.all\/f=.sum\/f=.any\/f=.max->X.calm=a5)(hg:Gl X f.name)(h:Zb f rs=a3 r)(ha:HasA X ρ es rs):Has X ρ (.Call (.Name f.name p) es [] p2) r:=by
 have one:∀{x:Rk},HasA X ρ es [x]->∃e,es=[e]/\Has X ρ e x/\a7 [e] X.env=[(a4,ay e X.env)]:=λ{x} h=>by cases h with|cons hs h t=>cases t;exact⟨_,rfl,h,hs⟩
 have two:∀{x y:Rk},HasA X ρ es [x,y]->∃e f,es=[e,f]/\Has X ρ e x/\Has X ρ f y/\a7 [e,f] X.env=(a4,ay e X.env)::a7 [f] X.env/\a7 [f] X.env=[(a4,ay f X.env)]:=λ{x y} h=>by cases h with|cons hs h t=>cases t with|cons hs2 h2 t2=>cases t2;exact⟨_,_,rfl,h,h2,hs,hs2⟩
 unfold Zb at h;split at h
 .rename_i x;obtain⟨e,ee,hx,hs⟩:=one ha;subst ee;split at h
  .rename_i l el;cases h;exact DE.lenL (el▸hx.toT) (c.bt _ (by decide)) hg hs
  .rename_i l el;cases h;exact DE.lenT (el▸hx.toT) (c.bt _ (by decide)) hg hs
  .rename_i y el;obtain⟨z,q⟩:=qb h;subst q;exact DE.lenS (el▸hx.toT) (zf z) (c.bt _ (by decide)) hg hs
  .cases h
 .rename_i x y;obtain⟨e,f,ee,hx,hy,hs,hs2⟩:=two ha;subst ee;split at h
  .rename_i i j ei ej;cases h;exact DE.min (ei▸hx.toT) (ej▸hy.toT) (c.bt _ (by decide)) (hq (.inl rfl)) hg hs hs2 (by rw[hs2];rfl)
  .cases h
 .rename_i x y;obtain⟨e,f,ee,hx,hy,hs,hs2⟩:=two ha;subst ee;split at h
  .rename_i i j ei ej;cases h;exact DE.max2 (ei▸hx.toT) (ej▸hy.toT) (c.bt _ (by decide)) (hq (.inr (.inr (.inr (.inr rfl))))) hg hs hs2 (by rw[hs2];rfl)
  .cases h
 .rename_i x;obtain⟨e,ee,hx,hs⟩:=one ha;subst ee;split at h
  .rename_i l el;split at h
   .rename_i ns en;obtain⟨z,q⟩:=qb h;cases q;have:=Q8 en;subst this;exact DE.maxL (el▸hx.toT) (λz'=>by subst z';simp at z) (c.bt _ (by decide)) (hq (.inr (.inr (.inr (.inr rfl))))) hg hs
   .cases h
  .cases h
 .rename_i x;obtain⟨e,ee,hx,hs⟩:=one ha;subst ee;split at h
  .rename_i l el;split at h
   .rename_i ns en;obtain⟨z,q⟩:=qb h;cases q;have:=Q8 en;subst this;exact DE.minL (el▸hx.toT) (λz'=>by subst z';simp at z) (c.bt _ (by decide)) (hq (.inl rfl)) hg hs
   .cases h
  .cases h
 .rename_i x;obtain⟨e,ee,hx,hs⟩:=one ha;subst ee;split at h
  .rename_i l el;cases q:boolsOf l with
   |none=>rw[q]at h;cases h
   |some bs =>rw[q]at h;cases h;have:=Uz q;subst this;exact DE.all (el▸hx.toT) (c.bt _ (by decide)) (hq (.inr (.inl rfl))) hg hs
  .cases h
 .rename_i x;obtain⟨e,ee,hx,hs⟩:=one ha;subst ee;split at h
  .rename_i l el;cases q:boolsOf l with
   |none=>rw[q]at h;cases h
   |some bs =>rw[q]at h;cases h;have:=Uz q;subst this;exact DE.any (el▸hx.toT) (c.bt _ (by decide)) (hq (.inr (.inr (.inr (.inl rfl))))) hg hs
  .cases h
 .rename_i x;obtain⟨e,ee,hx,hs⟩:=one ha;subst ee;split at h
  .rename_i s l el;cases h;exact DE.tupM (hx.toM el) (c.bt _ (by decide)) hg hs
  .cases h
 .rename_i x;obtain⟨e,ee,hx,hs⟩:=one ha;subst ee;split at h
  .rename_i s l el;cases h;exact DO.listM (hx.toM el) (c.bt _ (by decide)) hg hs
  .cases h
 .rename_i x;obtain⟨e,ee,hx,hs⟩:=one ha;subst ee;split at h
  .rename_i l el;cases q:intsOf l with
   |none=>rw[q]at h;cases h
   |some ns =>rw[q]at h;cases h;have:=Q8 q;subst this;exact DE.sum a5 (show DT X ρ e (.lst (ns.map D.int))from el▸hx.toT) (c.bt _ (by decide)) (hq (.inr (.inr (.inl rfl)))) hg hs
  .rename_i l el;cases q:intsOf l with
   |none=>rw[q]at h;cases h
   |some ns =>rw[q]at h;cases h;have:=Q8 q;subst this;exact DE.sum a4 (show DT X ρ e (.tup (ns.map D.int))from el▸hx.toT) (c.bt _ (by decide)) (hq (.inr (.inr (.inl rfl)))) hg hs
  .cases h
 .rename_i x;obtain⟨e,ee,hx,hs⟩:=one ha;subst ee;split at h
  .rename_i k el;cases h;exact DE.int1 (el▸hx.toT) (c.bt _ (by decide)) hg hs
  .cases h
 .cases h
end
section
variable{Γ:af->List D->Rc}{G:af->Option D}{X:Cx}
theorem Nj{d:D}{ns:List Int}(h:tupI d=a3 ns):d=.tup (ns.map D.int):=by
 unfold tupI at h;split at h
 .rw[Q8 h]
 .cases h
theorem Kq:∀{l:List D}{ks:List (List Int)},Ri l=a3 ks->l=ks.map λk=>D.tup (k.map D.int)
 |[],ks,h=>by cases h;rfl
 |d::l,ks,h=>by
  unfold Ri at h;split at h
  .rename_i k ks' e1 e2;cases h;rw[Nj e1,Kq e2];rfl
  .cases h
theorem jdx:∀{d:D}{k:Int×List Int},prI d=a3 k->d=pairD k:=λ{d k} h=>by
 unfold prI at h;split at h
 .obtain⟨x,e,z⟩:=Xu.mp h;subst z;rw[Nj e];rfl
 .cases h
theorem j1k:∀{l:List D}{ks:List (Int×List Int)},Fb l=a3 ks->l=ks.map pairD
 |[],ks,h=>by cases h;rfl
 |d::l,ks,h=>by
  unfold Fb at h;split at h
  .rename_i k ks' e1 e2;cases h;rw[jdx e1,j1k e2];rfl
  .cases h
theorem j3s {ρ:Rho} {f:af} {e:ai} {es:List ai} {rs:List Rk} {r:Rk} {p p2:aJ} (g:Gok X Γ) (hg:Gl X f) (hdb:(f==k94)=a4) (he:a7 (e::es) X.env=(a4,ay e X.env)::a7 es X.env)
  (hpl:(aK p2 (a7 es X.env)).any (·.1)=a4) (ha:HasA X ρ (e::es) rs)
  (h:(match v6 rs with|some ds=>(Γ f ds).rk.map W.v|none=>match Γ f (rs.map Rk.d)with|.val d=>a3 (.v (.t d))|_=>a6)=a3 (.v r)):Has X ρ (.Call (.Name f p) (e::es) [] p2) r:=by
 split at h
 .rename_i ds hds;have q:=g f ds;cases z:Γ f ds with
  |val d=>rw[z]at h q;cases h;exact DE.call q (ha.toA hds) ⟨rfl,rfl⟩ hg hdb he hpl
  |fresh l=>rw[z]at h q;cases h;exact DO.call q (ha.toA hds) ⟨rfl,rfl⟩ hg hdb he hpl
  |err x=>rw[z]at h;cases h
  |lval d=>rw[z]at h;cases h
  |no=>rw[z]at h;cases h
 .have q:=g f (rs.map Rk.d);split at h
  .rename_i d z;rw[z]at q;cases h;exact DT.call q ha.toT ⟨rfl,rfl⟩ hg hdb he hpl
  .cases h
end
def XM(X:Cx)(ρ:Rho)(y:af):Nd->Prop
 |.e e=>DX X ρ e y
 |.a es=>DXA X ρ es y
 |_=>True
structure Tr(X:Cx)(t:Ex)(nd:Nd):Prop where
 m:∀(Γ:af->List D->Rc)(G:af->Option D),Cok X G->Gok X Γ->jh8 Γ G X t nd
 x:∀(Γ:af->List D->Rc)(G:af->Option D),Cok X G->Gok X Γ->∀ρ y,er Γ G t (j8 ρ)=a3 y->XM X ρ y nd
theorem Tr.int:∀{X:Cx}{i:Int}{n:Nat}{p:aJ},Tr X (.lit (.int i)) (.e (.Constant (.int i) n p)):=by intro _ _ _ _;refine⟨λΓ G=>?_,λ_ _ _ _ _ _ h=>nomatch h⟩;intro _ _ ρ r h;simp only[Nb]at h;cases h;exact DE.int
theorem Tr.bl:∀{X:Cx}{b:Bool}{n:Nat}{p:aJ},Tr X (.lit (.bl b)) (.e (.Constant (.bool b) n p)):=by intro _ _ _ _;refine⟨λΓ G=>?_,λ_ _ _ _ _ _ h=>nomatch h⟩;intro _ _ ρ r h;simp only[Nb]at h;cases h;exact DE.bl
theorem Tr.non:∀{X:Cx}{n:Nat}{p:aJ},Tr X (.lit .non) (.e (.Constant .none n p)):=by intro _ _ _;refine⟨λΓ G=>?_,λ_ _ _ _ _ _ h=>nomatch h⟩;intro _ _ ρ r h;simp only[Nb]at h;cases h;exact DE.non
theorem Tr.str:∀{X:Cx}{y:af}{n:Nat}{p:aJ},Tr X (.lit (.str y)) (.e (.Constant (.str y) n p)):=by intro _ _ _ _;refine⟨λΓ G=>?_,λ_ _ _ _ _ _ h=>nomatch h⟩;intro _ _ ρ r h;simp only[Nb]at h;cases h;exact DE.str
theorem Tr.var:∀{X:Cx}{k:Nat}{x:af}{p:aJ}(hN:X.N[k]?=a3 x) (hv:Vis X.env.scope x) (hd:(x==k94)=a4) (hcd:(x==k95)=a4),Tr X (.var k) (.e (.Name x p)):=by
 intro _ _ _ _ hN hv hd hcd;refine⟨λΓ G=>?_,λ_ _ _ _ _ _ h=>nomatch h⟩;intro _ _ ρ r h;simp only[jix,Nh]at h;split at h
 .rename_i e;cases h;exact DE.var _ (Yl e) hN hv hd hcd
 .rename_i e;cases h;obtain⟨a,q⟩:=Ju e;exact DL.var _ q hN hv hd hcd
 .cases h
theorem Tr.glob:∀{X:Cx}{x:af}{p:aJ}(hg:Gl X x)(hd:(x==k94)=a4) (hb:Vc x=a4),Tr X (.glob x) (.e (.Name x p)):=by
 intro _ _ _ hg hd hb;refine⟨λΓ G=>?_,λ_ _ _ _ _ _ h=>nomatch h⟩;rename_i X x p;intro c _ ρ r h;simp only[jgw]at h;cases e:G x with
 |none=>rw[e]at h;cases h
 |some d=>rw[e]at h;cases h;obtain⟨u,v,hm,r,q⟩:=c.gl x d hb e;exact DE.glob hg hm r q hd
theorem Tr.bin:∀{X:Cx}{op:Bop}{a' b':Ex}{a b:ai}{p:aJ},Tr X a' (.e a)->Tr X b' (.e b)->Tr X (.bin op a' b') (.e (.BinOp a op.op b p)):=by
 intro _ _ _ _ _ _ _ q0 q1;refine⟨λΓ G=>?_,λ_ _ _ _ _ _ h=>nomatch h⟩;have iha:=q0.m Γ G;have ihb:=q1.m Γ G;intro c g ρ r h;simp only[jj7,Ji]at h;split at h
 .rename_i x y ex ey;cases e:Vj _ x y with
  |none=>rw[e]at h;cases h
  |some z=>rw[e]at h;cases h;exact j6d e (iha c g ρ x ex) (ihb c g ρ y ey)
 .cases h
theorem Tr.neg:∀{X:Cx}{a':Ex}{a:ai}{p:aJ},Tr X a' (.e a)->Tr X (.neg a') (.e (.UnaryOp .USub a p)):=by
 intro _ _ _ _ q0;refine⟨λΓ G=>?_,λ_ _ _ _ _ _ h=>nomatch h⟩;have iha:=q0.m Γ G;intro c g ρ r h;simp only[jj1,Es]at h;split at h
 .rename_i x ex;split at h
  .rename_i i e;cases h;exact DE.neg (e▸(iha c g ρ x ex).toT)
  .cases h
 .cases h
theorem Tr.cmp:∀{X:Cx}{op:Cop}{a' b':Ex}{a b:ai}{p:aJ}(hm:aO op.op b=a4),Tr X a' (.e a)->Tr X b' (.e b)->Tr X (.cmp op a' b') (.e (.Compare a [op.op] [b] p)):=by
 intro _ _ _ _ _ _ _ hm q0 q1;refine⟨λΓ G=>?_,λ_ _ _ _ _ _ h=>nomatch h⟩;have iha:=q0.m Γ G;have ihb:=q1.m Γ G;intro c g ρ r h;simp only[j9t,Dj]at h;split at h
 .rename_i x y ex ey;cases e:Qd _ x.d y.d with
  |none=>rw[e]at h;cases h
  |some z=>rw[e]at h;cases h;exact(La c.un' e (iha c g ρ x ex).toT (ihb c g ρ y ey).toT hm).1
 .cases h
theorem Tr.bcmp:∀{X:Cx}{op:Cop}{a' b':Ex}{a b:ai}{p:aJ}(hm:aO op.op b=a4),Tr X a' (.e a)->Tr X b' (.e b)->Tr X (.cmp op a' b') (.b (.Compare a [op.op] [b] p)):=by
 intro _ _ _ _ _ _ _ hm q0 q1;refine⟨λΓ G=>?_,λ_ _ _ _ _ _ _=>trivial⟩;have iha:=q0.m Γ G;have ihb:=q1.m Γ G;intro c g ρ k h;obtain⟨r,h,hk⟩:=J3 h;simp only[j9t,Dj]at h;split at h
 .rename_i x y ex ey;cases e:Qd _ x.d y.d with
  |none=>rw[e]at h;cases h
  |some z=>rw[e]at h;cases h;cases hk;exact(La c.un' e (iha c g ρ x ex).toT (ihb c g ρ y ey).toT hm).2
 .cases h
theorem Tr.isNN:∀{X:Cx}{a':Ex}{a:ai}{n:Nat}{p p2:aJ},Tr X a' (.e a)->Tr X (.not (.isN a')) (.e (.Compare a [.IsNot] [.Constant .none n p2] p)):=by
 intro _ _ _ _ _ _ q0;refine⟨λΓ G=>?_,λ_ _ _ _ _ _ h=>nomatch h⟩;have iha:=q0.m Γ G;intro c g ρ r h;simp only[j3x,j9s]at h;cases e:truth _ with
 |none=>rw[e]at h;cases h
 |some k =>
  rw[e]at h;cases h;obtain⟨x,ex,ed⟩:=J3 e;split at ex
  .rename_i y ey;cases ex;cases ed;exact DE.isNotN (iha c g ρ y ey).toT
  .cases ex
theorem Tr.bisNN:∀{X:Cx}{a':Ex}{a:ai}{n:Nat}{p p2:aJ},Tr X a' (.e a)->Tr X (.not (.isN a')) (.b (.Compare a [.IsNot] [.Constant .none n p2] p)):=by
 intro _ _ _ _ _ _ q0;refine⟨λΓ G=>?_,λ_ _ _ _ _ _ _=>trivial⟩;have iha:=q0.m Γ G;intro c g ρ k h;obtain⟨r,h,hk⟩:=J3 h;simp only[j3x,j9s]at h;cases e:truth _ with
 |none=>rw[e]at h;cases h
 |some k =>
  rw[e]at h;cases h;cases hk;obtain⟨x,ex,ed⟩:=J3 e;split at ex
  .rename_i y ey;cases ex;cases ed;exact DB.isNotN (iha c g ρ y ey).toT
  .cases ex
theorem Tr.one:∀{X:Cx}{a':Ex}{a:ai}{op:BoolOp}{p:aJ},Tr X a' (.e a)->Tr X a' (.e (.BoolOp op [a] p)):=by intro _ _ _ _ _ q0;refine⟨λΓ G=>?_,λΓ G c g ρ y h σ H Q R k=>(j4u peS).to (q0.x Γ G c g ρ y h σ H Q R k)⟩;have iha:=q0.m Γ G;intro c g ρ r h;exact Has.map (λσ H Q q=>(j4u peS).to q) (iha c g ρ r h)
theorem Tr.and:∀{X:Cx}{a' t':Ex}{a b:ai}{rest:List ai}{p:aJ},Tr X a' (.e a)->Tr X t' (.e (.BoolOp .And (b::rest) p))->Tr X (.and a' t') (.e (.BoolOp .And (a::b::rest) p)):=by
 intro _ _ _ _ _ _ _ q0 q1;refine⟨λΓ G=>?_,λ_ _ _ _ _ _ h=>nomatch h⟩;have iha:=q0.m Γ G;have ihb:=q1.m Γ G;intro c g ρ r h;simp only[j9u]at h;split at h
 .rename_i e;cases h;obtain⟨x,ex,ed⟩:=J3 e;exact(DE.and (m:=a4) ((iha c g ρ x ex).bl ed).toT λz=>by cases z)
 .rename_i e;obtain⟨x,ex,ed⟩:=J3 e;cases e2:truth (ev Γ G _ (j8 ρ)) with
  |none=>rw[e2]at h;cases h
  |some k =>rw[e2]at h;cases h;obtain⟨y,ey,fd⟩:=J3 e2;exact(DE.and ((iha c g ρ x ex).bl ed).toT λ_=>(ihb c g ρ y ey).bl fd).eq (by simp)
 .cases h
theorem Tr.wand1:∀{X:Cx}{a':Ex}{a:ai}{p:aJ},Tr X a' (.b a)->Tr X a' (.w (.BoolOp .And [a] p)):=by intro _ _ _ _ q0;refine⟨λΓ G=>?_,λ_ _ _ _ _ _ _=>trivial⟩;have iha:=q0.m Γ G;intro c g ρ k h;exact DW.and1 (iha c g ρ k h)
theorem Tr.wor1:∀{X:Cx}{a':Ex}{a:ai}{p:aJ},Tr X a' (.b a)->Tr X a' (.w (.BoolOp .Or [a] p)):=by intro _ _ _ _ q0;refine⟨λΓ G=>?_,λ_ _ _ _ _ _ _=>trivial⟩;have iha:=q0.m Γ G;intro c g ρ k h;exact DW.or1 (iha c g ρ k h)
theorem Tr.wand:∀{X:Cx}{a' t':Ex}{a b:ai}{rest:List ai}{p:aJ},Tr X a' (.b a)->Tr X t' (.w (.BoolOp .And (b::rest) p))->Tr X (.and a' t') (.w (.BoolOp .And (a::b::rest) p)):=by
 intro _ _ _ _ _ _ _ q0 q1;refine⟨λΓ G=>?_,λ_ _ _ _ _ _ _=>trivial⟩;have iha:=q0.m Γ G;have ihb:=q1.m Γ G;intro c g ρ k h;obtain⟨r,h,hk⟩:=J3 h;simp only[j9u]at h;split at h
 .rename_i e;cases h;cases hk;exact DW.and (m:=a4) (iha c g ρ a4 e) λz=>by cases z
 .rename_i e;cases e2:truth (ev Γ G _ (j8 ρ)) with
  |none=>rw[e2]at h;cases h
  |some m =>rw[e2]at h;cases h;cases hk;have q:=DW.and (iha c g ρ a5 e) λ_=>ihb c g ρ _ e2;rw[eG]at q;exact q
 .cases h
theorem Tr.wor:∀{X:Cx}{a' t':Ex}{a b:ai}{rest:List ai}{p:aJ},Tr X a' (.b a)->Tr X t' (.w (.BoolOp .Or (b::rest) p))->Tr X (.or a' t') (.w (.BoolOp .Or (a::b::rest) p)):=by
 intro _ _ _ _ _ _ _ q0 q1;refine⟨λΓ G=>?_,λ_ _ _ _ _ _ _=>trivial⟩;have iha:=q0.m Γ G;have ihb:=q1.m Γ G;intro c g ρ k h;obtain⟨r,h,hk⟩:=J3 h;simp only[jkj]at h;split at h
 .rename_i e;cases h;cases hk;exact DW.or (m:=a4) (iha c g ρ a5 e) λz=>by cases z
 .rename_i e;cases e2:truth (ev Γ G _ (j8 ρ)) with
  |none=>rw[e2]at h;cases h
  |some m =>rw[e2]at h;cases h;cases hk;have q:=DW.or (iha c g ρ a4 e) λ_=>ihb c g ρ _ e2;rw[eK]at q;exact q
 .cases h
theorem Tr.bw:∀{X:Cx}{a':Ex}{op:BoolOp}{es:List ai}{p:aJ},Tr X a' (.w (.BoolOp op es p))->Tr X a' (.b (.BoolOp op es p)):=by intro _ _ _ _ _ q0;refine⟨λΓ G=>?_,λ_ _ _ _ _ _ _=>trivial⟩;have iha:=q0.m Γ G;intro c g ρ k h;exact DW.toB (iha c g ρ k h)
theorem Tr.bnot:∀{X:Cx}{a':Ex}{a:ai}{p:aJ},Tr X a' (.b a)->Tr X (.not a') (.b (.UnaryOp .Not a p)):=by
 intro _ _ _ _ q0;refine⟨λΓ G=>?_,λ_ _ _ _ _ _ _=>trivial⟩;have iha:=q0.m Γ G;intro c g ρ k h;obtain⟨r,h,hk⟩:=J3 h;simp only[j3x]at h;cases e:truth (ev Γ G _ (j8 ρ)) with
 |none=>rw[e]at h;cases h
 |some m=>rw[e]at h;cases h;cases hk;exact DB.not (iha c g ρ m e)
theorem Tr.bval:∀{X:Cx}{a':Ex}{a:ai}(he:∀whole,fG a X.env whole=(do let v <-whole;kD a.pos;kF [v] (truthy v))),Tr X a' (.e a)->Tr X a' (.b a):=by intro _ _ _ he q0;refine⟨λΓ G=>?_,λ_ _ _ _ _ _ _=>trivial⟩;have iha:=q0.m Γ G;intro c g ρ k h;obtain⟨r,h,hk⟩:=J3 h;exact DB.val ((iha c g ρ r h).bl hk).toT he
theorem Tr.ite:∀{X:Cx}{c' a' b':Ex}{c a b:ai}{p:aJ},Tr X c' (.b c)->Tr X a' (.e a)->Tr X b' (.e b)->Tr X (.ite c' a' b') (.e (.IfExp c a b p)):=by
 intro _ _ _ _ _ _ _ _ q0 q1 q2;refine⟨λΓ G=>?_,λ_ _ _ _ _ _ h=>nomatch h⟩;have ihc:=q0.m Γ G;have iha:=q1.m Γ G;have ihb:=q2.m Γ G;intro c g ρ r h;simp only[jj3]at h;split at h
 .rename_i e;split at h
  .rename_i x ex;cases es:x.st with
   |none=>rw[es]at h;cases h
   |some d=>rw[es]at h;cases h;exact(DE.ite (d':=d) (ihc c g ρ a5 e) (λ_=>(iha c g ρ x ex).toE es) λz=>by cases z).eq (by simp)
  .cases h
 .rename_i e;split at h
  .rename_i x ex;cases es:x.st with
   |none=>rw[es]at h;cases h
   |some d=>rw[es]at h;cases h;exact(DE.ite (d:=d) (ihc c g ρ a4 e) (λz=>by cases z) λ_=>(ihb c g ρ x ex).toE es).eq (by simp)
  .cases h
 .cases h
theorem Tr.nil:∀{X:Cx},Tr X .nil (.a []):=by intro _;refine⟨λΓ G=>?_,λ_ _ _ _ _ _ h=>nomatch h⟩;intro c g ρ rs h;simp only[W5]at h;cases h;exact .nil
theorem Tr.cons:∀{X:Cx}{a' b':Ex}{a:ai}{es:List ai}(hs:a7 (a::es) X.env=(a4,ay a X.env)::a7 es X.env),Tr X a' (.e a)->Tr X b' (.a es)->Tr X (.cons a' b') (.a (a::es)):=by
 intro _ _ _ _ _ hs q0 q1;refine⟨λΓ G=>?_,λΓ G=>?_⟩
 .have iha:=q0.m Γ G;have ihb:=q1.m Γ G;intro c g ρ rs h;simp only[Ug,consW]at h;split at h
  .rename_i x xs ex exs;cases h;exact .cons hs (iha c g ρ x ex) (ihb c g ρ xs exs)
  .cases h
 .skip
  intro c g ρ y h;rw[er]at h;split at h
  .rename_i x ex;cases h;exact DXA.head (q0.x Γ G c g ρ _ ex) hs
  split at h
  .rename_i r ez;exact DXA.tail (q0.m Γ G c g ρ r ez).toT (q1.x Γ G c g ρ y h) hs
  .cases h
theorem Tr.tup:∀{X:Cx}{es':Ex}{es:List ai}{n:Nat}{p:aJ},Tr X es' (.a es)->Tr X (.tup es') (.e (.Tuple es n p)):=by
 intro _ _ _ _ _ q0;refine⟨λΓ G=>?_,λ_ _ _ _ _ _ h=>nomatch h⟩;have iha:=q0.m Γ G;intro c g ρ r h;simp only[jiy,Zj]at h;split at h
 .rename_i rs ers;split at h
  .rename_i ds hds;obtain⟨z,q⟩:=qb h;cases q;exact DE.tup (n:=0) ((iha c g ρ rs ers).toA hds) (zf z)
  .cases h
 .cases h
theorem Tr.lst:∀{X:Cx}{es':Ex}{es:List ai}{p:aJ},Tr X es' (.a es)->Tr X (.lst es') (.e (.List es p)):=by
 intro _ _ _ _ q0;refine⟨λΓ G=>?_,λ_ _ _ _ _ _ h=>nomatch h⟩;have iha:=q0.m Γ G;intro c g ρ r h;simp only[jj2,Zq]at h;split at h
 .rename_i rs ers;split at h
  .rename_i ds hds;obtain⟨z,q⟩:=qb h;cases q;exact DO.lst ((iha c g ρ rs ers).toA hds) (zf z)
  .cases h
 .cases h
theorem Tr.ix:∀{X:Cx}{a' b':Ex}{a b:ai}{p:aJ}(hs:Vt b),Tr X a' (.e a)->Tr X b' (.e b)->Tr X (.ix a' b') (.e (.Subscript a b p)):=by
 intro _ _ _ _ _ _ hs q0 q1;refine⟨λΓ G=>?_,λΓ G c g ρ y h σ H Q R k=>(Bd j5f peS peS hs).to (q0.x Γ G c g ρ y (by rw[er]at h;exact h) σ H _ R k)⟩;have iha:=q0.m Γ G;have ihb:=q1.m Γ G;intro c g ρ r h;simp only[jkk,ixW]at h;split at h
 .rename_i x y ex ey;split at h
  .rename_i s l i hx hy;cases z:atI l i with
   |none=>rw[z]at h;cases h
   |some d=>rw[z]at h;cases h;exact DE.ixM ((iha c g ρ x ex).toM hx) (hy▸(ihb c g ρ y ey).toT) z hs
  .rename_i i hx hy;split at h
   .rename_i y' ed;split at h
    .rename_i hl;cases z:atI y'.cps.toList i with
     |none=>rw[z]at h;cases h
     |some d=>rw[z]at h;cases h;exact DE.ixC (ed▸(iha c g ρ x ex).toT) (hy▸(ihb c g ρ y ey).toT) (zf hl) z hs
    .cases h
   .cases h
  .cases h
 .cases h
theorem Tr.oN:∀{X:Cx},Tr X .nil (.o a6):=by intro _;refine⟨λΓ G=>?_,λ_ _ _ _ _ _ _=>trivial⟩;intro c g ρ o h;simp only[W5,Qe]at h;cases h;exact DP.none
theorem Tr.oS:∀{X:Cx}{a':Ex}{a:ai},Tr X a' (.e a)->Tr X (.cons a' .nil) (.o (a3 a)):=by
 intro _ _ _ q0;refine⟨λΓ G=>?_,λ_ _ _ _ _ _ _=>trivial⟩;have iha:=q0.m Γ G;intro c g ρ o h;simp only[Ug,W5,consW]at h;split at h
 .rename_i x xs ex exs;cases exs;simp only[Qe]at h;split at h
  .rename_i i ei;cases h;exact DP.some (ei▸(iha c g ρ x ex).toT)
  .cases h
 .cases h
theorem Tr.sl:∀{X:Cx}{a' l' h':Ex}{a:ai}{lo hi:Option ai}{p p2:aJ},Tr X a' (.e a)->Tr X l' (.o lo)->Tr X h' (.o hi)->Tr X (.sl a' l' h') (.e (.Subscript a (.Slice lo hi a6 p2) p)):=by
 intro _ _ _ _ _ _ _ _ _ q0 q1 q2;refine⟨λΓ G=>?_,λ_ _ _ _ _ _ h=>nomatch h⟩;have iha:=q0.m Γ G;have ihl:=q1.m Γ G;have ihh:=q2.m Γ G;intro c g ρ r h;simp only[jki]at h;split at h
 .rename_i x l hh ex el eh;split at h
  .rename_i ds e;cases h;exact DO.sliceM ((iha c g ρ x ex).toM e) (ihl c g ρ l el) (ihh c g ρ hh eh)
  .rename_i ds e;split at h
   .cases h
   .rename_i z;cases h;exact DE.sliceM ((iha c g ρ x ex).toM e) (ihl c g ρ l el) (ihh c g ρ hh eh) z
  .split at h
   .rename_i y' ed;obtain⟨z,q⟩:=qb h;cases q;exact DE.sliceS (ed▸(iha c g ρ x ex).toT) (ihl c g ρ l el) (ihh c g ρ hh eh) (zf z)
   .cases h
 .cases h
theorem Tr.call:∀{X:Cx}{f:af}{es':Ex}{e:ai}{es:List ai}{p p2:aJ}(hg:Gl X f) (hdb:(f==k94)=a4) (he:a7 (e::es) X.env=(a4,ay e X.env)::a7 es X.env) (hpl:(aK p2 (a7 es X.env)).any (·.1)=a4),Tr X es' (.a (e::es))->Tr X (.call f es') (.e (.Call (.Name f p) (e::es) [] p2)):=by
 intro _ f _ _ _ _ _ hg hdb he hpl q0;refine⟨λΓ G=>?_,λΓ G=>?_⟩
 .have iha:=q0.m Γ G;intro c g ρ r h;simp only[jh0,Qk]at h;split at h
  .rename_i rs ers;exact j3s g hg hdb he hpl (iha c g ρ rs ers) h
  .cases h
 .skip
  intro c g ρ y h;rw[er]at h;split at h
  .rename_i x ex;split at h
   .rename_i hz;cases h;obtain⟨d,hd⟩:=Xq.mp hz;obtain⟨fa,hfa,hk⟩:=c.fn _ d hd;exact DX.args (q0.x Γ G c g ρ _ ex) hg hdb hfa hk he hpl
   .cases h
  split at h
  .rename_i rs ers;split at h
   .rename_i z ez;split at h
    .rename_i hz;cases h;have q:=g f (rs.map Rk.d);rw[ez]at q;obtain⟨d,hd⟩:=Xq.mp hz;obtain⟨_,o,ho⟩:=c.ec _ d hd;exact DX.call q (q0.m Γ G c g ρ rs ers).toT ⟨rfl,rfl⟩ (W.mg_of c.kin c.ns ho) hg hdb he hpl
    .cases h
   .cases h
  .cases h
theorem Tr.chn:∀{X:Cx}{a' b' c':Ex}{a b c:ai}{p:aJ}(hm:l7 [.Lt,.Lt] [b,c]=a4),Tr X a' (.e a)->Tr X b' (.e b)->Tr X c' (.e c)->Tr X (.chn a' b' c') (.e (.Compare a [.Lt,.Lt] [b,c] p)):=by
 intro _ _ _ _ _ _ _ _ hm q0 q1 q2;refine⟨λΓ G=>?_,λ_ _ _ _ _ _ h=>nomatch h⟩;have iha:=q0.m Γ G;have ihb:=q1.m Γ G;have ihc:=q2.m Γ G;intro c g ρ r h;simp only[jj6,j0k]at h;split at h
 .rename_i x y z ex ey ez;split at h
  .rename_i i j k ei ej ek;cases h;exact DE.chn (ei▸(iha c g ρ x ex).toT) (ej▸(ihb c g ρ y ey).toT) (ek▸(ihc c g ρ z ez).toT) hm
  .cases h
 .cases h
theorem Tr.max1:∀{X:Cx}{es':Ex}{e:ai}{p p2:aJ}(hq:X.calm=a5)(hg:Gl X "max"),Tr X es' (.a [e])->Tr X (.blt .max es') (.e (.Call (.Name "max" p) [e] [] p2)):=by
 intro _ _ _ _ _ hq hg q0;refine⟨λΓ G=>?_,λ_ _ _ _ _ _ h=>nomatch h⟩;have iha:=q0.m Γ G;intro c g ρ r h;simp only[W6,vp]at h;split at h
 .rename_i rs ers;cases e:Zb _ rs with
  |none=>rw[e]at h;cases h
  |some x=>rw[e]at h;cases h;exact Qf (f:=.max) c (λ_=>hq) hg e (iha c g ρ rs ers)
 .cases h
theorem Tr.min1:∀{X:Cx}{es':Ex}{e:ai}{p p2:aJ}(hq:X.calm=a5)(hg:Gl X "min"),Tr X es' (.a [e])->Tr X (.blt .min es') (.e (.Call (.Name "min" p) [e] [] p2)):=by
 intro _ _ _ _ _ hq hg q0;refine⟨λΓ G=>?_,λ_ _ _ _ _ _ h=>nomatch h⟩;have iha:=q0.m Γ G;intro c g ρ r h;simp only[W6,vp]at h;split at h
 .rename_i rs ers;cases e:Zb _ rs with
  |none=>rw[e]at h;cases h
  |some x=>rw[e]at h;cases h;exact Qf (f:=.min) c (λ_=>hq) hg e (iha c g ρ rs ers)
 .cases h
theorem Tr.len:∀{X:Cx}{es':Ex}{e:ai}{p p2:aJ}(hg:Gl X "len"),Tr X es' (.a [e])->Tr X (.blt .len es') (.e (.Call (.Name "len" p) [e] [] p2)):=by
 intro _ _ _ _ _ hg q0;refine⟨λΓ G=>?_,λ_ _ _ _ _ _ h=>nomatch h⟩;have iha:=q0.m Γ G;intro c g ρ r h;simp only[W6,vp]at h;split at h
 .rename_i rs ers;cases e:Zb _ rs with
  |none=>rw[e]at h;cases h
  |some x=>rw[e]at h;cases h;exact Qf (f:=.len) c (λz=>by rcases z with z|z|z|z|z<;>cases z) hg e (iha c g ρ rs ers)
 .cases h
theorem Tr.tuple:∀{X:Cx}{es':Ex}{e:ai}{p p2:aJ}(hg:Gl X "tuple"),Tr X es' (.a [e])->Tr X (.blt .tuple es') (.e (.Call (.Name "tuple" p) [e] [] p2)):=by
 intro _ _ _ _ _ hg q0;refine⟨λΓ G=>?_,λ_ _ _ _ _ _ h=>nomatch h⟩;have iha:=q0.m Γ G;intro c g ρ r h;simp only[W6,vp]at h;split at h
 .rename_i rs ers;cases e:Zb _ rs with
  |none=>rw[e]at h;cases h
  |some x=>rw[e]at h;cases h;exact Qf (f:=.tuple) c (λz=>by rcases z with z|z|z|z|z<;>cases z) hg e (iha c g ρ rs ers)
 .cases h
theorem Tr.list:∀{X:Cx}{es':Ex}{e:ai}{p p2:aJ}(hg:Gl X "list"),Tr X es' (.a [e])->Tr X (.blt .list es') (.e (.Call (.Name "list" p) [e] [] p2)):=by
 intro _ _ _ _ _ hg q0;refine⟨λΓ G=>?_,λ_ _ _ _ _ _ h=>nomatch h⟩;have iha:=q0.m Γ G;intro c g ρ r h;simp only[W6,vp]at h;split at h
 .rename_i rs ers;cases e:Zb _ rs with
  |none=>rw[e]at h;cases h
  |some x=>rw[e]at h;cases h;exact Qf (f:=.list) c (λz=>by rcases z with z|z|z|z|z<;>cases z) hg e (iha c g ρ rs ers)
 .cases h
theorem Tr.sum:∀{X:Cx}{es':Ex}{e:ai}{p p2:aJ}(hq:X.calm=a5)(hg:Gl X "sum"),Tr X es' (.a [e])->Tr X (.blt .sum es') (.e (.Call (.Name "sum" p) [e] [] p2)):=by
 intro _ _ _ _ _ hq hg q0;refine⟨λΓ G=>?_,λ_ _ _ _ _ _ h=>nomatch h⟩;have iha:=q0.m Γ G;intro c g ρ r h;simp only[W6,vp]at h;split at h
 .rename_i rs ers;cases e:Zb _ rs with
  |none=>rw[e]at h;cases h
  |some x=>rw[e]at h;cases h;exact Qf (f:=.sum) c (λ_=>hq) hg e (iha c g ρ rs ers)
 .cases h
theorem Tr.intc:∀{X:Cx}{es':Ex}{e:ai}{p p2:aJ}(hg:Gl X "int"),Tr X es' (.a [e])->Tr X (.blt .int es') (.e (.Call (.Name "int" p) [e] [] p2)):=by
 intro _ _ _ _ _ hg q0;refine⟨λΓ G=>?_,λ_ _ _ _ _ _ h=>nomatch h⟩;have iha:=q0.m Γ G;intro c g ρ r h;simp only[W6,vp]at h;split at h
 .rename_i rs ers;cases e:Zb _ rs with
  |none=>rw[e]at h;cases h
  |some x=>rw[e]at h;cases h;exact Qf (f:=.int) c (λz=>by rcases z with z|z|z|z|z<;>cases z) hg e (iha c g ρ rs ers)
 .cases h
theorem Tr.join:∀{X:Cx}{a':Ex}{a:ai}{sep:af}{n:Nat}{p0 p1 p2:aJ}(hbase:aF (.Constant (.str sep) n p0) "join" X.env (ay (.Constant (.str sep) n p0) X.env)=ay (.Constant (.str sep) n p0) X.env) (hfew:((aK p2 (a7 [a] X.env)).all (λx=>!x.1)&&(bA p2 (aX [] X.env)).all (λx=>x.1.isSome)&&decide (([a]:List ai).length+([]:List aT).length+(if ([]:List aT).isEmpty then 0 else 1)<30))=a5) (hline:(p1.endLine==p2.line)=a5) (hs:a7 [a] X.env=(a4,ay a X.env)::a7 [] X.env),Tr X a' (.e a)->Tr X (.join sep a') (.e (.Call (.Attribute (.Constant (.str sep) n p0) "join" p1) [a] [] p2)):=by
 intro _ _ _ _ _ _ _ _ hbase hfew hline hs q0;refine⟨λΓ G=>?_,λ_ _ _ _ _ _ h=>nomatch h⟩;have iha:=q0.m Γ G;intro c g ρ r h;simp only[jgv,Rv]at h;split at h
 .rename_i x ex;split at h
  .rename_i l el;split at h
   .rename_i ts et;obtain⟨z,q⟩:=qb h;cases q;have:=Dv et;subst this;exact DE.join (el▸(iha c g ρ x ex).toT) z hfew hbase hline hs
   .cases h
  .cases h
 .cases h
theorem Tr.tix:∀{X:Cx}{a' b':Ex}{a e:ai}{p1 p2:aJ}(hbase:aF a "index" X.env (ay a X.env)=ay a X.env) (hfew:((aK p2 (a7 [e] X.env)).all (λx=>!x.1)&&(bA p2 (aX [] X.env)).all (λx=>x.1.isSome)&&decide (([e]:List ai).length+([]:List aT).length+(if ([]:List aT).isEmpty then 0 else 1)<30))=a5) (hline:(p1.endLine==p2.line)=a5) (hs:a7 [e] X.env=(a4,ay e X.env)::a7 [] X.env),Tr X a' (.e a)->Tr X b' (.e e)->Tr X (.tix a' b') (.e (.Call (.Attribute a "index" p1) [e] [] p2)):=by
 intro _ _ _ _ _ _ _ hbase hfew hline hs q0 q1;refine⟨λΓ G=>?_,λ_ _ _ _ _ _ h=>nomatch h⟩;have iha:=q0.m Γ G;have ihb:=q1.m Γ G;intro c g ρ r h;simp only[jiz,Nr]at h;split at h
 .rename_i x y ex ey;split at h
  .rename_i l el;by_cases z:D.depL l<=90/\y.d.dep<=90
   .rw[if_pos z]at h;cases e:ixD y.d l with
    |none=>rw[e]at h;cases h
    |some k=>rw[e]at h;cases h;exact DE.indexT c.un' (el▸(iha c g ρ x ex).toT) (ihb c g ρ y ey).toT nofun nofun e hbase hfew hline hs
   .rw[if_neg z]at h;cases h
  .rename_i l el;by_cases z:D.depL l<=90/\y.d.dep<=90
   .rw[if_pos z]at h;cases e:ixD y.d l with
    |none=>rw[e]at h;cases h
    |some k=>rw[e]at h;cases h;exact DE.indexL c.un' (el▸(iha c g ρ x ex).toT) (ihb c g ρ y ey).toT nofun nofun e hbase hfew hline hs
   .rw[if_neg z]at h;cases h
  .cases h
 .cases h
theorem Tr.enum:∀{X:Cx}{a':Ex}{a:ai}{es:List ai}{n:Nat}{p p2 pt:aJ}(hg:Gl X "enumerate") (hs:a7 [a] X.env=[(a4,ay a X.env)]),Tr X a' (.e a)->Tr X (.enum a') (.i (.Tuple es n pt) (.Call (.Name "enumerate" p) [a] [] p2)):=by
 intro _ _ _ _ _ _ _ _ hg hs q0;refine⟨λΓ G=>?_,λ_ _ _ _ _ _ _=>trivial⟩;have iha:=q0.m Γ G;intro c g ρ ds h;simp only[jgx,Ut]at h;split at h
 .rename_i x ex;have ha:=iha c g ρ x ex;split at h
  .rename_i l e1;cases h;exact DI.enum a5 (ha.toE e1) (c.bt _ (by decide)) hg hs
  .rename_i l e1;cases h;exact DI.enum a4 (ha.toE e1) (c.bt _ (by decide)) hg hs
  .cases h
 .cases h
theorem Tr.count:∀{X:Cx}{a' es':Ex}{a e:ai}{p1 p2:aJ}(hbase:aF a "count" X.env (ay a X.env)=ay a X.env) (hfew:((aK p2 (a7 [e] X.env)).all (λx=>!x.1)&&(bA p2 (aX [] X.env)).all (λx=>x.1.isSome)&&decide (([e]:List ai).length+([]:List aT).length+(if ([]:List aT).isEmpty then 0 else 1)<30))=a5) (hline:(p1.endLine==p2.line)=a5),Tr X a' (.e a)->Tr X es' (.a [e])->Tr X (.meth .count a' es') (.e (.Call (.Attribute a "count" p1) [e] [] p2)):=by
 intro _ _ _ _ _ _ _ hbase hfew hline q0 q1;refine⟨λΓ G=>?_,λ_ _ _ _ _ _ h=>nomatch h⟩;have iha:=q0.m Γ G;have ihb:=q1.m Γ G;intro c g ρ r h;simp only[jgu,Rr]at h;split at h
 .rename_i x rs ex ers;obtain⟨y,e,hy,hs⟩:=(ihb c g ρ rs ers).one;subst e;simp only[j3c]at h;split at h
  .rename_i l el;split at h
   .rename_i z;cases h;exact DE.countT c.un' (el▸(iha c g ρ x ex).toT) hy.toT nofun nofun hbase hfew hline hs
   .cases h
  .rename_i l el;split at h
   .rename_i z;cases h;exact DE.countL c.un' (el▸(iha c g ρ x ex).toT) hy.toT nofun nofun hbase hfew hline hs
   .cases h
  .cases h
 .cases h
theorem Tr.isi1:∀{X:Cx}{a':Ex}{a:ai}{T:af}{c:String}{p p1 p2:aJ}(hT:T∈Yi) (hv:bE T=a3 (.type c)) (hg:Gl X "isinstance") (hg2:Gl X T) (hn:T ≠ "__name__") (hd:(T==k94)=a4) (hs:a7 [a,.Name T p1] X.env=(a4,ay a X.env)::a7 [.Name T p1] X.env),Tr X a' (.e a)->Tr X (.isi a' [c]) (.e (.Call (.Name "isinstance" p) [a,.Name T p1] [] p2)):=by
 intro _ _ _ _ _ _ _ _ hT hv hg hg2 hn hd hs q0;refine⟨λΓ G=>?_,λ_ _ _ _ _ _ h=>nomatch h⟩;have iha:=q0.m Γ G;intro c g ρ r h;simp only[jj4,j02]at h;split at h
 .rename_i x ex;cases e:Y7 x.d _ with
  |none=>rw[e]at h;cases h
  |some k =>
   rw[e]at h;cases h;refine DE.isi1 (iha c g ρ x ex).toT (jbm e) (c.bt _ (by decide)) (c.bt _ hT) hv ?_ hg hg2 hn hd hs rfl rfl;simp only[Y7]at e;split at e
   .rename_i k1 k2 e1 e2;cases e2;cases e;rw[eJ];exact jbi e1
   .cases e
 .cases h
theorem Tr.callV:∀{X:Cx}{i:Nat}{y:af}{es':Ex}{e:ai}{es:List ai}{p p2:aJ} (hN:X.N[i]?=a3 y) (hv:Vis X.env.scope y) (hd:(y==k94)=a4) (hcd:(y==k95)=a4) (he:a7 (e::es) X.env=(a4,ay e X.env)::a7 es X.env) (hpl:(aK p2 (a7 es X.env)).any (·.1)=a4),Tr X es' (.a (e::es))->Tr X (.callV i es') (.e (.Call (.Name y p) (e::es) [] p2)):=by
 intro _ i y es' e es p p2 hN hv hd hcd he hpl q0;refine⟨λΓ G=>?_,λ_ _ _ _ _ _ h=>nomatch h⟩;have iha:=q0.m Γ G;intro c g ρ r h;simp only[jcs,R9]at h;split at h
 .rename_i x cs rs ei ers;split at h
  .rename_i ds eds;split at h
   .rename_i nf;have q:=g (q8 x) (cs++ds);cases z:Γ (q8 x) (cs++ds) with
    |lval d =>rw[z]at h q;cases h;obtain⟨k,hr,lk⟩:=q x rfl;exact DE.callV lk hr (Yl ei) ((iha c g ρ rs ers).toA eds) nf ⟨rfl,rfl⟩ hN hv hd hcd he hpl
    |val d=>rw[z]at h;cases h
    |fresh l=>rw[z]at h;cases h
    |err x=>rw[z]at h;cases h
    |no=>rw[z]at h;cases h
   .cases h
  .cases h
 .cases h
theorem Tr.dget:∀{X:Cx}{a' b':Ex}{a b:ai}{p:aJ}(hs:Vt b),Tr X a' (.e a)->Tr X b' (.e b)->Tr X (.dget a' b') (.e (.Subscript a b p)):=by
 intro _ _ _ _ _ _ hs q0 q1;refine⟨λΓ G=>?_,λ_ _ _ _ _ _ h=>nomatch h⟩;have iha:=q0.m Γ G;have ihb:=q1.m Γ G;intro c g ρ r h;simp only[jgy,Ry]at h;split at h
 .rename_i ks ds y ex ey;split at h
  .rename_i k ek;cases e:Qt ks ds k with
   |none=>rw[e]at h;cases h
   |some d=>rw[e]at h;cases h;exact DE.dget c.un' ((iha c g ρ (.e (.dct ks ds)) ex).toE rfl) (Nj ek▸(ihb c g ρ y ey).toT) e hs
  .cases h
 .cases h
theorem Tr.dvals:∀{X:Cx}{a':Ex}{a:ai}{p p1 p2 pos:aJ}(hq:X.calm=a5)(hg:Gl X "tuple") (hbase:aF a "values" X.env (ay a X.env)=ay a X.env) (hline:(p1.endLine==p2.line)=a5) (hs2:a7 [.Call (.Attribute a "values" p1) [] [] p2] X.env=[(a4,ay (.Call (.Attribute a "values" p1) [] [] p2) X.env)]),Tr X a' (.e a)->Tr X (.dvals a') (.e (.Call (.Name "tuple" p) [.Call (.Attribute a "values" p1) [] [] p2] [] pos)):=by
 intro _ _ _ _ _ _ _ hq hg hbase hline hs2 q0;refine⟨λΓ G=>?_,λ_ _ _ _ _ _ h=>nomatch h⟩;have iha:=q0.m Γ G;intro c g ρ r h;simp only[jcr,j0a]at h;split at h
 .rename_i ks ds ex;cases h;exact DE.tupVals ((iha c g ρ (.e (.dct ks ds)) ex).toE rfl) hq (c.bt _ (by decide)) hg hbase hline hs2
 .cases h
theorem Tr.minT:∀{X:Cx}{a':Ex}{a:ai}{p pos:aJ}(hq:X.calm=a5)(hg:Gl X "min") (hs:a7 [a] X.env=[(a4,ay a X.env)]),Tr X a' (.e a)->Tr X (.minT a') (.e (.Call (.Name "min" p) [a] [] pos)):=by
 intro _ _ _ _ _ hq hg hs q0;refine⟨λΓ G=>?_,λ_ _ _ _ _ _ h=>nomatch h⟩;have iha:=q0.m Γ G;intro c g ρ r h;simp only[jgt,Rq]at h;split at h
 .rename_i x ex;split at h
  .rename_i l el;split at h
   .rename_i ks ek;cases e:ks[aW (Bh ks) (ks.length-1)]? with
    |none=>rw[e]at h;cases h
    |some k =>rw[e]at h;cases h;exact DT.minT c.un' hq (c.bt _ (by decide)) hg (by have z:=(iha c g ρ x ex).toT;rw[el,Kq ek]at z;exact z) e hs
   .split at h
    .rename_i ks ek;cases e:ks[aW (Z0 ks) (ks.length-1)]? with
     |none=>rw[e]at h;cases h
     |some k =>rw[e]at h;cases h;exact DT.minP c.un' hq (c.bt _ (by decide)) hg (by have z:=(iha c g ρ x ex).toT;rw[el,j1k ek]at z;exact z) e hs
    .cases h
  .cases h
 .cases h
theorem Tr.c0:∀{X:Cx},Tr X .nil (.c []):=by intro _;refine⟨λΓ G=>?_,λ_ _ _ _ _ _ _=>trivial⟩;intro c g ρ;exact⟨λ_=>DTs.nil,λy k h=>by simp only[W5]at h;cases h⟩
theorem Tr.c1:∀{X:Cx}{c':Ex}{c:ai},Tr X c' (.b c)->Tr X (.cons c' .nil) (.c [c]):=by
 intro _ _ _ q0;refine⟨λΓ G=>?_,λ_ _ _ _ _ _ _=>trivial⟩;have iha:=q0.m Γ G;intro c g ρ;refine⟨λh=>?_,λy k h hk=>DTs.one ?_⟩
 .simp only[Ug,W5,consW]at h;split at h<;>cases h
 .simp only[Ug,W5,consW]at h;split at h
  .rename_i x xs ex exs;cases exs;cases h;exact iha c g ρ k (by rw[ex];simp only[truth,hk])
  .cases h
theorem Tr.comp1:∀{X:Cx}{i:Nat}{y:af}{py p:aJ}{elt' it' c':Ex}{elt it:ai}{ifs:List ai} {scope:b9} (hq:X.calm=a5) (hi:X.N[i]?=a3 y) (hl:Ym scope y=a5) (hkind:scope.kind=.function) (hok:Jg scope X.env X.N [i]=a5) (hs:∀x,aC it X.env x=pure x),Tr X it' (.i (.Name y py) it)->(∀C s H fp pn,Tr (cCx X scope C s H fp pn) elt' (.e elt))->(∀C s H fp pn,Tr (cCx X scope C s H fp pn) c' (.c ifs))->Tr X (.comp [i] elt' it' c') (.e (.ListComp elt [⟨.Name y py,it,ifs,0⟩] scope p)):=by
 intro _ _ _ _ _ _ _ _ _ _ _ _ hq hi hl hkind hok hs q0 q1 q2;refine⟨λΓ G=>?_,λ_ _ _ _ _ _ h=>nomatch h⟩;have ihi:=q0.m Γ G;have ihe:=λC s H fp pn=>(q1 C s H fp pn).m Γ G;have ihc:=λC s H fp pn=>(q2 C s H fp pn).m Γ G;intro c g ρ r h;obtain⟨l,e,q⟩:=Bw hq c (λρ ds z=>ihi c g ρ ds z) hkind hok hs (λρ d ρ2 hb hun=>by
  simp only[qy]at hb
  cases hb
  have hu:=hun _ (xu.mpr rfl)
  exact⟨_,jg,Wk.set hu,V2 hu,λC s H fp pn=>DG.name _ c.nd hi (Rj hl) (Ou hl)⟩)
  (λC s H fp pn ρ r z=>ihe C s H fp pn c.comp g.comp ρ r z) (λC s H fp pn ρ=>ihc C s H fp pn c.comp g.comp ρ) h
 subst e;exact q
theorem Tr.comp2:∀{X:Cx}{i j:Nat}{x y:af}{px py pt p:aJ}{n:Nat}{elt' it' c':Ex}{elt it:ai} {ifs:List ai} {scope:b9} (hq:X.calm=a5) (hij:i≠j) (hi:X.N[i]?=a3 x) (hj:X.N[j]?=a3 y) (hl:Ym scope x=a5) (hl':Ym scope y=a5) (hkind:scope.kind=.function) (hok:Jg scope X.env X.N [i,j]=a5) (hs:∀x,aC it X.env x=pure x),Tr X it' (.i (.Tuple [.Name x px,.Name y py] n pt) it)->(∀C s H fp pn,Tr (cCx X scope C s H fp pn) elt' (.e elt))->(∀C s H fp pn,Tr (cCx X scope C s H fp pn) c' (.c ifs))->Tr X (.comp [i,j] elt' it' c') (.e (.ListComp elt [⟨.Tuple [.Name x px,.Name y py] n pt,it,ifs,0⟩] scope p)):=by
 intro _ i j _ _ _ _ _ _ _ _ _ _ _ _ _ _ hq hij hi hj hl hl' hkind hok hs q0 q1 q2;refine⟨λΓ G=>?_,λ_ _ _ _ _ _ h=>nomatch h⟩;have ihi:=q0.m Γ G;have ihe:=λC s H fp pn=>(q1 C s H fp pn).m Γ G;have ihc:=λC s H fp pn=>(q2 C s H fp pn).m Γ G;intro c g ρ r h;obtain⟨l,e,q⟩:=Bw hq c (λρ ds z=>ihi c g ρ ds z) hkind hok hs (λρ d ρ2 hb hun=>by
  simp only[qy]at hb
  split at hb
  .rename_i a b
   cases hb
   have hu:=hun _ (xm ..)
   have hu':=hun _ (km _ (xu.mpr rfl))
   have h1:(ρ.set i (.val a))[j]?=a3 Sl.un:=by rw[qe hij];exact hu'
   exact⟨(ρ.set i (.val a)).set j (.val b),by rw[jg,jg];rfl,λK σ H R=>Wk.set hu K σ H (Wk.set h1 K σ H R),by rw[V2 h1,V2 hu],
    λC s H fp pn=>DG.pair _ _ hij c.nd hi hj (Rj hl) (Rj hl') (Ou hl) (Ou hl') hq⟩
  .cases hb)
  (λC s H fp pn ρ r z=>ihe C s H fp pn c.comp g.comp ρ r z) (λC s H fp pn ρ=>ihc C s H fp pn c.comp g.comp ρ) h
 subst e;exact q
theorem Tr.seq:∀{X:Cx}{a':Ex}{tg a:ai},Tr X a' (.e a)->Tr X (.seq a') (.i tg a):=by
 intro _ _ _ _ q0;refine⟨λΓ G=>?_,λ_ _ _ _ _ _ _=>trivial⟩;have iha:=q0.m Γ G;intro c g ρ ds h;simp only[jj0,Mw]at h;split at h
 .rename_i l e;cases h;exact DI.lst (iha c g ρ _ e)
 .rename_i l e;cases h;exact DI.tup (iha c g ρ _ e)
 .rename_i l e;cases h;exact DI.lst (DO.toE (iha c g ρ _ e))
 .rename_i y e;obtain⟨z,q⟩:=qb h;cases q;exact DI.str (iha c g ρ _ e).toT z
 .cases h
theorem Tr.range:∀{X:Cx}{es':Ex}{tg:ai}{es:List ai}{p p2:aJ}(hg:Gl X "range"),Tr X es' (.a es)->Tr X (.range es') (.i tg (.Call (.Name "range" p) es [] p2)):=by
 intro _ _ _ _ _ _ hg q0;refine⟨λΓ G=>?_,λ_ _ _ _ _ _ _=>trivial⟩;have iha:=q0.m Γ G;intro c g ρ ds h;simp only[jcq,Wg]at h;split at h
 .rename_i x ex;have q:=iha c g ρ _ ex;cases q with|cons hs hx t =>
  cases t;split at h
  .rename_i n en;obtain⟨z,q⟩:=qb h;cases q;exact DI.range1 (en▸hx.toT) (c.bt _ (by decide)) z.1 z.2 hg hs
  .cases h
 .rename_i x y ex;have q:=iha c g ρ _ ex;cases q with|cons hs hx t =>
  cases t with|cons hs2 hy t2 =>
  cases t2;split at h
  .rename_i m n em en;obtain⟨z,q⟩:=qb h;cases q;exact DI.range2 (em▸hx.toT) (en▸hy.toT) (c.bt _ (by decide)) z.1 z.2.1 z.2.2.1 z.2.2.2 hg (by rw[hs,hs2];rfl) hs2 hs
  .cases h
 .cases h
theorem Tr.p0:∀{X:Cx},Tr X .nil (.p []):=by intro _;refine⟨λΓ G=>?_,λ_ _ _ _ _ _ _=>trivial⟩;intro c g ρ rs h;simp only[W5]at h;cases h;trivial
theorem Tr.pC:∀{X:Cx}{y:af}{n:Nat}{p:aJ}{b':Ex}{es:List ai},Tr X b' (.p es)->Tr X (.cons (.lit (.str y)) b') (.p (.Constant (.str y) n p::es)):=by
 intro _ _ _ _ _ _ q0;refine⟨λΓ G=>?_,λ_ _ _ _ _ _ _=>trivial⟩;have ihb:=q0.m Γ G;intro c g ρ rs h;simp only[Ug,Nb,consW]at h;split at h
 .rename_i x xs ex exs;cases h;cases ex;refine⟨λz hz=>?_,ihb c g ρ xs exs⟩;have hz:(if _ then a3 _ else a6)=a3 z:=hz;split at hz
  .cases hz;exact DE.str
  .cases hz
 .cases h
theorem Tr.pF:∀{X:Cx}{a' b':Ex}{a:ai}{p:aJ}{es:List ai},Tr X a' (.e a)->Tr X b' (.p es)->Tr X (.cons a' b') (.p (.FormattedValue a (-1) a6 p::es)):=by
 intro _ _ _ _ _ _ q0 q1;refine⟨λΓ G=>?_,λ_ _ _ _ _ _ _=>trivial⟩;have iha:=q0.m Γ G;have ihb:=q1.m Γ G;intro c g ρ rs h;simp only[Ug,consW]at h;split at h
 .rename_i x xs ex exs;cases h;exact⟨λy hy=>DE.fmt (iha c g ρ x ex).toT hy,ihb c g ρ xs exs⟩
 .cases h
theorem Tr.fst:∀{X:Cx}{es':Ex}{a b:ai}{es:List ai}{p:aJ},Tr X es' (.p (a::b::es))->Tr X (.fst es') (.e (.JoinedStr (a::b::es) p)):=by
 intro _ _ _ _ _ _ q0;refine⟨λΓ G=>?_,λ_ _ _ _ _ _ h=>nomatch h⟩;have ih:=q0.m Γ G;intro c g ρ r h;simp only[jj5,Ob]at h;split at h
 .rename_i rs ers;split at h
  .rename_i hl;cases e:Jc rs with
   |none=>rw[e]at h;cases h
   |some ys =>rw[e]at h;cases h;obtain⟨z1,z2⟩:=(ih c g ρ rs ers).all e;exact DE.joined z1 (Ma e) (by rw[z2];exact hl)
  .cases h
 .cases h
theorem Tr.isxV:∀{X:Cx}{i:Nat}{y:af}{p p1 p2 pos:aJ}(hN:X.N[i]?=a3 y) (hv:Vis X.env.scope y) (hd:(y==k94)=a4) (hcd:(y==k95)=a4) (hg:Gl X "isinstance") (hg2:Gl X "ValueError") (hs:a7 [.Name y p1,.Name "ValueError" p2] X.env=(a4,ay (.Name y p1) X.env)::a7 [.Name "ValueError" p2] X.env),Tr X (.isx i ["ValueError"]) (.e (.Call (.Name "isinstance" p) [.Name y p1,.Name "ValueError" p2] [] pos)):=by
 intro _ _ _ _ _ _ _ hN hv hd hcd hg hg2 hs;refine⟨λΓ G=>?_,λ_ _ _ _ _ _ h=>nomatch h⟩;intro c g ρ r h;simp only[j3y]at h;split at h
 .rename_i x e1 e2;split at h
  .rename_i hx;cases h;obtain⟨a,o,q⟩:=Oo e1;exact DE.isxV c.ea (S5.mp hx) q (c.bt _ (by decide)) (c.bt _ (by decide)) hN hv hd hcd hg hg2 hs rfl rfl
  .cases h
 .cases h
theorem Tr.isx1:∀{X:Cx}{i:Nat}{y c:af}{p p1 p2 pos:aJ}(hc:c∈jt)(hcV:(c==("ValueError":af))=a4) (hN:X.N[i]?=a3 y) (hv:Vis X.env.scope y) (hd:(y==k94)=a4) (hcd:(y==k95)=a4) (hg:Gl X "isinstance") (hg2:Gl X c) (hdb:(c==k94)=a4) (hs:a7 [.Name y p1,.Name c p2] X.env=(a4,ay (.Name y p1) X.env)::a7 [.Name c p2] X.env),Tr X (.isx i [c]) (.e (.Call (.Name "isinstance" p) [.Name y p1,.Name c p2] [] pos)):=by
 intro _ _ _ _ _ _ _ _ hc hcV hN hv hd hcd hg hg2 hdb hs;refine⟨λΓ G=>?_,λ_ _ _ _ _ _ h=>nomatch h⟩;intro c g ρ r h;simp only[j3y]at h;split at h
 .rename_i x e1 e2;split at h
  .rename_i hx;cases h;obtain⟨a,o,q⟩:=Oo e1;obtain⟨v,hv1⟩:=c.el e2 _ hc;simp only[S7,kJ,hcV,eK,eJ];exact DE.isx1 c.ea (S5.mp hx) q (c.bt _ (by decide)) hc hv1 (W.mg_of c.kin c.ns hv1) hN hv hd hcd hg hg2 hdb hs rfl rfl
  .cases h
 .cases h
theorem Tr.isx2:∀{X:Cx}{i:Nat}{y c1 c2:af}{m:Nat}{p p1 p2 p3 p4 pos:aJ}(hc1:c1∈jt)(hc2:c2∈jt) (hcV1:(c1==("ValueError":af))=a4) (hcV2:(c2==("ValueError":af))=a4) (hN:X.N[i]?=a3 y) (hv:Vis X.env.scope y) (hd:(y==k94)=a4) (hcd:(y==k95)=a4) (hg:Gl X "isinstance") (hg1:Gl X c1) (hg2:Gl X c2) (hdb1:(c1==k94)=a4) (hdb2:(c2==k94)=a4) (hs:a7 [.Name y p1,.Tuple [.Name c1 p2,.Name c2 p3] m p4] X.env=(a4,ay (.Name y p1) X.env)::a7 [.Tuple [.Name c1 p2,.Name c2 p3] m p4] X.env),Tr X (.isx i [c1,c2]) (.e (.Call (.Name "isinstance" p) [.Name y p1,.Tuple [.Name c1 p2,.Name c2 p3] m p4] [] pos)):=by
 intro _ _ _ _ _ _ _ _ _ _ _ _ hc1 hc2 hcV1 hcV2 hN hv hd hcd hg hg1 hg2 hdb1 hdb2 hs;refine⟨λΓ G=>?_,λ_ _ _ _ _ _ h=>nomatch h⟩;intro c g ρ r h;simp only[j3y]at h;split at h
 .rename_i x e1 e2;split at h
  .rename_i hx;cases h;obtain⟨a,o,q⟩:=Oo e1;obtain⟨v1,hv1⟩:=c.el e2 _ hc1;obtain⟨v2,hv2⟩:=c.el e2 _ hc2;simp only[S7,kJ,hcV1,hcV2,eK,eJ];exact DE.isx2 c.ea (S5.mp hx) q (c.bt _ (by decide)) hc1 hc2 hv1 hv2 (W.mg_of c.kin c.ns hv1) (W.mg_of c.kin c.ns hv2) hN hv hd hcd hg hg1 hg2 hdb1 hdb2 hs rfl rfl rfl rfl
  .cases h
 .cases h
section
variable{Γ:af->List D->Rc}{G:af->Option D}{X:Cx}
theorem sound{t:Ex}{nd:Nd}(h:Tr X t nd):Cok X G->Gok X Γ->jh8 Γ G X t nd:=h.m Γ G
theorem Ig{t:Ex}{nd:Nd}(h:Tr X t nd):Cok X G->Gok X Γ->∀ρ y,er Γ G t (j8 ρ)=a3 y->XM X ρ y nd:=h.x Γ G
end
inductive Sx where
 |nop
 |seq (a b:Sx)
 |set (i:Nat) (e:Ex)
 |mov (i j:Nat)
 |expr (e:Ex)
 |ret (e:Ex)
 |retV (i:Nat)
 |ife (c:Ex) (a b:Sx)
 |loop (is:List Nat) (it:Ex) (body:Sx)
 |app (i:Nat) (e:Ex)
 |ext (i:Nat) (e:Ex)
 |fgt (i:Nat)
 |keep (i:Nat)
 |dcp (i j:Nat) (k e:Ex)
 |taken (h q:Nat) (a b c t:Ex)
 |unp (i j:Nat) (e:Ex)
 |dmake (x t y:Nat) (it e:Ex)
 |ioN (es e:Ex)
 |retL (x:af) (is:List Nat)
 |retC (f x:af) (a b:Ex) (is:List Nat)
 |nmake (x t y:Nat) (it e1 e2:Ex)
 |pop3 (i j k w:Nat)
 |apop (i w:Nat) (e:Ex)
 |wmake (x t:Nat) (it e:Ex)
 |lent (h:Nat) (ea eb:Ex) (mid b:Sx)
 |lend (k p f:Nat) (b r:Sx)
 |raise (x:af) (e:Ex)
 |tryK (b:Sx) (i j:Nat)
 |fail
inductive So where
 |next (ρ:En)
 |ret (r:Rc)
 |brk (ρ:En)
 |cnt (ρ:En)
 |err (x:af) (ρ:En)
 |no
noncomputable def orE(o:So)(x:Option af)(ρ:En):So:=match o with
 |.no=>match x with
  |some y=>.err y ρ
  |none=>.no
 |o=>o
noncomputable def Jx(f:D->En->So):List D->En->So
 |[],ρ=>.next ρ
 |d::ds,ρ=>match f d ρ with
  |.next ρ'=>Jx f ds ρ'
  |.cnt ρ'=>Jx f ds ρ'
  |.brk ρ'=>.next ρ'
  |.ret r=>.ret r
  |.err x ρ'=>.err x ρ'
  |.no=>.no
noncomputable def j41(c:En->Option Bool)(f:En->So):Nat->En->So
 |0,_=>.no
 |n+1,ρ=>match c ρ with
  |some a4=>.next ρ
  |some a5=>match f ρ with
   |.next ρ'=>j41 c f n ρ'
   |.cnt ρ'=>j41 c f n ρ'
   |.brk ρ'=>.next ρ'
   |.ret r=>.ret r
   |.err x ρ'=>.err x ρ'
   |.no=>.no
  |none=>.no
noncomputable def stOf:Option W->Option D
 |some (.v x)=>x.st
 |_=>a6
noncomputable def j3o(f:En->Option D)(t y:Nat):List D->En->List (List Int)->List D->Option (List (List Int)×List D)
 |[],_,ks,vs=>a3 (ks,vs)
 |d::ds,ρ,ks,vs=>match d with
  |.tup l=>match intsOf l,f (ρ.set t (.val d)) with
   |some k,a3 d'=>if d'.isNon=a5 then j3o f t y ds ((ρ.set t (.val d)).set y (.val d')) ks vs
    else if ks.contains k=a4/\ks.length<aj then j3o f t y ds ((ρ.set t (.val d)).set y (.val d')) (ks++[k]) (vs++[d'])else a6
   |_,_=>a6
  |_=>a6
noncomputable def V4(f1 f2:En->Option D)(x t y:Nat):List D->En->List (List Int)->List Int->Option (List (List Int)×List Int)
 |[],_,ks,ns=>a3 (ks,ns)
 |d::ds,ρ,ks,ns=>match d with
  |.tup l=>match intsOf l,f1 (ρ.set t (.val d)) with
   |some k,a3 d1=>match f2 (((ρ.set t (.val d)).set y (.val d1)).set x (.val (.dct ks (ns.map D.int)))) with
    |some (.int n)=>if ks.contains k=a4/\ks.length<aj then V4 f1 f2 x t y ds ((ρ.set t (.val d)).set y (.val d1)) (ks++[k]) (ns++[n])else a6
    |_=>a6
   |_,_=>a6
  |_=>a6
noncomputable def j98(f2:En->Option D)(x t:Nat):List D->En->List (List Int)->List Int->Option (List (List Int)×List Int)
 |[],_,ks,ns=>a3 (ks,ns)
 |d::ds,ρ,ks,ns=>match d with
  |.tup l=>match intsOf l,f2 ((ρ.set t (.val d)).set x (.val (.dct ks (ns.map D.int)))) with
   |some k,a3 (.int n)=>if ks.contains k=a4/\ks.length<aj then j98 f2 x t ds (ρ.set t (.val d)) (ks++[k]) (ns++[n])else a6
   |_,_=>a6
  |_=>a6
noncomputable def Qq(ρ:En):List Nat->Option (List D)
 |[]=>a3 []
 |i::is=>match ρ[i]?,Qq ρ is with
  |some (.val d),a3 ds=>a3 (d::ds)
  |_,_=>a6
noncomputable def Mv(i:Nat)(w:Option W)(ρ:En):So:=match w with
 |some (.v (.o l))=>.next (ρ.set i (.own l))
 |some (.v x)=>match x.st with
  |some d=>.next (ρ.set i (.val d))
  |none=>.no
 |_=>.no
noncomputable def retS(w:Option W):So:=match w with
 |some (.v (.o l))=>.ret (.fresh l)
 |some (.v x)=>.ret (.val x.d)
 |_=>.no
noncomputable def Rm(s:Option Sv):So:=match s with
 |some (.own l)=>.ret (.fresh l)
 |some (.val d)=>.ret (.val d)
 |_=>.no
noncomputable def Et(i j:Nat)(s:Option Sv)(ρ:En):So:=match s with
 |some (.own l)=>if i=j then .no else .next ((ρ.set j .un).set i (.own l))
 |some (.val d)=>.next (ρ.set i (.val d))
 |_=>.no
noncomputable def Dh(w:Option W)(ρ:En):So:=match w with
 |some (.v _)=>.next ρ
 |_=>.no
noncomputable def Rb(i:Nat)(s:Option Sv)(w:Option W)(ρ:En):So:=match s,w with
 |some (.own l),a3 (.v x)=>match x.st with
  |some d=>if l.length<aj then .next (ρ.set i (.own (l++[d])))else .no
  |none=>.no
 |_,_=>.no
noncomputable def Dg(i:Nat)(s:Option Sv)(w:Option W)(ρ:En):So:=match s,w with
 |some (.own l),a3 (.v (.o m))=>if jl (l.length+m.length)=a5 then .next (ρ.set i (.own (l++m)))else .no
 |_,_=>.no
noncomputable def Ef(x:af)(w:Option W)(d:Option D)(ρ:En):So:=match w,d with
 |some (.v _),a3 _=>.err x ρ
 |_,_=>.no
noncomputable def jje(i j:Nat)(d:Option D)(ρ:En):So:=match d with
 |some (.tup [d,d'])=>if i=j then .no else .next ((ρ.set i (.val d)).set j (.val d'))
 |_=>.no
noncomputable def Bj(i:Nat)(v:Option Sv)(ρ:En):So:=match v with
 |some (.own l)=>.next (ρ.set i (.val (.lst l)))
 |some (.val _)=>.next ρ
 |_=>.no
noncomputable def jkd(i j:Nat)(v:Option Sv)(k e:Option W)(ρ:En):So:=if i≠j/\i<ρ.length then match v with
  |some (.val (.sct kvs))=>match k,e with
   |some (.v y),a3 (.v x)=>match y.d,x.d with
    |.str z,.int n=>if kvs.length<aj then .next (ρ.set i (.val (.sct (dput kvs z n))))else .no
    |_,_=>.no
   |_,_=>.no
  |_=>.no
 else .no
noncomputable def jhp(x:af)(v:Option (List D)):So:=match v with
 |some ds=>.ret (.val (.fn x ds))
 |none=>.no
noncomputable def K9(r:Rc):So:=match r with
 |.val d=>if noFn d=a5 then .ret (.val d)else .no
 |_=>.no
noncomputable def Bb(Γ:af->List D->Rc)(f x:af)(v:Option (List D))(a b:Option W):So:=match v,a,b with
 |some ds,a3 (.v u),a3 (.v v)=>K9 (Γ f [u.d,v.d,.fn x ds])
 |_,_,_=>.no
noncomputable def popS(i j k w:Nat)(s:Option Sv)(ρ:En):So:=match s with
 |some (.own l)=>match l.getLast? with
  |some (.tup [a,b,c])=>.next ((((ρ.set w (.own l.dropLast)).set i (.val a)).set j (.val b)).set k (.val c))
  |_=>.no
 |_=>.no
noncomputable def jiw(i w:Nat)(s t:Option Sv)(x:Option W)(ρ:En):So:=match s,t,x with
 |some (.own l),a3 (.own m),a3 (.v y)=>match y.st with
  |some (.int z)=>match ixN m.length z with
   |some k=>match m[k]? with
    |some d=>if i≠w/\l.length<aj/\m.length<=1000000 then .next ((ρ.set w (.own (m.eraseIdx k))).set i (.own (l++[d])))else .no
    |none=>.no
   |none=>.no
  |_=>.no
 |_,_,_=>.no
noncomputable def Qg:Sx->List Nat
 |.seq a b=>Qg a++Qg b
 |.set i _=>[i]
 |.ife _ a b=>Qg a++Qg b
 |_=>[]
noncomputable def zm(Γ:af->List D->Rc)(G:af->Option D):Sx->En->Option En
 |.nop,ρ=>a3 ρ
 |.seq a b,ρ=>match zm Γ G a ρ with
  |some r=>zm Γ G b r
  |none=>a6
 |.set i e,ρ=>match stOf (ev Γ G e ρ) with
  |some d=>a3 (ρ.set i (.val d))
  |none=>a6
 |.ife c a b,ρ=>match truth (ev Γ G c ρ) with
  |some a5=>zm Γ G a ρ
  |some a4=>zm Γ G b ρ
  |none=>a6
 |_,_=>a6
noncomputable def plainS:Sv->Bool
 |.val _=>a5
 |.un=>a5
 |_=>a4
noncomputable def j9l(s:Option Sv)(t:Bool):Sv:=match s with
 |some (.val d)=>if t=a5 then(if vf d=a5 then .val d else .un)else .val d
 |_=>.un
noncomputable def ji6(h:Nat)(is:List Nat)(ρ r:En):En:=(ar ρ.length).map λj=>if j=h then .un else if j∈is then j9l r[j]? a5 else j9l ρ[j]? a4
noncomputable def ji5(h:Nat)(is:List Nat)(ρ:En)(a:Option D)(b:Option W)(m:En->Option En)(k:En->So):So:=match a,b with
 |some d0,a3 (.v (.o lb))=>match m (ρ.set h (.val (.lst [d0,.lst lb]))) with
  |some r=>if h<ρ.length/\h∉is/\r.length=ρ.length/\r.all plainS=a5 then k (ji6 h is ρ r)else .no
  |none=>.no
 |_,_=>.no
noncomputable def Vm(m:D->En->Option En):List D->En->Option En
 |[],ρ=>a3 ρ
 |d::ds,ρ=>match m d ρ with
  |some ρ'=>Vm m ds ρ'
  |none=>a6
noncomputable def bindM(is:List Nat)(m:En->Option En)(d:D)(ρ:En):Option En:=match qy is d ρ with
 |some ρ2=>m ρ2
 |none=>a6
noncomputable def Um(k p f:Nat)(is:List Nat)(s:Option Sv)(ρ:En)(m:D->En->Option En)(r:En->So):So:=match s with
 |some (.own l)=>if jn l=a5/\f∉is/\f≠k/\f≠p then match Vm m (zb l) ρ with
   |some ρ'=>r (ρ'.set f (.own []))
   |none=>.no
  else .no
 |_=>.no
noncomputable def run(fu:Nat)(Γ:af->List D->Rc)(G:af->Option D):Sx->En->So
 |.nop,ρ=>.next ρ
 |.seq a b,ρ=>match run fu Γ G a ρ with
  |.next ρ'=>run fu Γ G b ρ'
  |o=>o
 |.set i e,ρ=>orE (Mv i (ev Γ G e ρ) ρ) (er Γ G e ρ) ρ
 |.mov i j,ρ=>Et i j ρ[j]? ρ
 |.expr e,ρ=>orE (Dh (ev Γ G e ρ) ρ) (er Γ G e ρ) ρ
 |.ret e,ρ=>orE (retS (ev Γ G e ρ)) (er Γ G e ρ) ρ
 |.retV i,ρ=>Rm ρ[i]?
 |.ife c a b,ρ=>match truth (ev Γ G c ρ) with
  |some a5=>run fu Γ G a ρ
  |some a4=>run fu Γ G b ρ
  |none=>.no
 |.loop is it body,ρ=>match ev Γ G it (frz it ρ) with
  |some (.i ds)=>Jx (λd ρ=>match qy is d ρ with
   |some ρ2=>run fu Γ G body ρ2
   |none=>.no) ds (frz it ρ)
  |_=>.no
 |.app i e,ρ=>Rb i ρ[i]? (ev Γ G e ρ) ρ
 |.ext i e,ρ=>Dg i ρ[i]? (ev Γ G e ρ) ρ
 |.fgt i,ρ=>.next (ρ.set i .un)
 |.keep i,ρ=>Bj i ρ[i]? ρ
 |.lend k p f b r,ρ=>Um k p f (Qg b) ρ[f]? ρ (bindM [k,p] (zm Γ G b)) (run fu Γ G r)
 |.lent h ea eb mid b,ρ=>ji5 h (Qg mid) ρ (stOf (ev Γ G ea ρ)) (ev Γ G eb ρ) (zm Γ G mid) (run fu Γ G b)
 |.dcp i j k e,ρ=>jkd i j ρ[j]? (ev Γ G k (ρ.set i .un)) (ev Γ G e (ρ.set i .un)) ρ
 |.taken h q a b e t,ρ=>if h≠q/\h<ρ.length then match ev Γ G a ρ,ev Γ G b ρ with
   |some (.v (.o la)),a3 (.v (.o lb))=>match ev Γ G e (ρ.set h (.val (.lst [.lst la,.lst lb]))) with
    |some (.v x)=>match x.st with
     |some d=>if vf d=a5/\truth (ev Γ G t ((ρ.set h (.val (.lst [.lst la,.lst lb]))).set q (.val d)))=a3 a4 then .next ((ρ.set h (.val (.lst [.lst la.reverse,.lst []]))).set q (.val d))else .no
     |none=>.no
    |_=>.no
   |_,_=>.no
  else .no
 |.unp i j e,ρ=>jje i j (stOf (ev Γ G e ρ)) ρ
 |.dmake x t y it e,ρ=>if x<ρ.length/\t<ρ.length/\y<ρ.length/\x≠t/\x≠y/\t≠y then match ev Γ G it (ρ.set x .un) with
   |some (.i ds)=>match j3o (λρ=>stOf (ev Γ G e ρ)) t y ds (ρ.set x .un) [] [] with
    |some r=>.ret (.val (.dct r.1 r.2))
    |none=>.no
   |_=>.no
  else .no
 |.ioN es e,ρ=>match G (qm "_law_plan"),ev Γ G es ρ,ev Γ G e ρ with
  |some _,a3 (.a [x,y,z]),a3 (.v (.o [.int n]))=>match x.d,y.d,z.d with
   |.lst ls,.int dD,.int k=>match strsOf ls with
    |some ws=>if 0<=k/\k<=5/\ws.length<=60 then .ret (.val (Yp k.toNat ws dD n).1)else .no
    |none=>.no
   |_,_,_=>.no
  |_,_,_=>.no
 |.retL x is,ρ=>jhp x (Qq ρ is)
 |.retC f x a b is,ρ=>Bb Γ f x (Qq ρ is) (ev Γ G a ρ) (ev Γ G b ρ)
 |.nmake x t y it e1 e2,ρ=>if x<ρ.length/\t<ρ.length/\y<ρ.length/\x≠t/\x≠y/\t≠y then match ev Γ G it (ρ.set x .un) with
   |some (.i ds)=>match V4 (λρ=>stOf (ev Γ G e1 ρ)) (λρ=>stOf (ev Γ G e2 ρ)) x t y ds (ρ.set x .un) [] [] with
    |some r=>.ret (.val (.dct r.1 (r.2.map D.int)))
    |none=>.no
   |_=>.no
  else .no
 |.wmake x t it e,ρ=>if x<ρ.length/\t<ρ.length/\x≠t then match ev Γ G it (ρ.set x .un) with
   |some (.i ds)=>match j98 (λρ=>stOf (ev Γ G e ρ)) x t ds (ρ.set x .un) [] [] with
    |some r=>.ret (.val (.dct r.1 (r.2.map D.int)))
    |none=>.no
   |_=>.no
  else .no
 |.apop i w e,ρ=>jiw i w ρ[i]? ρ[w]? (ev Γ G e ρ) ρ
 |.pop3 i j k w,ρ=>popS i j k w ρ[w]? ρ
 |.raise x e,ρ=>Ef x (ev Γ G e ρ) (G (bang x)) ρ
 |.tryK b i j,ρ=>match run fu Γ G b ρ with
  |.err x ρ'=>match G (bang x) with
   |some (.lst l)=>.next (((ρ'.set j (.exc x)).set i (.own l)).set j .un)
   |_=>.no
  |o=>o
 |.fail,_=>.no
section
variable{Γ:af->List D->Rc}{G:af->Option D}{ρ:En}{fu:Nat}
theorem j9w{a b}:run fu Γ G (.seq a b) ρ=(match run fu Γ G a ρ with
  |.next ρ'=>run fu Γ G b ρ'
  |o=>o):=(rfl)
theorem j9v{i e}:run fu Γ G (.set i e) ρ=(orE (Mv i (ev Γ G e ρ) ρ) (er Γ G e ρ) ρ):=(rfl)
theorem jj8{i j}:run fu Γ G (.mov i j) ρ=(Et i j ρ[j]? ρ):=(rfl)
theorem jh7{e}:run fu Γ G (.expr e) ρ=(orE (Dh (ev Γ G e ρ) ρ) (er Γ G e ρ) ρ):=(rfl)
theorem j9x{e}:run fu Γ G (.ret e) ρ=(orE (retS (ev Γ G e ρ)) (er Γ G e ρ) ρ):=(rfl)
theorem jh2{i}:run fu Γ G (.retV i) ρ=(Rm ρ[i]?):=(rfl)
theorem jj9{c a b}:run fu Γ G (.ife c a b) ρ=(match truth (ev Γ G c ρ) with
  |some a5=>run fu Γ G a ρ
  |some a4=>run fu Γ G b ρ
  |none=>.no):=(rfl)
theorem jh4{is it body}:run fu Γ G (.loop is it body) ρ=(match ev Γ G it (frz it ρ) with
  |some (.i ds)=>Jx (λd ρ=>match qy is d ρ with
   |some ρ2=>run fu Γ G body ρ2
   |none=>.no) ds (frz it ρ)
  |_=>.no):=(rfl)
theorem jjb{i e}:run fu Γ G (.app i e) ρ=(Rb i ρ[i]? (ev Γ G e ρ) ρ):=(rfl)
theorem jja{i e}:run fu Γ G (.ext i e) ρ=(Dg i ρ[i]? (ev Γ G e ρ) ρ):=(rfl)
theorem jh6{i}:run fu Γ G (.keep i) ρ=(Bj i ρ[i]? ρ):=(rfl)
theorem jh5{k p f b r}:run fu Γ G (.lend k p f b r) ρ=(Um k p f (Qg b) ρ[f]? ρ (bindM [k,p] (zm Γ G b)) (run fu Γ G r)):=(rfl)
theorem jh3{f x a b is}:run fu Γ G (.retC f x a b is) ρ=(Bb Γ f x (Qq ρ is) (ev Γ G a ρ) (ev Γ G b ρ)):=(rfl)
theorem j2j{x t y it e1 e2}:run fu Γ G (.nmake x t y it e1 e2) ρ=(if x<ρ.length/\t<ρ.length/\y<ρ.length/\x≠t/\x≠y/\t≠y then match ev Γ G it (ρ.set x .un) with
   |some (.i ds)=>match V4 (λρ=>stOf (ev Γ G e1 ρ)) (λρ=>stOf (ev Γ G e2 ρ)) x t y ds (ρ.set x .un) [] [] with
    |some r=>.ret (.val (.dct r.1 (r.2.map D.int)))
    |none=>.no
   |_=>.no
  else .no):=(rfl)
theorem jct{x e}:run fu Γ G (.raise x e) ρ=(Ef x (ev Γ G e ρ) (G (bang x)) ρ):=(rfl)
theorem jh1{b i j}:run fu Γ G (.tryK b i j) ρ=(match run fu Γ G b ρ with
  |.err x ρ'=>match G (bang x) with
   |some (.lst l)=>.next (((ρ'.set j (.exc x)).set i (.own l)).set j .un)
   |_=>.no
  |o=>o):=(rfl)
end
def j96(X:Cx):List (af×aa)->List Nat->Prop
 |[],is=>is=[]
 |p::cl,is=>∃(i:Nat)(r:List Nat),is=i::r/\X.N[i]?=a3 p.1/\X.env.scope.names.lookup p.1=a3 .cell/\X.env.cells.lookup p.1=a3 p.2/\X.fn p.1=a5/\j96 X cl r
theorem j2e{X:Cx}{ρ:Rho}:∀{cl:List (af×aa)} {is:List Nat} {ds:List D},j96 X cl is->Qq (j8 ρ) is=a3 ds->Zg X ρ cl ds
 |[],_,ds,h,e=>by cases h;cases e;rfl
 |p::cl,_,ds,⟨i,r,ei,h1,h2,h3,h4,l⟩,e=>by
  subst ei;unfold Qq at e;split at e
  .rename_i d ds' e1 e2;cases e;exact⟨d,ds',i,rfl,h1,h2,h3,h4,Yl e1,j2e l e2⟩
  .cases e
inductive Ns where
 |s (st:aS)
 |ss (sts:List aS)
def TMs(X:Cx)(b:Sx)(ss:List aS):Prop:=∀(Γ:af->List D->Rc)(G:af->Option D),Cok X G->Gok X Γ->∀(ρ:Rho)(r:En),zm Γ G b (j8 ρ)=a3 r->∃ρ',j8 ρ'=r/\DMs X ρ ρ' (Qg b) ss/\Kp ρ ρ' (Qg b)
def TMt(X:Cx)(b:Sx)(full tl:List aS):Prop:=∀(Γ:af->List D->Rc)(G:af->Option D),Cok X G->Gok X Γ->∀(ρ:Rho)(r:En),zm Γ G b (j8 ρ)=a3 r->∃ρ',j8 ρ'=r/\DMt X ρ ρ' (Qg b) full tl
noncomputable def Rt.rc:Rt->Rc
 |.val d=>.val d
 |.fresh l=>.fresh l
def Yz(o:So)(P:Po):Prop:=match o with
 |.next ρ'=>∀ρ2,j8 ρ2=ρ'->P.nx ρ2
 |.ret r=>∀x:Rt,x.rc=r->P.rt x
 |.brk ρ'=>∀ρ2,j8 ρ2=ρ'->P.bk ρ2
 |.cnt ρ'=>∀ρ2,j8 ρ2=ρ'->P.ct ρ2
 |.err x ρ'=>∀ρ2,j8 ρ2=ρ'->P.ex x ρ2
 |.no=>False
theorem Yn{o:So}{x:Option af}{ρ:En}{P:Po}(h:Yz (orE o x ρ) P):Yz o P\/∃y,x=a3 y/\∀ρ2,j8 ρ2=ρ->P.ex y ρ2:=by
 cases o with
 |no =>
  cases x with
  |none=>exact h.elim
  |some y=>exact .inr ⟨y,rfl,h⟩
 |_=>exact .inl h
def j9y(fu:Nat)(Γ:af->List D->Rc)(G:af->Option D)(X:Cx)(t:Sx):Ns->Prop
 |.s st=>∀ρ P,Yz (run fu Γ G t (j8 ρ)) P->DS X ρ st P
 |.ss sts=>∀ρ P,Yz (run fu Γ G t (j8 ρ)) P->DSs X ρ sts P
section
variable{K:k90}{ρ:Rho}{σ:St}{H:Hp}{i j:Nat}{a:aa}{l:List D}
theorem Rep.move(R:Rep K ρ σ H)(hj:ρ[j]?=a3 (.own a l))(hij:i≠j):Rep K ((ρ.set j .un).set i (.own a l)) (σ.set i (a3 (.ref a))) H:=by
 have s1:(owns (ρ.set j .un)).Sublist (owns ρ):=jf rfl;have na:a∉owns (ρ.set j .un):=λz=>by
  obtain⟨k,l',q⟩:=V3 z;rcases getElem?_set_of q with ⟨_,z,_⟩|⟨n,q⟩
  .cases z
  .exact n (Y5 R.nd hj q)
 obtain⟨nd,sub⟩:=Jf (ds:=l) (i:=i) (s1.nodup R.nd) na;have g:j0 (del H (owns ρ)) (del H (owns ((ρ.set j .un).set i (.own a l)))):=v5 λb hb=>by
  rcases sub b hb with e|z
  .exact e▸Q6 hj
  .exact s1.subset z
 refine⟨by simp[R.len],λk d' h=>?_,λk b ds' h=>?_,nd,λk b o x h=>?_,R.tb⟩
 .rcases getElem?_set_of h with ⟨rfl,z,_⟩|⟨n,h⟩
  .cases z
  .rcases getElem?_set_of h with ⟨rfl,z,_⟩|⟨n2,h⟩
   .cases z
   .obtain⟨u,q,e⟩:=R.val k d' h;exact⟨u,by rw[qe n];exact q,e.mono g⟩
 .rcases getElem?_set_of h with ⟨rfl,z,hl⟩|⟨n,h⟩
  .cases z;obtain⟨_,xs,hx,en⟩:=R.own j a l hj;exact⟨V8 (by rw[R.len];simpa using hl),xs,hx,en.mono g⟩
  .rcases getElem?_set_of h with ⟨rfl,z,_⟩|⟨n2,h⟩
   .cases z
   .obtain⟨q,xs,hx,en⟩:=R.own k b ds' h;exact⟨by rw[qe n];exact q,xs,hx,en.mono g⟩
 .rcases getElem?_set_of h with ⟨rfl,z,_⟩|⟨n,h⟩
  .cases z
  .rcases getElem?_set_of h with ⟨rfl,z,_⟩|⟨n2,h⟩
   .cases z
   .obtain⟨q,h,z⟩:=R.raw k b o x h;exact⟨by rw[qe n];exact q,g _ _ h,z⟩
end
section
variable{X:Cx}{ρ:Rho}{e a b c:ai}{es:List ai}{st:aS}{rest sa sb body:List aS}{P:Po}{d:D}{ds ds':List D}{pos p p1 p2 p3:aJ}{x y:af}{i j:Nat}
theorem DS.freeze(i:Nat){l:aa}(h:ρ[i]?=a3 (.own l ds))(h2:DS X (ρ.set i (.val (.lst ds))) st P):DS X ρ st P:=λσ H E R q =>h2 σ H E (R.freeze h) (q.step (.drop λb hb=>(jf rfl).subset hb))
theorem DS.mov{l:aa}(hk:ρ[j]?=a3 (.own l ds))(hij:i≠j)(h:P.nx ((ρ.set j .un).set i (.own l ds)))(hN:X.N.Nodup)(hi:X.N[i]?=a3 x)(hj:X.N[j]?=a3 y)(hx:Loc X.env.scope x)
  (hf:X.fn x=a5\/X.env.scope.names.lookup x=a3 .local) (hv:Vis X.env.scope y) (hd:(y==k94)=a4) (hcd:(y==k95)=a4):DS X ρ (.Assign [.Name x p] (.Name y p1) pos) P:=λσ H E R q=>by
 obtain⟨hs,xs,m,en⟩:=R.own j l ds hk;refine(Vy hN hi hx (J4 hj hv hd hcd) rfl hf).to ⟨_,hs,q.nx _ _ H h (R.move hk hij) (.drop λb hb=>?_)⟩;have s1:(owns (ρ.set j .un)).Sublist (owns ρ):=jf rfl;have na:l∉owns (ρ.set j .un):=λz=>by
  obtain⟨k,l',q⟩:=V3 z;rcases getElem?_set_of q with ⟨_,z,_⟩|⟨n,q⟩
  .cases z
  .exact n (Y5 R.nd hk q)
 rcases(Jf (ds:=ds) (i:=i) (s1.nodup R.nd) na).2 b hb with z|z
 .exact z▸Q6 hk
 .exact s1.subset z
theorem DS.setCf{ρf:Rho}{tg elt iter:ai}{ifs:List ai}{scope:b9}{spos:aJ}(i:Nat)(cs:List Nat)(pr:D->Bool)(g:D->D)(hfr:∀K σ H,Rep K ρ σ H->Rep K ρf σ H)(hno:ρf=ρ\/jn ((ds.filter pr).map g)=a5)(hi:DI X ρf tg iter ds)
  (hb:∀C s H fp pn,∀d∈ds,∃ρ2,DG (cCx X scope C s H fp pn) ρf tg d ρ2/\Wk ρ2 ρf/\owns ρ2=owns ρf/\DTs (cCx X scope C s H fp pn) ρ2 ifs (pr d)/\(pr d=a5->DE (cCx X scope C s H fp pn) ρ2 elt (g d)))
  (h:∀l,P.nx (ρ.set i (.own l ((ds.filter pr).map g)))) (hN:X.N.Nodup) (hcs:∀j∈cs,ρf[j]?=a3 .un) (hsz:ds.length<=aj) (hX:X.N[i]?=a3 x) (hx:Loc X.env.scope x)
  (hf:X.fn x=a5\/X.env.scope.names.lookup x=a3 .local)
  (hsw:aG (.ListComp elt [⟨tg,iter,ifs,0⟩] scope pos) (a3 (.Name x p1)) spos.line X.env=pure a5)
  (hc:X.calm=a5) (hkind:scope.kind=.function) (hok:Jg scope X.env X.N cs=a5)
  (hs:∀x,aC iter X.env x=pure x):DS X ρ (.Assign [.Name x p1] (.ListComp elt [⟨tg,iter,ifs,0⟩] scope pos) spos) P:=λσ H E R q pins s I=>by
 have Rf:=hfr _ _ _ R;rw[exec_Assign_Name_used _ _ _ _ hsw];refine a8 (iz (a8 ?_));show ao _ X.A (do let _ <-comprehension (.ListComp elt [⟨tg,iter,ifs,0⟩] scope pos) scope X.env _ (newList []) a4 (ay iter X.env) (a3 (eU (.Name x p1) X.env))) _ _ s;refine a8 (b7 (iA (use:=a3 (eU (.Name x p1) X.env)) (Q:=λ_ s'=>SP X pins E .next s') rfl hs (By (Mr hok)) hkind (Wz hok)
  (thn (hi σ H (λJ H'=>j0 H H'/\U5 X.K (del H' (owns ρf)) J ds) Rf (λJ H' g1 ok=>⟨g1,ok⟩) pins s I) λv s1 h1=>thn h1 λitv s2 h2=>?_)) (λ_ s' hq=>ah (ah hq)) λ_ _ e=>e)
 obtain⟨it,fp,tn,J,H2,e,I2,T,st2,f2,g2,ok⟩:=h2;subst e;refine Cz (RR:=λacc C=>compPost (ax X.prog X.w) X.A X.xe (a3 (eU (.Name x p1) X.env)) (λ_ s'=>SP X pins E .next s') acc C) I2 (Rf.grow g2) T st2 f2 ok hc hkind hok hcs hsz hb ?_;intro D C xs H' s' m I' gg n m' en hm L;show ao _ X.A (eU (.Name x p1) X.env (.ref D)) _ _ _;refine kC (Wb I' hN hX hx (v:=.ref D) rfl (λs'' I'' ⟨a,sb,ha⟩=>?_) hf);have hCa:C≠a:=by
  rcases ha with e|e
  .rw[e];exact L.loc
  .exact bJ (L.cell x a e)
 have en':j5 X.K (del H' (D::owns ρ)) ((ds.filter pr).map g) xs:=by
  rcases hno with e|e
  .rw[e]at en;exact en
  .exact(en.mono jq).hide (λc hc=>by
    rcases xn.mp hc with z|z
    .rw[z];exact .inl ⟨xs,m'⟩
    .exact .inl ((R.grow (g2.trans gg)).owned c z)) e
 refine⟨m,hm.sameBut sb hCa,λh' sb'=>⟨σ.set i (a3 (.ref D)),H',I''.loose L sb',?_⟩⟩;exact q.nx _ _ H' (h D) (R.set_own (g2.trans gg) (g2.free n) m' en') (Fr0.new R (g2.trans gg) (g2.free n))
end
section
variable{fu:Nat}{Γ:af->List D->Rc}{G:af->Option D}{X:Cx}{P:Po}
theorem bind1{i:Nat}{y:af}{p:aJ}(nd:X.N.Nodup)(hi:X.N[i]?=a3 y)(hx:Loc X.env.scope y)(hf:X.fn y=a5\/X.env.scope.names.lookup y=a3 .local) :
  ∀ρ d ρ2,qy [i] d (j8 ρ)=a3 ρ2->∃ρ',j8 ρ'=ρ2/\DG X ρ (.Name y p) d ρ':=λρ d ρ2 h=>by
 simp only[qy]at h;cases h;exact⟨_,jg,DG.name _ nd hi hx hf⟩
theorem jiv{i j:Nat}{x y:af}{n:Nat}{p q pt:aJ}(hc:X.calm=a5)(hij:i≠j)(nd:X.N.Nodup)(hi:X.N[i]?=a3 x)(hj:X.N[j]?=a3 y)(hx:Loc X.env.scope x)(hy:Loc X.env.scope y)
  (hf:X.fn x=a5\/X.env.scope.names.lookup x=a3 .local) (hg:X.fn y=a5\/X.env.scope.names.lookup y=a3 .local) :
  ∀ρ d ρ2,qy [i,j] d (j8 ρ)=a3 ρ2->∃ρ',j8 ρ'=ρ2/\DG X ρ (.Tuple [.Name x p,.Name y q] n pt) d ρ':=λρ d ρ2 h=>by
 simp only[qy]at h;split at h
 .rename_i a b;cases h;exact⟨(ρ.set i (.val a)).set j (.val b),by rw[jg,jg];rfl,DG.pair _ _ hij nd hi hj hx hy hf hg hc⟩
 .cases h
theorem jgl{i j k:Nat}{x y z:af}{n:Nat}{p q r pt:aJ}(hc:X.calm=a5)(nd:X.N.Nodup)(hi:X.N[i]?=a3 x)(hj:X.N[j]?=a3 y)(hk:X.N[k]?=a3 z)(hx:Loc X.env.scope x)(hy:Loc X.env.scope y)(hz:Loc X.env.scope z)
  (hf:X.fn x=a5\/X.env.scope.names.lookup x=a3 .local) (hg:X.fn y=a5\/X.env.scope.names.lookup y=a3 .local) (hh:X.fn z=a5\/X.env.scope.names.lookup z=a3 .local) :
  ∀ρ d ρ2,qy [i,j,k,k] d (j8 ρ)=a3 ρ2->∃ρ',j8 ρ'=ρ2/\DG X ρ (.Tuple [.Name x p,.Name y q,.Name z r] n pt) d ρ':=λρ d ρ2 h=>by
 simp only[qy]at h;split at h
 .rename_i a b c;cases h;exact⟨((ρ.set i (.val a)).set j (.val b)).set k (.val c),by rw[jg,jg,jg];rfl,DG.three nd hi hj hk hx hy hz hf hg hh hc⟩
 .cases h
theorem DS.setX{e:ai}{x y:af}{i:Nat}{p pos:aJ}{ρ:Rho}(he:DX X ρ e y)(h:P.ex y ρ)(hN:X.N.Nodup)(hi:X.N[i]?=a3 x)(hx:Loc X.env.scope x)(hs:aG e (a3 (.Name x p)) pos.line X.env=pure a4)(hf:X.fn x=a5\/X.env.scope.names.lookup x=a3 .local) :
  DS X ρ (.Assign [.Name x p] e pos) P:=λσ H E R q=>(Vy hN hi hx peS hs hf).to (he σ H _ R (q.ex y ρ σ H h R (Fr0.refl _ _)))
theorem DS.exprX{e:ai}{y:af}{pos:aJ}{ρ:Rho}(he:DX X ρ e y)(h:P.ex y ρ)(hs:aG e a6 pos.line X.env=pure a4):DS X ρ (.Expr e pos) P:=λσ H E R q =>(U7 peS hs).to (he σ H _ R (q.ex y ρ σ H h R (Fr0.refl _ _)))
theorem DS.retX{e:ai}{y:af}{pos:aJ}{ρ:Rho}(he:DX X ρ e y)(h:P.ex y ρ):DS X ρ (.Return (a3 e) pos) P:=λσ H E R q =>(Wh peS).to (he σ H _ R (q.ex y ρ σ H h R (Fr0.refl _ _)))
theorem Ul{is:List Nat}{it':Ex}{b:Sx}{it tg:ai}{body:List aS}{pos:aJ}{ρ:Rho}(hq:X.calm=a5)(c:Cok X G)(hs:∀x,aC it X.env x=pure x)
  (hb:∀ρ d ρ2,qy is d (j8 ρ)=a3 ρ2->∃ρ',j8 ρ'=ρ2/\DG X ρ tg d ρ') (hi:∀ρ ds,ev Γ G it' (j8 ρ)=a3 (.i ds)->DI X ρ tg it ds)
  (ih:∀ρ P,Yz (run fu Γ G b (j8 ρ)) P->DSs X ρ body P) (h:Yz (run fu Γ G (.loop is it' b) (j8 ρ)) P):DS X ρ (.For tg it body [] pos) P:=by
 have main:∀ρf:Rho,j8 ρf=frz it' (j8 ρ)->DS X ρf (.For tg it body [] pos) P:=λρf ef=>by
  rw[jh4]at h;rw[<-ef]at h;split at h
  .rename_i ds hds;generalize hf:(λd ρ=>_:D->En->So)=f at h;refine DS.for (ds:=ds) (λi ρ'=>Yz (Jx f (ds.drop i) (j8 ρ')) P) (hi ρf ds hds) (by rw[cR];exact h) (λi d ρ' hd w=>?_) (λρ' w=>?_) hq c.po hs
   .have hdr:ds.drop i=d::ds.drop (i+1):=by obtain⟨hlt,e⟩:=X3.mp hd;rw[Tc hlt,e]
    rw[hdr,Jx]at w;have ef2:f d (j8 ρ')=match qy is d (j8 ρ')with|some ρ2=>run fu Γ G b ρ2|none=>.no:=by rw[<-hf]<;>rfl
    rw[ef2]at w;cases hb2:qy is d (j8 ρ') with
    |none=>rw[hb2]at w;exact w.elim
    |some ρ2 =>
     rw[hb2]at w;obtain⟨ρ3,e3,dg⟩:=hb ρ' d ρ2 hb2;refine⟨ρ3,dg,ih ρ3 _ ?_⟩;rw[e3];dsimp only at w;cases ho:run fu Γ G b ρ2 with
     |next ρ4=>rw[ho]at w;exact λρ5 e=>by rw[<-e]at w;exact w
     |cnt ρ4=>rw[ho]at w;exact λρ5 e=>by rw[<-e]at w;exact w
     |brk ρ4=>rw[ho]at w;exact w
     |ret r=>rw[ho]at w;exact w
     |err x ρ4=>rw[ho]at w;exact w
     |no=>rw[ho]at w;exact w
   .rw[fq,Jx]at w;exact w ρ' rfl
  .exact h.elim
 by_cases z:J8 it' (j8 ρ)=a5
 .unfold J8 at z;split at z
  .rename_i i ei;split at z
   .rename_i l e;obtain⟨a,q⟩:=Ju e;refine DS.freeze i q (main _ ?_);rw[jg];simp only[frz,ei,e,Sl.abs]
   .cases z
  .cases z
 .have z':J8 it' (j8 ρ)=a4:=by simpa using z
  refine main ρ ?_;unfold frz;split
  .rename_i i ei;split
   .rename_i l e;simp only[J8,ei,e]at z';cases z'
   .rfl
  .rfl
theorem j2x{is:List Nat}{elt' it' c':Ex}{elt it tg:ai}{ifs:List ai}{scope:b9}{p p1 pos:aJ}{k:Nat}{z:af}{ρ:Rho}(hq:X.calm=a5)(hX:Cok X G)
  (hk:X.N[k]?=a3 z) (hx:Loc X.env.scope z) (hf:X.fn z=a5\/X.env.scope.names.lookup z=a3 .local)
  (hsw:aG (.ListComp elt [⟨tg,it,ifs,0⟩] scope p) (a3 (.Name z p1)) pos.line X.env=pure a5)
  (hit:∀ρ ds,ev Γ G it' (j8 ρ)=a3 (.i ds)->DI X ρ tg it ds) (hkind:scope.kind=.function) (hok:Jg scope X.env X.N is=a5) (hs:∀x,aC it X.env x=pure x)
  (hb:∀ρ d ρ2,qy is d (j8 ρ)=a3 ρ2->(∀j∈is,ρ[j]?=a3 .un)->∃ρ',j8 ρ'=ρ2/\Wk ρ' ρ/\owns ρ'=owns ρ/\∀C s H fp pn,DG (cCx X scope C s H fp pn) ρ tg d ρ')
  (he:∀C s H fp pn ρ r,ev Γ G elt' (j8 ρ)=a3 (.v r)->Has (cCx X scope C s H fp pn) ρ elt r)
  (hc:∀C s H fp pn ρ,(ev Γ G c' (j8 ρ)=a3 (.a [])->DTs (cCx X scope C s H fp pn) ρ ifs a5)/\∀y k,ev Γ G c' (j8 ρ)=a3 (.a [y])->y.d=.bl k->DTs (cCx X scope C s H fp pn) ρ ifs k)
  (h:Yz (run fu Γ G (.set k (.comp is elt' it' c')) (j8 ρ)) P):DS X ρ (.Assign [.Name z p1] (.ListComp elt [⟨tg,it,ifs,0⟩] scope p) pos) P:=by
 rw[j9v]at h;unfold Mv at h;have h:=(Yn h).resolve_right λ⟨y,ey,_⟩=>by simp only[er]at ey;cases ey
 cases e:ev Γ G (.comp is elt' it' c') (j8 ρ) with
 |none=>rw[e]at h;exact h.elim
 |some w =>
  rw[e]at h;cases w with
  |a _=>exact h.elim
  |i _=>exact h.elim
  |v r =>
   obtain⟨l,ρf,ds,pr,g,er,el,hfz,hi,hun,hz,hb'⟩:=Mq hit hb he hc e;subst er;refine DS.setCf (ρf:=ρf) k is pr g ?_ ?_ hi hb' (λa=>?_) hX.nd hun hz hk hx hf hsw hq hkind hok hs
   .rcases hfz with e|⟨_,i,a,l',q,e⟩
    .subst e;exact λ_ _ _ R=>R
    .subst e;exact λ_ _ _ R=>R.freeze q
   .rcases hfz with e|⟨n,_⟩
    .exact .inl e
    .exact .inr (el▸n)
   .rw[<-el];exact h _ jg
theorem Nu{w:Option W}{d:D}(h:stOf w=a3 d):∃z,w=a3 (.v z)/\z.st=a3 d:=by
 unfold stOf at h;split at h
 .exact⟨_,rfl,h⟩
 .cases h
theorem TMs.nil:TMs X .nop []:=λΓ G c g ρ r h=>by cases h;exact⟨ρ,rfl,DMs.nil,Kp.refl⟩
theorem TMs.fail{ss:List aS}:TMs X .fail ss:=λΓ G c g ρ r h=>by cases h
theorem TMs.set{i:Nat}{x:af}{e':Ex}{e:ai}{p pos:aJ}{b:Sx}{ss:List aS}(hi:X.N[i]?=a3 x)(hx:Loc X.env.scope x)(hs:aG e (a3 (.Name x p)) pos.line X.env=pure a4)(hf:X.fn x=a5\/X.env.scope.names.lookup x=a3 .local)(he:Tr X e' (.e e))(hb:TMs X b ss) :
  TMs X (.seq (.set i e') b) (.Assign [.Name x p] e pos::ss):=λΓ G c g ρ r h=>by
 simp only[zm]at h;cases ed:stOf (ev Γ G e' (j8 ρ)) with
 |none=>rw[ed]at h;cases h
 |some d =>rw[ed]at h;obtain⟨z,ez,hd⟩:=Nu ed;obtain⟨ρ',e1,h2,h3⟩:=hb Γ G c g (ρ.set i (.val d)) r (by rw[jg];exact h);exact⟨ρ',e1,DMs.set ((sound he c g ρ z ez).toE hd) h2 c.nd hi hx hs hf,Kp.set h3⟩
theorem DMs.mono{ρ ρ':Rho}{is js:List Nat}{ss:List aS}(h:∀j∈is,j∈js)(hm:DMs X ρ ρ' is ss):DMs X ρ ρ' js ss:=λσ H E R k=>hm σ H E R λσ' H' g R' f=>k σ' H' g R' λj hj=>f j λz=>hj (h j z)
theorem TMs.ife{c':Ex}{a b r:Sx}{e:ai}{sa sb ss:List aS}{pos:aJ}(hc:Tr X c' (.b e))(ha:TMs X a sa)(hb:TMs X b sb)(hr:TMs X r ss):TMs X (.seq (.ife c' a b) r) (.If e sa sb pos::ss):=λΓ G c g ρ z h=>by
 simp only[zm]at h;cases et:truth (ev Γ G c' (j8 ρ)) with
 |none=>rw[et]at h;cases h
 |some k =>
  rw[et]at h;have hk:=sound hc c g ρ k et;cases k with
  |true =>
   cases e1:zm Γ G a (j8 ρ) with
   |none=>simp only[e1]at h;cases h
   |some r1 =>simp only[e1]at h;obtain⟨ρ1,q1,q2,q5⟩:=ha Γ G c g ρ r1 e1;obtain⟨ρ',q3,q4,q6⟩:=hr Γ G c g ρ1 z (by rw[q1];exact h);exact⟨ρ',q3,DMs.mono (λj hj=>by simp only[Qg,Xn]at hj ⊢;rcases hj with y|y<;>simp[y]) (DMs.ifT hk q2 q4),q5.trans q6 (λj hj=>by simp only[Qg,Xn];simp[hj]) (λj hj=>by simp only[Qg,Xn];simp[hj])⟩
  |false =>
   cases e1:zm Γ G b (j8 ρ) with
   |none=>simp only[e1]at h;cases h
   |some r1 =>simp only[e1]at h;obtain⟨ρ1,q1,q2,q5⟩:=hb Γ G c g ρ r1 e1;obtain⟨ρ',q3,q4,q6⟩:=hr Γ G c g ρ1 z (by rw[q1];exact h);exact⟨ρ',q3,DMs.mono (λj hj=>by simp only[Qg,Xn]at hj ⊢;rcases hj with y|y<;>simp[y]) (DMs.ifF hk q2 q4),q5.trans q6 (λj hj=>by simp only[Qg,Xn];simp[hj]) (λj hj=>by simp only[Qg,Xn];simp[hj])⟩
end
structure Ts(X:Cx)(t:Sx)(nd:Ns):Prop where
 m:∀(fu:Nat)(Γ:af->List D->Rc)(G:af->Option D),Cok X G->Gok X Γ->j9y fu Γ G X t nd
theorem Ts.nil:∀{X:Cx},Ts X .nop (.ss []):=by intro _;refine⟨λfu Γ G=>?_⟩;intro c g ρ P h;exact DSs.nil (h ρ rfl)
theorem Ts.cons:∀{X:Cx}{a b:Sx}{st:aS}{rest:List aS},Ts X a (.s st)->Ts X b (.ss rest)->Ts X (.seq a b) (.ss (st::rest)):=by
 intro _ _ _ _ _ q0 q1;refine⟨λfu Γ G=>?_⟩;have iha:=q0.m fu Γ G;have ihb:=q1.m fu Γ G;intro c g ρ P h;rw[j9w]at h;split at h
 .rename_i ρ' e;exact DSs.cons (N:=λρ1=>j8 ρ1=ρ') (iha c g ρ _ (by rw[e];exact λρ2 z=>z)) λρ1 z=>ihb c g ρ1 P (by rw[z];exact h)
 .rename_i o hn;refine DSs.cons (N:=λ_=>False) (iha c g ρ _ ?_) λ_ z=>z.elim;cases e:run fu Γ G _ (j8 ρ) with
  |next ρ'=>exact absurd e (hn ρ')
  |ret r=>rw[e]at h;exact h
  |err x r=>rw[e]at h;exact h
  |brk r=>rw[e]at h;exact h
  |cnt r=>rw[e]at h;exact h
  |no=>rw[e]at h;exact h
theorem Ts.lend:∀{X:Cx}{k p f:Nat}{x y nf:af}{b r:Sx}{body rest:List aS}{n:Nat}{p1 p2 p3 p4 p5 p6 p7 p8 p9 pt pos:aJ} (hq:X.calm=a5) (hij:k≠p) (hi:X.N[k]?=a3 x) (hj:X.N[p]?=a3 y) (hx:Loc X.env.scope x) (hy:Loc X.env.scope y) (hf:X.fn x=a5\/X.env.scope.names.lookup x=a3 .local) (hg:X.fn y=a5\/X.env.scope.names.lookup y=a3 .local) (hs:∀x,aC (.Call (.Name "enumerate" p3) [.Name nf p4] [] p5) X.env x=pure x) (hge:Gl X "enumerate") (hse:a7 [.Name nf p4] X.env=[(a4,ay (.Name nf p4) X.env)]) (iF:X.N[f]?=a3 nf) (vF:Vis X.env.scope nf) (dF:(nf==k94)=a4) (cF:(nf==k95)=a4) (hline:(p7.endLine==p8.line)=a5) (hbase:aF (.Name nf p6) "clear" X.env (ay (.Name nf p6) X.env)=ay (.Name nf p6) X.env),TMs X b body->Ts X r (.ss rest)->Ts X (.lend k p f b r) (.ss (.For (.Tuple [.Name x p1,.Name y p2] n pt) (.Call (.Name "enumerate" p3) [.Name nf p4] [] p5) body [] pos::.Expr (.Call (.Attribute (.Name nf p6) "clear" p7) [] [] p8) p9::rest)):=by
 intro _ k p f x y nf b r body rest n p1 p2 p3 p4 p5 p6 p7 p8 p9 pt pos hq hij hi hj hx hy hf hg hs hge hse iF vF dF cF hline hbase hm q1;refine⟨λfu Γ G=>?_⟩;have ih:=q1.m fu Γ G;intro c g ρ P h;rw[jh5]at h;unfold Um at h;split at h
 .rename_i l el;obtain⟨a,q⟩:=Ju el;split at h
  .rename_i hcnd;obtain⟨k1,k2,k3,k4⟩:=hcnd;split at h
   .rename_i r' er;have fl:f<ρ.length:=(X3.mp q).1;refine DSs.lend (λi ρ'=>Vm (bindM [k,p] (zm Γ G b)) ((zb l).drop i) (j8 ρ')=a3 r') q (λi d hd=>j12 k1 hd)
     (DI.enum a5 (DE.var f (V8 fl) iF vF dF cF) (c.bt _ (by decide)) hge hse) (by rw[cR];exact er) (λi d ρ' hd w ho=>?_) (λρ' w ho=>?_) hq c.po hs iF vF dF cF hline hbase
    .have hdr:(zb l).drop i=d::(zb l).drop (i+1):=by obtain⟨hlt,e⟩:=X3.mp hd;rw[Tc hlt,e]
     rw[hdr,Vm]at w;split at w
     .rename_i ρ2' e2;unfold bindM at e2;split at e2
      .rename_i ρ2 eb;simp only[qy]at eb;split at eb
       .rename_i u v;cases eb;obtain⟨ρ4,e4,dm,kp⟩:=hm Γ G c g ((ρ'.set k (.val u)).set p (.val v)) ρ2' (by rw[jg,jg];exact e2);exact⟨_,ρ4,_,DG.pair _ _ hij c.nd hi hj hx hy hf hg hq,dm,by rw[e4];exact w,by rw[kp.2 f k2,qe (bJ k4),qe (bJ k3)];exact ho,kp.1⟩
       .cases eb
      .cases e2
     .cases w
    .rw[fq,Vm]at w;refine ih c g _ P ?_;rw[jg];cases w;exact h
   .exact h.elim
  .exact h.elim
 .exact h.elim
theorem Ts.keep:∀{X:Cx}{i:Nat}{b:Sx}{sts:List aS},Ts X b (.ss sts)->Ts X (.seq (.keep i) b) (.ss sts):=by
 intro _ i _ _ q0;refine⟨λfu Γ G=>?_⟩;have ih:=q0.m fu Γ G;intro c g ρ P h;simp only[j9w,jh6,Bj]at h;cases e:(j8 ρ)[i]? with
 |none=>rw[e]at h;exact h.elim
 |some v =>
  rw[e]at h;cases v with
  |own l =>obtain⟨a,q⟩:=Ju e;exact DSs.freeze _ q (ih c g _ P (by rw[jg];exact h))
  |un=>exact h.elim
  |val d=>exact ih c g ρ P h
  |exc x=>exact h.elim
theorem Ts.set:∀{X:Cx}{i:Nat}{x:af}{e':Ex}{e:ai}{p pos:aJ}(hi:X.N[i]?=a3 x) (hx:Loc X.env.scope x) (hs:aG e (a3 (.Name x p)) pos.line X.env=pure a4) (hf:X.fn x=a5\/X.env.scope.names.lookup x=a3 .local),Tr X e' (.e e)->Ts X (.set i e') (.s (.Assign [.Name x p] e pos)):=by
 intro _ _ _ _ _ _ _ hi hx hs hf he;refine⟨λfu Γ G=>?_⟩;intro c g ρ P h;have S:=sound he c g;rw[j9v]at h;unfold Mv at h;rcases Yn h with h|⟨y,ey,hP⟩
 rotate_left
 .exact DS.setX (Ig he c g ρ y ey) (hP ρ rfl) c.nd hi hx hs hf
 split at h
 .rename_i l e;exact DS.setO _ (S ρ _ e) (λa=>h _ jg) c.nd hi hx hs hf
 .rename_i r hn e;split at h
  .rename_i d hd;exact DS.set _ ((S ρ _ e).toE hd) (h _ jg) c.nd hi hx hs hf
  .exact h.elim
 .exact h.elim
theorem Ts.setC1:∀{X:Cx}{k i:Nat}{z y:af}{py p p1 pos:aJ}{elt' it' c':Ex}{elt it:ai}{ifs:List ai} {scope:b9} (hq:X.calm=a5) (hk:X.N[k]?=a3 z) (hx:Loc X.env.scope z) (hf:X.fn z=a5\/X.env.scope.names.lookup z=a3 .local) (hsw:aG (.ListComp elt [⟨.Name y py,it,ifs,0⟩] scope p) (a3 (.Name z p1)) pos.line X.env=pure a5) (hi:X.N[i]?=a3 y) (hl:Ym scope y=a5) (hkind:scope.kind=.function) (hok:Jg scope X.env X.N [i]=a5) (hs:∀x,aC it X.env x=pure x),Tr X it' (.i (.Name y py) it)->(∀C s H fp pn,Tr (cCx X scope C s H fp pn) elt' (.e elt))->(∀C s H fp pn,Tr (cCx X scope C s H fp pn) c' (.c ifs))->Ts X (.set k (.comp [i] elt' it' c')) (.s (.Assign [.Name z p1] (.ListComp elt [⟨.Name y py,it,ifs,0⟩] scope p) pos)):=by
 intro _ _ _ _ _ _ _ _ _ _ _ _ _ _ _ _ hq hk hx hf hsw hi hl hkind hok hs hit he hc;refine⟨λfu Γ G=>?_⟩;intro c g ρ P h;exact j2x hq c hk hx hf hsw (λρ ds z=>sound hit c g ρ ds z) hkind hok hs (λρ d ρ2 hb hun=>by
  simp only[qy]at hb
  cases hb
  have hu:=hun _ (xu.mpr rfl)
  exact⟨_,jg,Wk.set hu,V2 hu,λC s H fp pn=>DG.name _ c.nd hi (Rj hl) (Ou hl)⟩)
  (λC s H fp pn ρ r z=>sound (he C s H fp pn) c.comp g.comp ρ r z) (λC s H fp pn ρ=>sound (hc C s H fp pn) c.comp g.comp ρ) h
theorem Ts.mov:∀{X:Cx}{i j:Nat}{x y:af}{p q pos:aJ}(hi:X.N[i]?=a3 x) (hj:X.N[j]?=a3 y) (hx:Loc X.env.scope x) (hf:X.fn x=a5\/X.env.scope.names.lookup x=a3 .local) (hv:Vis X.env.scope y) (hd:(y==k94)=a4) (hcd:(y==k95)=a4),Ts X (.mov i j) (.s (.Assign [.Name x p] (.Name y q) pos)):=by
 intro _ _ _ _ _ _ _ _ hi hj hx hf hv hd hcd;refine⟨λfu Γ G=>?_⟩;intro c g ρ P h;rw[jj8]at h;unfold Et at h;split at h
 .rename_i l e;obtain⟨a,q⟩:=Ju e;split at h
  .exact h.elim
  .rename_i hij;exact DS.mov q hij (h _ (by rw[jg,jg];rfl)) c.nd hi hj hx hf hv hd hcd
 .rename_i d e;exact DS.set _ (DE.var _ (Yl e) hj hv hd hcd) (h _ jg) c.nd hi hx rfl hf
 .exact h.elim
theorem Ts.expr:∀{X:Cx}{e':Ex}{e:ai}{pos:aJ}(hs:aG e a6 pos.line X.env=pure a4),Tr X e' (.e e)->Ts X (.expr e') (.s (.Expr e pos)):=by
 intro _ _ _ _ hs he;refine⟨λfu Γ G=>?_⟩;intro c g ρ P h;rw[jh7]at h;unfold Dh at h;rcases Yn h with h|⟨y,ey,hP⟩
 rotate_left
 .exact DS.exprX (Ig he c g ρ y ey) (hP ρ rfl) hs
 split at h
 .rename_i r e;exact DS.expr (sound he c g ρ r e).toT (h ρ rfl) hs
 .exact h.elim
theorem Ts.ret:∀{X:Cx}{e':Ex}{e:ai}{pos:aJ},Tr X e' (.e e)->Ts X (.ret e') (.s (.Return (a3 e) pos)):=by
 intro _ _ _ _ he;refine⟨λfu Γ G=>?_⟩;intro c g ρ P h;rw[j9x]at h;unfold retS at h;rcases Yn h with h|⟨y,ey,hP⟩
 rotate_left
 .exact DS.retX (Ig he c g ρ y ey) (hP ρ rfl)
 split at h
 .rename_i l e;exact DS.retO (sound he c g ρ _ e) (h _ rfl)
 .rename_i r hn e;exact DS.ret (sound he c g ρ _ e).toT (h _ rfl)
 .exact h.elim
theorem Ts.retV:∀{X:Cx}{i:Nat}{x:af}{p pos:aJ}(hi:X.N[i]?=a3 x) (hv:Vis X.env.scope x) (hd:(x==k94)=a4) (hcd:(x==k95)=a4),Ts X (.retV i) (.s (.Return (a3 (.Name x p)) pos)):=by
 intro _ _ _ _ _ hi hv hd hcd;refine⟨λfu Γ G=>?_⟩;intro c g ρ P h;rw[jh2]at h;unfold Rm at h;split at h
 .rename_i l e;obtain⟨a,q⟩:=Ju e;exact DS.retV _ q (h _ rfl) hi hv hd hcd
 .rename_i d e;exact DS.ret (DE.toT (DE.var _ (Yl e) hi hv hd hcd)) (h _ rfl)
 .exact h.elim
theorem Ts.ife:∀{X:Cx}{c':Ex}{a b:Sx}{c:ai}{sa sb:List aS}{pos:aJ},Tr X c' (.b c)->Ts X a (.ss sa)->Ts X b (.ss sb)->Ts X (.ife c' a b) (.s (.If c sa sb pos)):=by
 intro _ _ _ _ _ _ _ _ hc q1 q2;refine⟨λfu Γ G=>?_⟩;have iha:=q1.m fu Γ G;have ihb:=q2.m fu Γ G;intro c g ρ P h;rw[jj9]at h;split at h
 .rename_i e;exact DS.if (sound hc c g ρ a5 e) (λ_=>iha c g ρ P h) λz=>by cases z
 .rename_i e;exact DS.if (sound hc c g ρ a4 e) (λz=>by cases z) λ_=>ihb c g ρ P h
 .exact h.elim
theorem Ts.for1:∀{X:Cx}{i:Nat}{y:af}{it':Ex}{b:Sx}{it:ai}{body:List aS} {p pos:aJ} (hq:X.calm=a5) (hi:X.N[i]?=a3 y) (hx:Loc X.env.scope y) (hf:X.fn y=a5\/X.env.scope.names.lookup y=a3 .local) (hs:∀x,aC it X.env x=pure x),Tr X it' (.i (.Name y p) it)->Ts X b (.ss body)->Ts X (.loop [i] it' b) (.s (.For (.Name y p) it body [] pos)):=by intro _ _ _ _ _ _ _ _ _ hq hi hx hf hs hit q1;refine⟨λfu Γ G=>?_⟩;have ih:=q1.m fu Γ G;intro c g ρ P h;exact Ul hq c hs (bind1 c.nd hi hx hf) (λρ ds z=>sound hit c g ρ ds z) (ih c g) h
theorem Ts.for2:∀{X:Cx}{i j:Nat}{x y:af}{it':Ex}{b:Sx}{it:ai}{body:List aS} {n:Nat} {p q pt pos:aJ} (hq:X.calm=a5) (hij:i≠j) (hi:X.N[i]?=a3 x) (hj:X.N[j]?=a3 y) (hx:Loc X.env.scope x) (hy:Loc X.env.scope y) (hf:X.fn x=a5\/X.env.scope.names.lookup x=a3 .local) (hg:X.fn y=a5\/X.env.scope.names.lookup y=a3 .local) (hs:∀x,aC it X.env x=pure x),Tr X it' (.i (.Tuple [.Name x p,.Name y q] n pt) it)->Ts X b (.ss body)->Ts X (.loop [i,j] it' b) (.s (.For (.Tuple [.Name x p,.Name y q] n pt) it body [] pos)):=by intro _ _ _ _ _ _ _ _ _ _ _ _ _ _ hq hij hi hj hx hy hf hg hs hit q1;refine⟨λfu Γ G=>?_⟩;have ih:=q1.m fu Γ G;intro c g ρ P h;exact Ul hq c hs (jiv hq hij c.nd hi hj hx hy hf hg) (λρ ds z=>sound hit c g ρ ds z) (ih c g) h
theorem Ts.for3f:∀{X:Cx}{i j k:Nat}{x y z:af}{it':Ex}{b:Sx}{it:ai}{body:List aS} {n:Nat} {p q r pt pos:aJ} (hq:X.calm=a5) (hi:X.N[i]?=a3 x) (hj:X.N[j]?=a3 y) (hk:X.N[k]?=a3 z) (hx:Loc X.env.scope x) (hy:Loc X.env.scope y) (hz:Loc X.env.scope z) (hf:X.fn x=a5\/X.env.scope.names.lookup x=a3 .local) (hg:X.fn y=a5\/X.env.scope.names.lookup y=a3 .local) (hh:X.fn z=a5\/X.env.scope.names.lookup z=a3 .local) (hs:∀x,aC it X.env x=pure x),Tr X it' (.i (.Tuple [.Name x p,.Name y q,.Name z r] n pt) it)->Ts X b (.ss body)->Ts X (.loop [i,j,k,k] it' b) (.s (.For (.Tuple [.Name x p,.Name y q,.Name z r] n pt) it body [] pos)):=by intro _ _ _ _ _ _ _ _ _ _ _ _ _ _ _ _ _ hq hi hj hk hx hy hz hf hg hh hs hit q1;refine⟨λfu Γ G=>?_⟩;have ih:=q1.m fu Γ G;intro c g ρ P h;exact Ul hq c hs (jgl hq c.nd hi hj hk hx hy hz hf hg hh) (λρ ds z=>sound hit c g ρ ds z) (ih c g) h
theorem Ts.app:∀{X:Cx}{i:Nat}{x:af}{e':Ex}{e:ai}{p p1 p2 pos:aJ}(hN:X.N[i]?=a3 x) (hv:Vis X.env.scope x) (hd:(x==k94)=a4) (hcd:(x==k95)=a4) (hst:a7 [e] X.env=[(a4,ay e X.env)]) (hline:(p1.endLine==p2.line)=a5) (hbase:aF (.Name x p) "append" X.env (ay (.Name x p) X.env)=ay (.Name x p) X.env) (hfew:((aK p2 (a7 [e] X.env)).all (λx=>!x.1)&&(bA p2 (aX [] X.env)).all (λx=>x.1.isSome)&&decide (([e]:List ai).length+([]:List aT).length+(if ([]:List aT).isEmpty then 0 else 1)<30))=a5),Tr X e' (.e e)->Ts X (.app i e') (.s (.Expr (.Call (.Attribute (.Name x p) "append" p1) [e] [] p2) pos)):=by
 intro _ _ _ _ _ _ _ _ _ hN hv hd hcd hst hline hbase hfew he;refine⟨λfu Γ G=>?_⟩;intro c g ρ P h;rw[jjb]at h;unfold Rb at h;split at h
 .rename_i l x el ex;obtain⟨a,q⟩:=Ju el;split at h
  .rename_i d hd';split at h
   .rename_i hz;exact DS.append _ q ((sound he c g ρ x ex).toE hd') hz (h _ jg) hN hv hd hcd hst hline hbase hfew rfl
   .exact h.elim
  .exact h.elim
 .exact h.elim
theorem Ts.ext:∀{X:Cx}{i:Nat}{x:af}{e':Ex}{e:ai}{p p1 p2 pos:aJ}(hN:X.N[i]?=a3 x) (hv:Vis X.env.scope x) (hd:(x==k94)=a4) (hcd:(x==k95)=a4) (hst:a7 [e] X.env=[(a4,ay e X.env)]) (hline:(p1.endLine==p2.line)=a5) (hbase:aF (.Name x p) "extend" X.env (ay (.Name x p) X.env)=ay (.Name x p) X.env) (hfew:((aK p2 (a7 [e] X.env)).all (λx=>!x.1)&&(bA p2 (aX [] X.env)).all (λx=>x.1.isSome)&&decide (([e]:List ai).length+([]:List aT).length+(if ([]:List aT).isEmpty then 0 else 1)<30))=a5),Tr X e' (.e e)->Ts X (.ext i e') (.s (.Expr (.Call (.Attribute (.Name x p) "extend" p1) [e] [] p2) pos)):=by
 intro _ _ _ _ _ _ _ _ _ hN hv hd hcd hst hline hbase hfew he;refine⟨λfu Γ G=>?_⟩;intro c g ρ P h;rw[jja]at h;unfold Dg at h;split at h
 .rename_i l m el ex;obtain⟨a,q⟩:=Ju el;split at h
  .rename_i hz;exact DS.extend _ q (sound he c g ρ _ ex) (zf hz) (h _ jg) hN hv hd hcd hst hline hbase hfew rfl
  .exact h.elim
 .exact h.elim
theorem Ts.retC:∀{X:Cx}{f x:af}{is:List Nat}{a' b':Ex}{a b:ai}{params:dH}{body:ai} {scope:b9} {cl:List (af×aa)} {p1 p2 p3 pos:aJ} (hx:x∈Z9) (hqu:X.env.qual=x ++ ".<locals>.") (hdef:kr params X.env=([],[])) (hcl:fH scope X.env=pure cl) (ht:V5 X.K x=a3 (params,body,scope)) (hn:cl.map (·.1)=J5 scope) (nd:(J5 scope).Nodup) (hc:j96 X cl is) (hg:Gl X f) (hdb:(f==k94)=a4) (hs1:a7 [a,b,.Lambda params body scope p1] X.env=(a4,ay a X.env)::a7 [b,.Lambda params body scope p1] X.env) (hs2:a7 [b,.Lambda params body scope p1] X.env=(a4,ay b X.env)::a7 [.Lambda params body scope p1] X.env) (hs3:a7 [.Lambda params body scope p1] X.env=(a4,ay (.Lambda params body scope p1) X.env)::a7 [] X.env) (hpl:(aK p3 (a7 [b,.Lambda params body scope p1] X.env)).any (·.1)=a4),Tr X a' (.e a)->Tr X b' (.e b)->Ts X (.retC f x a' b' is) (.s (.Return (a3 (.Call (.Name f p2) [a,b,.Lambda params body scope p1] [] p3)) pos)):=by
 intro _ f x is a' b' a b params body scope cl p1 p2 p3 pos hx hqu hdef hcl ht hn nd hc hg hdb hs1 hs2 hs3 hpl ha hb;refine⟨λfu Γ G=>?_⟩;intro c g ρ P h;rw[jh3]at h;unfold Bb at h;split at h
 .rename_i ds u v e1 e2 e3;have q:=g f [u.d,v.d,.fn x ds];cases z:Γ f [u.d,v.d,.fn x ds] with
  |val d =>
   rw[z]at h q;dsimp only[K9]at h;split at h
   .rename_i nf;exact DS.ret (DT.callL q ⟨hx,hqu,c.lm _ hx hqu⟩ hdef hcl ht hn nd (j2e hc e1) (sound ha c g ρ u e2).toT (sound hb c g ρ v e3).toT nf ⟨rfl,rfl⟩ hg hdb hs1 hs2 hs3 hpl) (h (.val _) rfl)
   .exact h.elim
  |fresh l=>rw[z]at h;exact h.elim
  |err x=>rw[z]at h;exact h.elim
  |lval d=>rw[z]at h;exact h.elim
  |no=>rw[z]at h;exact h.elim
 .exact h.elim
theorem Ts.nmake:∀{X:Cx}{x t y:Nat}{nx nt ny:af}{it' e1' e2':Ex}{it e1 e2:ai}{p1 p2 p3 p4 p5 p6 p10 p11 p12 p14 p16 p17 p18:aJ}(hq:X.calm=a5) (hX:X.N[x]?=a3 nx) (hT:X.N[t]?=a3 nt) (hY:X.N[y]?=a3 ny) (lx:Loc X.env.scope nx) (lt:Loc X.env.scope nt) (ly:Loc X.env.scope ny) (fx:X.fn nx=a5\/X.env.scope.names.lookup nx=a3 .local) (ft:X.fn nt=a5\/X.env.scope.names.lookup nt=a3 .local) (fy:X.fn ny=a5\/X.env.scope.names.lookup ny=a3 .local) (dx:(nx==k94)=a4) (cx:(nx==k95)=a4) (dt:(nt==k94)=a4) (ct:(nt==k95)=a4) (s1:aG (.Dict [] [] p2) (a3 (.Name nx p1)) p3.line X.env=pure a4) (s2:aG e1 (a3 (.Name ny p5)) p6.line X.env=pure a4) (s3:aG e2 (a3 (.Subscript (.Name nx p10) (.Name nt p11) p12)) p14.line X.env=pure a4) (hf:∀x,aC it X.env x=pure x),Tr X it' (.i (.Name nt p4) it)->Tr X e1' (.e e1)->Tr X e2' (.e e2)->Ts X (.nmake x t y it' e1' e2') (.ss (j9j nx nt ny it e1 e2 p1 p2 p3 p4 p5 p6 p10 p11 p12 p14 p16 p17 p18)):=by
 intro _ x t y nx nt ny it' e1' e2' it e1 e2 p1 p2 p3 p4 p5 p6 p10 p11 p12 p14 p16 p17 p18 hq hX hT hY lx lt ly fx ft fy dx cx dt ct s1 s2 s3 hf hit he1 he2;refine⟨λfu Γ G=>?_⟩;intro c g ρ P h;rw[j2j]at h;split at h
 .rename_i hcnd;obtain⟨rx,rt,ry,hxt,hxy,hty⟩:=hcnd;have ln:(j8 ρ).length=ρ.length:=by unfold j8;rw[kj]
  rw[ln]at rx rt ry;split at h
  .rename_i ds eds;split at h
   .rename_i r er;refine DSs.nmake (W:=λi ρ' ks ns=>V4 (λρ=>stOf (ev Γ G e1' ρ)) (λρ=>stOf (ev Γ G e2' ρ)) x t y (ds.drop i) (j8 ρ') ks ns=a3 r) rx rt ry hxt hxy hty (sound hit c g (ρ.set x .un) ds (by rw[jg];exact eds))
     (by rw[cR,jg];exact er) (λi d ρ' ks ns hd w=>?_) (λρ' ks ns w=>?_) c.un' hq c.po c.nd hX hT hY lx lt ly fx ft fy dx cx dt ct s1 s2 s3 hf
    .have hdr:ds.drop i=d::ds.drop (i+1):=by obtain⟨hlt,e⟩:=X3.mp hd;rw[Tc hlt,e]
     rw[hdr]at w;cases d with
     |tup l =>
      simp only[V4]at w;split at w
      .rename_i k d1 ek ed;obtain⟨z,ez,ed2⟩:=Nu ed;have hk:=Q8 ek;subst hk;split at w
       .rename_i n en;obtain⟨z2,ez2,ed3⟩:=Nu en;split at w
        .rename_i hh;refine⟨k,d1,n,rfl,(sound he1 c g (ρ'.set t (.val (.tup (k.map D.int)))) z (by rw[jg];exact ez)).toE ed2,(sound he2 c g (((ρ'.set t (.val (.tup (k.map D.int)))).set y (.val d1)).set x (.val (.dct ks (ns.map D.int)))) z2 (by rw[jg,jg,jg];exact ez2)).toE ed3,hh.1,hh.2,by rw[jg,jg];exact w⟩
        .cases w
       .cases w
      .cases w
     |_=>simp only[V4]at w;cases w
    .rw[fq,V4]at w;cases w;exact h (.val (.dct ks (ns.map D.int))) rfl
   .exact h.elim
  .exact h.elim
 .exact h.elim
theorem Ts.raise:∀{X:Cx}{x:af}{e':Ex}{e:ai}{np cpos pos:aJ}(hq:X.calm=a5)(hg:Gl X x) (hdb:(x==k94)=a4) (hs:a7 [e] X.env=[(a4,ay e X.env)]),Tr X e' (.e e)->Ts X (.raise x e') (.s (.Raise (a3 (.Call (.Name x np) [e] [] cpos)) a6 pos)):=by
 intro _ _ _ _ _ _ _ hq hg hdb hs he;refine⟨λfu Γ G=>?_⟩;intro c g ρ P h;rw[jct]at h;unfold Ef at h;split at h
 .rename_i r d er eg;obtain⟨hx,o,ho⟩:=c.ec _ _ eg;exact DS.raiseE c.ea hx ho (W.mg_of c.kin c.ns ho) c.kin hq (λσ H R=>(sound he c g ρ r er).toT σ H _ R λv H' g' _=>g') (h ρ rfl) hg hdb hs
 .exact h.elim
theorem Ts.tryK:∀{X:Cx}{b:Sx}{i j:Nat}{n k:af}{body:List aS}{p p1 p2 p3 p4 p5 pos hpos:aJ}(hq:X.calm=a5) (hst:X.stack=X.env::X.outer) (hfm:X.env.frame=a3 X.env.locals) (hgA:Gl X "AskError") (hg:Gl X "_law_kinds") (hN:X.N[j]?=a3 n) (hlo:X.env.scope.names.lookup n=a3 .local) (hd:(n==k94)=a4) (hcd:(n==k95)=a4) (hi:X.N[i]?=a3 k) (hxk:Loc X.env.scope k) (hfk:X.fn k=a5\/X.env.scope.names.lookup k=a3 .local) (hfn:X.fn n=a5\/X.env.scope.names.lookup n=a3 .local) (hs:aG (.Call (.Name "_law_kinds" p) [.Name n p1] [] p2) (a3 (.Name k p3)) p4.line X.env=pure a4) (he:a7 [.Name n p1] X.env=(a4,ay (.Name n p1) X.env)::a7 [] X.env) (hpl:(aK p2 (a7 [] X.env)).any (·.1)=a4),(∀pn xe,Ts { X with pn:=pn,xe:=xe } b (.ss body))->Ts X (.tryK b i j) (.s (.Try body [.ExceptHandler (a3 (.Name "AskError" p5)) (a3 n) [.Assign [.Name k p3] (.Call (.Name "_law_kinds" p) [.Name n p1] [] p2) p4] hpos] [] [] pos)):=by
 intro _ _ _ _ _ _ _ _ _ _ _ _ _ _ _ hq hst hfm hgA hg hN hlo hd hcd hi hxk hfk hfn hs he hpl q0;refine⟨λfu Γ G=>?_⟩;have ih:=λpn xe=>(q0 pn xe).m fu Γ G;intro c g ρ P h;refine DS.tryK (λpn xe hpo=>?_) c.ea hst hfm (c.dp hq) (c.un hq) c.nd hgA hg (by decide) hN hlo hd hcd hi hxk hfk hfn hs he hpl;refine ih pn xe ⟨c.un',c.un,c.dp,c.bt,c.gl,c.nd,hpo,c.ea,c.ec,c.el,c.kin,c.ns,c.kd,c.fn,λd e=>⟨(c.pl d e).ex⟩,c.lm⟩ ?_ ρ _ ?_
 .intro f ds;have q:=g f ds;cases e:Γ f ds with
  |val d=>rw[e]at q;exact⟨q.ex⟩
  |fresh l=>rw[e]at q;exact⟨q.ex⟩
  |err x=>rw[e]at q;exact⟨q.ex⟩
  |lval d=>rw[e]at q;exact q
  |no=>trivial
 .rw[jh1]at h;split at h
  .rename_i x ρ' e;rw[e];split at h
   .rename_i l eg;obtain⟨hx,o,ho⟩:=c.ec _ _ eg;intro ρ2 e2;exact⟨hx,⟨o,ho⟩,l,c.kd x l eg,λe' oe a=>h _ (by rw[jg,jg,jg,e2];rfl)⟩
   .exact h.elim
  .rename_i o hn;cases e:run fu Γ G _ (j8 ρ) with
   |err x ρ'=>exact absurd e (hn x ρ')
   |next ρ'=>rw[e]at h;exact h
   |ret r=>rw[e]at h;exact h
   |brk r=>rw[e]at h;exact h
   |cnt r=>rw[e]at h;exact h
   |no=>rw[e]at h;exact h
section
theorem Vw{fu:Nat}{Γ:af->List D->Rc}{G:af->Option D}{X:Cx}{t:Sx}{nd:Ns}(h:Ts X t nd):Cok X G->Gok X Γ->j9y fu Γ G X t nd:=h.m fu Γ G
end
structure Fi where
 n:Nat
 nn:Nat
 body:Sx
 lam:Bool
noncomputable def j3h:Rc->Rc
 |.val d=>.lval d
 |_=>.no
noncomputable def fin:So->Rc
 |.ret r=>r
 |.next _=>.val .non
 |.err x _=>.err x
 |_=>.no
noncomputable def enter(F:Fi)(ds:List D):En:=ds.map Sv.val++aq (F.nn-F.n) Sv.un
noncomputable def evP(fu:Nat)(G:af->Option D)(T:af->Option Fi):Nat->af->List D->Rc
 |0,_,_=>.no
 |n+1,f,ds=>match T f with
  |none=>.no
  |some F=>if ds.length=F.n then(if F.lam=a5 then j3h (fin (run fu (evP fu G T n) G F.body (enter F ds)))else fin (run fu (evP fu G T n) G F.body (enter F ds)))else .no
structure Lk(P:au)(w:aA)(K:k90)(mg:k93)(base:aD)(x:af)(F:Fi):Prop where
 ex:∃(st:aS)(f:aa)(fd:aN)(N ps:List af),Fun K x x st f fd/\FnScope N ps (j9 st)/\ps.length=F.n/\N.length=F.nn/\Binds K fd ps []/\Dfl K x fd ps/\mg x=a3 (.ref f) /\
  ∀(cdv:a9)(A:aB)(outer:List dj)(s:ae)(H:Hp)(E:XK)(xe:k91),Ts ((zu CX0 P w K mg base N x (j9 st) f cdv A outer s H E).wish xe) F.body (.ss (jy st))
structure LkL(P:au)(w:aA)(K:k90)(mg:k93)(base:aD)(x:af)(F:Fi):Prop where
 ex:∃(tx:Tx)(N ps:List af)(e:Ex),V5 K x=a3 tx/\LamScope N ps tx.2.2/\N.length=F.n/\F.nn=F.n/\F.body=.ret e /\
  (∀(cl:List (af×aa)) (pm:a9) (c:aa) (ctv:a9) (us:List a9),us.length=ps.length->dE (W.kla_fn "<lambda>" (q8 x) tx.1 tx.2.1 tx.2.2 cl pm (.ref c) ctv) ⟨us,[]⟩=pure (ps.zip us)) /\
  ∀(a c:aa)(cl:List (af×aa)) (A:aB) (outer:List dj) (s:ae) (H:Hp),Tr (Yu P w K mg base N (q8 x) tx.2.2 a (.ref c) cl A outer s H) e (.e tx.2.1)
def LkF(P:au)(w:aA)(K:k90)(mg:k93)(base:aD)(f:af)(F:Fi):Prop:=(F.lam=a4->Lk P w K mg base f F/\f.cps.toList.getLast?≠a3 62)/\(F.lam=a5->∃x,f=q8 x/\LkL P w K mg base x F)
def j6i(P:au)(w:aA)(K:k90)(mg:k93)(base:aD):Prop:=∃(f:aa)(fd:aN)(ps:List af),FnOk P w K mg base CX0 11 f fd ps (jd5 K j9c)/\mg "_law_plan" = a3 (.ref f)/\W.keepIn K (.ref f)=a5/\Binds K fd ps []/\Dfl K "_law_plan" fd ps
structure Tb(P:au)(w:aA)(K:k90)(mg:k93)(base:aD)(G:af->Option D):Prop where
 bt:∀x∈Yi,mg x=a6
 gl:∀x d,Vc x=a4->G x=a3 d->∃u v,mg x=a3 u/\RelV v u/\∀H,Enc K H d v
 ea:Qi K=a5
 ec:∀x d,G (bang x)=a3 d->x∈jt/\∃o,W.nsIn K ak x=a3 (a3 o)
 el:G "?" = a3 (.bl a5)->∀c∈jt,∃v,W.nsIn K ak c=a3 (a3 v)
 kin:K.In base
 ns:base.Ns ak mg
 kd:∀x l,G (bang x)=a3 (.lst l)->KindsP P w K mg base "_law_kinds" x l
 fn:∀f d,G (qm f)=a3 d->∃fa,mg f=a3 (.ref fa)/\W.keepIn K (.ref fa)=a5
 pl:∀d,G (qm "_law_plan")=a3 d->j6i P w K mg base
 lm:∀x∈Z9,∀f cdv,mg x=a3 (.ref f)->Rg K f cdv->∃c Pt,cdv=.ref c/\W.codeHdIn K c Pt=a5/\W.tabIn K x=a3 (c,Pt)
structure LkH(P:au)(w:aA)(K:k90)(mg:k93)(base:aD)(x:af)(F:Fi):Prop where
 ex:∃(st:aS)(f:aa)(fd:aN)(N:List af)(p:af),Fun K x x st f fd/\FnScope N [p] (j9 st)/\1<=N.length/\N.length=F.nn/\Binds K fd [p] []/\mg x=a3 (.ref f) /\
  ∀(cdv:a9)(A:aB)(outer:List dj)(s:ae)(H:Hp),Ts { (zu CX0 P w K mg base N x (j9 st) f cdv A outer s H E0).nox with calm:=a4 } F.body (.ss (jy st))
section
variable{P:au}{w:aA}{K:k90}{mg:k93}{base:aD}{fu:Nat}{G:af->Option D}{T:af->Option Fi}
theorem W3{N:List af}{ds:List D}{F:Fi}(h1:ds.length=F.n)(h2:N.length=F.nn):j8 (qz N ds)=enter F ds:=by unfold j8 qz enter;rw[Xf,Xa,iT,h1,h2];rfl
theorem Ra(y:af):(bang y).cps.toList.head?=a3 33:=by unfold bang;show(("!":af).cps++y.cps).toList.head?=a3 33;rw[Tq];rfl
theorem j2g (y:af):bang y ≠ "?":=λh=>by have:=Ra y;rw[h]at this;exact absurd this (by decide)
theorem j1i(y:af):(qm y).cps.toList.head?=a3 63:=by unfold qm;show(("??":af).cps++y.cps).toList.head?=a3 63;rw[Tq];rfl
theorem j31 (y:af):qm y ≠ "?":=λh=>by
 have e:((qm y).cps.toList.drop 1).head?=a3 63:=by unfold qm;show((("??":af).cps++y.cps).toList.drop 1).head?=a3 63;rw[Tq];rfl
 rw[h]at e;exact absurd e (by decide)
theorem jds{x y:af}(h:qm x=qm y):x=y:=by unfold qm at h;have h:(⟨("??":af).cps++x.cps⟩:af)=⟨("??":af).cps++y.cps⟩:=h;have h:=congrArg kM h;have e:x.cps=y.cps:=gE h rfl;cases x;cases y;cases e;rfl
theorem j2f(x y:af):bang x≠qm y:=λh=>by have:=Ra x;rw[h,j1i]at this;exact absurd this (by decide)
theorem Ue{x y z:af}(h:x++z=y++z):x=y:=by have h:(⟨x.cps++z.cps⟩:af)=⟨y.cps++z.cps⟩:=h;have h:=congrArg kM h;have e:x.cps=y.cps:=Array.append_inj_left' h rfl;cases x;cases y;cases e;rfl
theorem j7w{x y:af}(h:q8 x=q8 y):x=y:=Ue (Ue h)
theorem Cm(x:af):(q8 x).cps.toList.getLast?=a3 62:=by unfold q8;show(((x ++ ".<locals>.").cps)++("<lambda>":af).cps).toList.getLast?=a3 62;rw[Tq,List.getLast?_append];rfl
theorem j3i(x:af):q8 x∉Z9:=λh=>by
 have e:=Cm x
 revert e
 unfold Z9 at h;rcases xn.mp h with h|h
 .rw[h];decide
 rcases xn.mp h with h|h
 .rw[h];decide
 rcases xn.mp h with h|h
 .rw[h];decide
 .rw[xu.mp h];decide
theorem j14 (z:af) (hz:z∈Z9) (hq:("_law_kinds":af) ++ ".<locals>." = z ++ ".<locals>."):False:=by have e:=Ue hq;subst e;exact absurd hz (by decide)
noncomputable def G0(x:af):Option D:=if x = "?" then a3 (.bl a5)else a6
theorem j13 {F:Fi} (L:LkH P w K mg base "_law_kinds" F) (bt:∀x∈Yi,mg x=a6) (ea:Qi K=a5) (el:∀c∈jt,∃v,W.nsIn K ak c=a3 (a3 v)) (kin:K.In base) (ns:base.Ns ak mg) {x:af} {l:List D} (hnl:jn l=a5)
  (hr:run fu (λ_ _=>.no) G0 F.body (.exc x::aq (F.nn-1) .un)=.ret (.fresh l)):KindsP P w K mg base "_law_kinds" x l:=by
 obtain⟨st,f,fd,N,p,hfun,hsc,h1,hN,hb,hm,hts⟩:=L.ex;refine kinds_of hfun hsc hb hm h1 hnl λcdv A outer s H e o hdp hun=>?_;have nob:∀y,G0 (bang y)=a6:=λy=>if_neg (j2g y);have c:Cok { (zu CX0 P w K mg base N "_law_kinds" (j9 st) f cdv A outer s H E0).nox with calm:=a4 } G0:=by
  refine⟨?_,(λz=>by cases z),(λz=>by cases z),bt,λy d hb q=>?_,hsc.nd,bj,ea,λy d q=>?_,λ_=>el,kin,ns,λy l' q=>?_,λf d q=>?_,λd q=>?_,λz hz hq=>(j14 z hz hq).elim⟩
  .show A.units+3+100<aI;omega
  .unfold G0 at q;split at q
   .rename_i z;subst z;cases hb
   .cases q
  .rw[nob]at q;cases q
  .rw[nob]at q;cases q
  .rw[show G0 (qm f)=a6 from if_neg (j31 f)]at q;cases q
  .rw[show G0 (qm "_law_plan")=a6 from if_neg (j31 _)]at q;cases q
 refine Vw (fu:=fu) (Γ:=λ_ _=>.no) (G:=G0) (hts cdv A outer s H) c (λ_ _=>trivial) _ _ ?_;have ab:j8 (.raw e o x::aq (N.length-1) .un)=.exc x::aq (F.nn-1) .un:=by unfold j8;rw[xr,iT,hN];rfl
 rw[ab,hr];intro y hy;cases y with
 |val d=>cases hy
 |fresh l=>cases hy;rfl
theorem jdk{fu:Nat}{Γ:af->List D->Rc}{G:af->Option D}{e:Ex}{ρ:En}{d:D}(h:fin (run fu Γ G (.ret e) ρ)=.val d):∃r,ev Γ G e ρ=a3 (.v r)/\r.d=d:=by
 rw[j9x]at h;cases z:ev Γ G e ρ with
 |none=>rw[z]at h;cases y:er Γ G e ρ<;>(rw[y]at h;cases h)
 |some w =>
  cases w with
  |v r =>
   rw[z]at h;cases r with
   |o l=>cases h
   |e d=>cases h;exact⟨_,rfl,rfl⟩
   |w l=>cases h;exact⟨_,rfl,rfl⟩
   |t d=>cases h;exact⟨_,rfl,rfl⟩
  |a l=>rw[z]at h;cases y:er Γ G e ρ<;>(rw[y]at h;cases h)
  |i l=>rw[z]at h;cases y:er Γ G e ρ<;>(rw[y]at h;cases h)
theorem Ye (t:Tb P w K mg base G) {X:Cx} {n:Nat} (h1:X.prog=P) (h2:X.w=w) (h3:X.K=K) (h4:X.mg=mg) (h5:X.base=base) (hn:12<=n) (hr:Room n X.A) (nd:X.N.Nodup) (po:dG (ax X.prog X.w) X.A X.env X.xe) (hlm:∀x∈Z9,X.env.qual=x ++ ".<locals>."->∃c P,X.env.code=.ref c/\W.codeHdIn K c P=a5/\W.tabIn K x=a3 (c,P)):Cok X G:=by subst h1 h2 h3 h4 h5;exact⟨by have:=hr.un;omega,(λ_=>by have:=hr.un;omega),(λ_=>by have:=hr.dp;omega),t.bt,t.gl,nd,po,t.ea,t.ec,t.el,t.kin,t.ns,t.kd,t.fn,λd e=>let ⟨f,fd,ps,F,h1,h2,h3,h4⟩:=t.pl d e;⟨11,f,fd,ps,F,hr.mono hn,h1,h2,h3,h4⟩,hlm⟩
theorem Ru (t:Tb P w K mg base G) {g:af} {f:aa} {cdv:a9} {env:dj} (hm:mg g=a3 (.ref f)) (hcv:Rg K f cdv) (hq:env.qual=g ++ ".<locals>.") (hc:env.code=cdv):∀x∈Z9,env.qual=x ++ ".<locals>."->∃c P,env.code=.ref c/\W.codeHdIn K c P=a5/\W.tabIn K x=a3 (c,P):=λx hx e=>by have eg:=Ue (hq.symm.trans e);subst eg;rw[hc];exact t.lm _ hx f cdv hm hcv
noncomputable def lv:Nat->Nat
 |0=>12
 |n+1=>lv n+2
theorem Yr:∀n,12<=lv n+1
 |0=>by decide
 |n+1=>by have:=Yr n;unfold lv;omega
theorem Bc(hT:∀x F,T x=a3 F->LkF P w K mg base x F)(t:Tb P w K mg base G):∀(n:Nat)(x:af)(ds:List D),
  ∃(f:aa)(fd:aN)(ps:List af),match evP fu G T n x ds with
   |.val d=>FnOk P w K mg base CX0 (lv n) f fd ps (spP K λds' d'=>ds'=ds/\d'=d)/\mg x=a3 (.ref f)/\W.keepIn K (.ref f)=a5/\Binds K fd ps []/\Dfl K x fd ps
   |.fresh l=>FnOk P w K mg base CX0 (lv n) f fd ps (spF K λds' l'=>ds'=ds/\l'=l)/\mg x=a3 (.ref f)/\W.keepIn K (.ref f)=a5/\Binds K fd ps []/\Dfl K x fd ps
   |.err y=>FnOk P w K mg base (CX1 P w) (lv n) f fd ps (spX K mg λds' z=>ds'=ds/\z=y)/\mg x=a3 (.ref f)/\W.keepIn K (.ref f)=a5/\Binds K fd ps []
   |.lval d=>∀y,x=q8 y->Kl P w K mg base (lv n) y λds' d'=>ds'=ds/\d'=d
   |.no=>True
 |0,x,ds=>⟨0,W.fnOf x x { posonlyargs:=[],args:=[],vararg:=a6,kwonlyargs:=[],kw_defaults:=[],kwarg:=a6,defaults:=[] } [] { kind:=.function,names:=[],isGenerator:=a4,isCoroutine:=a4 } .none .none .none .none a6 .none .none,[],trivial⟩
 |n+1,x,ds=>by
  have ih:=Bc hT t n;cases hF:T x with
  |none =>
   obtain⟨f,fd,ps,_⟩:=ih x ds;refine⟨f,fd,ps,?_⟩;have e:evP fu G T (n+1) x ds=.no:=by simp only[evP,hF]
   rw[e];trivial
  |some F =>
   have gok:∀{X:Cx},X.prog=P->X.w=w->X.K=K->X.mg=mg->X.base=base->Room (lv n+1) X.A->Gok X (evP fu G T n):=λ{X} h1 h2 h3 h4 h5 hr g ds'=>by
    subst h1 h2 h3 h4 h5;obtain⟨f',fd',ps',q⟩:=ih g ds';cases z:evP fu G T n g ds' with
    |val d=>rw[z]at q;exact⟨lv n,f',fd',ps',q.1,hr,q.2.1,q.2.2.1,q.2.2.2⟩
    |fresh l=>rw[z]at q;exact⟨lv n,f',fd',ps',q.1,hr,q.2.1,q.2.2.1,q.2.2.2⟩
    |err y=>rw[z]at q;exact⟨lv n,f',fd',ps',q.1,hr.mono (Td _),q.2.1,q.2.2.1,q.2.2.2⟩
    |lval d=>rw[z]at q;exact λy hy=>⟨lv n,hr.mono (Td _),q y hy⟩
    |no=>trivial
   cases hlam:F.lam with
   |true =>
    obtain⟨f,fd,ps,_⟩:=ih x ds;refine⟨f,fd,ps,?_⟩;by_cases hl:ds.length=F.n
    .have e:evP fu G T (n+1) x ds=j3h (fin (run fu (evP fu G T n) G F.body (enter F ds))):=by simp only[evP,hF,if_pos hl,hlam,if_true]
     rw[e];obtain⟨y,ey,L⟩:=(hT x F hF).2 hlam;obtain⟨tx,N,ps,ex,htx,hsc,hN,hnn,hbd,hba,htr⟩:=L.ex;cases ho:fin (run fu (evP fu G T n) G F.body (enter F ds)) with
     |val d =>intro y' hy';have eyy:y=y':=j7w (ey.symm.trans hy');subst eyy;refine jes (k:=lv n+1) htx hsc (λds' d' h=>by rw[h.1,hl,hN]) hba λa c cl A outer s H hcl hr ds' d' ⟨e1,e2⟩=>?_;subst e1 e2;have ab:j8 (qz N ds')=enter F ds':=W3 hl (by rw[hN,hnn]);rw[hbd,<-ab]at ho;obtain⟨r,er,ed⟩:=jdk ho;exact ed▸(sound (htr a c cl A outer s H) (Ye t rfl rfl rfl rfl rfl (Yr _) hr hsc.nd bj λz hz hq=>absurd (Ue hq▸hz) (j3i y)) (gok rfl rfl rfl rfl rfl hr) (qz N ds') r er).toT
     |fresh l=>trivial
     |err z=>trivial
     |lval z=>trivial
     |no=>trivial
    .have e:evP fu G T (n+1) x ds=.no:=by simp only[evP,hF,if_neg hl]
     rw[e];trivial
   |false =>
   obtain⟨st,f,fd,N,ps,hfun,hsc,hps,hN,hb,hdf,hm,hts⟩:=((hT x F hF).1 hlam).1.ex;refine⟨f,fd,ps,?_⟩;by_cases hl:ds.length=F.n
   .have e:evP fu G T (n+1) x ds=fin (run fu (evP fu G T n) G F.body (enter F ds)):=by simp only[evP,hF,if_pos hl,hlam,Pa,if_false]
    have ab:j8 (qz N ds)=enter F ds:=W3 hl hN;cases ho:run fu (evP fu G T n) G F.body (enter F ds) with
    |next ρ' =>rw[e,ho];refine⟨De (k:=lv n+1) hfun hsc (λds' d' h=>by rw[h.1,hl,hps]) λcdv A outer s H E hcv hr ds' d' ⟨e1,e2⟩=>?_,hm,hfun.kp,hb,hdf⟩;subst e1 e2;refine Vw (fu:=fu) (hts cdv A outer s H E _) (Ye t rfl rfl rfl rfl rfl (Yr _) hr hsc.nd bj (Ru t hm hcv rfl rfl)) (gok rfl rfl rfl rfl rfl hr) (qz N ds') _ ?_;rw[ab,ho];exact λ_ _=>rfl
    |ret r =>
     rw[e,ho];cases r with
     |no=>trivial
     |lval d=>exact λy hy=>absurd (hy▸Cm y) ((hT x F hF).1 hlam).2
     |err y =>refine⟨j5o (k:=lv n+1) hfun hsc (λds' d' h=>by rw[h.1,hl,hps]) λcdv A outer s H E hcv hr ds' y' ⟨e1,e2⟩=>?_,hm,hfun.kp,hb⟩;subst e1 e2;refine Vw (X:=zu (CX1 P w) P w K mg base N x (j9 st) f cdv A outer s H E) (fu:=fu) (hts cdv A outer s H E (zu (CX1 P w) P w K mg base N x (j9 st) f cdv A outer s H E).xe) (Ye t rfl rfl rfl rfl rfl (Yr _) hr hsc.nd gG (Ru t hm hcv rfl rfl)) (gok rfl rfl rfl rfl rfl hr) (qz N ds') _ ?_;rw[ab,ho];intro z hz;cases z<;>cases hz
     |val d =>
      refine⟨De (k:=lv n+1) hfun hsc (λds' d' h=>by rw[h.1,hl,hps]) λcdv A outer s H E hcv hr ds' d' ⟨e1,e2⟩=>?_,hm,hfun.kp,hb,hdf⟩;subst e1 e2;refine Vw (fu:=fu) (hts cdv A outer s H E _) (Ye t rfl rfl rfl rfl rfl (Yr _) hr hsc.nd bj (Ru t hm hcv rfl rfl)) (gok rfl rfl rfl rfl rfl hr) (qz N ds') _ ?_;rw[ab,ho];intro y hy;cases y with
      |val d=>cases hy;rfl
      |fresh l=>cases hy
     |fresh l =>
      refine⟨j88 (k:=lv n+1) hfun hsc (λds' d' h=>by rw[h.1,hl,hps]) λcdv A outer s H E hcv hr ds' d' ⟨e1,e2⟩=>?_,hm,hfun.kp,hb,hdf⟩;subst e1 e2;refine Vw (fu:=fu) (hts cdv A outer s H E _) (Ye t rfl rfl rfl rfl rfl (Yr _) hr hsc.nd bj (Ru t hm hcv rfl rfl)) (gok rfl rfl rfl rfl rfl hr) (qz N ds') _ ?_;rw[ab,ho];intro y hy;cases y with
      |val d=>cases hy
      |fresh l=>cases hy;rfl
    |err y ρ' =>rw[e,ho];refine⟨j5o (k:=lv n+1) hfun hsc (λds' d' h=>by rw[h.1,hl,hps]) λcdv A outer s H E hcv hr ds' y' ⟨e1,e2⟩=>?_,hm,hfun.kp,hb⟩;subst e1 e2;refine Vw (X:=zu (CX1 P w) P w K mg base N x (j9 st) f cdv A outer s H E) (fu:=fu) (hts cdv A outer s H E (zu (CX1 P w) P w K mg base N x (j9 st) f cdv A outer s H E).xe) (Ye t rfl rfl rfl rfl rfl (Yr _) hr hsc.nd gG (Ru t hm hcv rfl rfl)) (gok rfl rfl rfl rfl rfl hr) (qz N ds') _ ?_;rw[ab,ho];exact λ_ _=>rfl
    |brk _=>rw[e,ho];trivial
    |cnt _=>rw[e,ho];trivial
    |no=>rw[e,ho];trivial
   .have e:evP fu G T (n+1) x ds=.no:=by simp only[evP,hF,if_neg hl]
    rw[e];trivial
end
noncomputable def Gof(gs:List (af×D))(q:Bool)(xs:List (af×List D))(fs:List af)(x:af):Option D :=
 if Vc x=a5 then(if x = "?" then(if q=a5 then a3 (.bl a5)else a6) else((xs.find? λp=>bang p.1==x).map λp=>.lst p.2).or (if (fs.any λf=>qm f==x)=a5 then a3 .non else a6))else gs.lookup x
theorem j90{x y:af}(h:bang x=bang y):x=y:=by unfold bang at h;have h:(⟨("!":af).cps++x.cps⟩:af)=⟨("!":af).cps++y.cps⟩:=h;have h:=congrArg kM h;have e:x.cps=y.cps:=gE h rfl;cases x;cases y;cases e;rfl
theorem j1c(x:af):Vc (bang x)=a5:=by unfold Vc;rw[Ra];rfl
theorem j6f(x:af):Vc (qm x)=a5:=by unfold Vc;rw[j1i];rfl
theorem j05{gs:List (af×D)}{q:Bool}{xs:List (af×List D)}{fs:List af}{x:af}{d:D}(h:Gof gs q xs fs (bang x)=a3 d):∃p∈xs,p.1=x/\d=.lst p.2:=by
 unfold Gof at h;rw[if_pos (j1c x),if_neg (j2g x)]at h;have hn:(fs.any λf=>qm f==bang x)=a4:=by rw[List.any_eq_false];intro f _ e;exact j2f x f (beq_iff_eq.mp e).symm
 rw[hn,if_neg (by decide),Option.or_none]at h;obtain⟨p,hp,rfl⟩:=Xu.mp h;have z:=List.find?_some (p:=λp:af×List D=>bang p.1==bang x) hp;exact⟨p,List.mem_of_find?_eq_some hp,j90 (beq_iff_eq.mp z),rfl⟩
theorem j5m{gs:List (af×D)}{q:Bool}{xs:List (af×List D)}{fs:List af}{x:af}{d:D}(h:Gof gs q xs fs (qm x)=a3 d):x∈fs:=by
 unfold Gof at h;rw[if_pos (j6f x),if_neg (j31 x)]at h;have hn:(xs.find? λp=>bang p.1==qm x)=a6:=by rw[List.find?_eq_none];intro p _ e;exact j2f p.1 x (beq_iff_eq.mp e)
 rw[hn,Option.map_none,Option.none_or]at h;split at h
 .rename_i z;obtain⟨f,hf,e⟩:=List.any_eq_true.mp z;exact jds (beq_iff_eq.mp e)▸hf
 .cases h
theorem jhb{P:au}{w:aA}{K:k90}{mg:k93}{base:aD}{gs:List (af×D)}{q:Bool}{xs:List (af×List D)}{fs:List af}(bt:∀x∈Yi,mg x=a6)
  (gl:∀x d,gs.lookup x=a3 d->∃u v,mg x=a3 u/\RelV v u/\∀H,Enc K H d v) (ea:Qi K=a5) (hx:∀p∈xs,p.1∈jt/\∃o,W.nsIn K ak p.1=a3 (a3 o))
  (el:q=a5->∀c∈jt,∃v,W.nsIn K ak c=a3 (a3 v)) (kin:K.In base) (ns:base.Ns ak mg) (fn:∀f∈fs,∃fa,mg f=a3 (.ref fa)/\W.keepIn K (.ref fa)=a5) (kd:∀p∈xs,KindsP P w K mg base "_law_kinds" p.1 p.2) (lm:∀x∈Z9,∀f cdv,mg x=a3 (.ref f)->Rg K f cdv->∃c Pt,cdv=.ref c/\W.codeHdIn K c Pt=a5/\W.tabIn K x=a3 (c,Pt)) (pl:("_law_plan":af)∈fs->j6i P w K mg base:=by exact λh=>absurd h (by decide)):Tb P w K mg base (Gof gs q xs fs):=by
 refine⟨bt,λx d hb h=>?_,ea,λx d h=>?_,λh=>el ?_,kin,ns,λx l h=>?_,λf d h=>fn f (j5m h),λd h=>pl (j5m h),lm⟩
 .unfold Gof at h;rw[if_neg (by rw[hb];decide)]at h;exact gl x d h
 .obtain⟨p,hp,rfl,_⟩:=j05 h;exact hx p hp
 .unfold Gof at h;rw[if_pos (by decide),if_pos rfl]at h;split at h
  .rename_i z;exact z
  .cases h
 .obtain⟨p,hp,rfl,e⟩:=j05 h;cases e;exact kd p hp
def K8(K:k90):Sp:=λvs H Q _=>∃(a:aa)(ns:List Int),vs=[.ref a]/\TabOk K H/\SqL K H a (ns.map V.int)/\ns.length<=63/\∀H':Hp,j0 H H'->Q (.bl a5) H'
theorem j17{K:k90}{H:Hp}{a:aa}{ns:List Int}(h:SqL K H a (ns.map V.int)):j5 K H [.lst (ns.map D.int)] [.ref a] :=
 ⟨_,[],rfl,⟨a,_,rfl,h,j5.ints ns⟩,rfl⟩
theorem jer{P:au}{w:aA}{K:k90}{mg:k93}{base:aD}{fu:Nat}{G:af->Option D}{T:af->Option Fi}{n:Nat}{x p:af}{fa:aa}{st:aS}{F:Fi}
  (hT:∀x F,T x=a3 F->LkF P w K mg base x F) (t:Tb P w K mg base G)
  (hx:T x=a3 F) (hlam:F.lam=a4) (hm:mg x=a3 (.ref fa)) {fd:aN} (hfun:Fun K x x st fa fd) (N:List af) (hsc:FnScope N [p] (j9 st)) (h1:F.n=1) (hN:N.length=F.nn)
  (hts:∀(cdv:a9)(A:aB)(outer:List dj)(s:ae)(H:Hp)(E:XK)(xe:k91),Ts ((zu CX0 P w K mg base N x (j9 st) fa cdv A outer s H E).wish xe) F.body (.ss (jy st)))
  (hlaw:∀ns:List Int,ns.length<=63->evP fu G T (n+1) x [.lst (ns.map D.int)]=.val (.bl a5)):FnOk P w K mg base CX0 (lv (n+1)) fa fd [p] (K8 K):=by
 have S:FnOk P w K mg base CX0 (lv (n+1)) fa fd [p] (spP K λds d=>∃ns:List Int,ns.length<=63/\ds=[.lst (ns.map D.int)]/\d=.bl a5):=by
  refine De (k:=lv n+1) hfun hsc (λds d ⟨ns,_,h,_⟩=>by rw[h];rfl) λcdv A outer s H E hcv hr ds d ⟨ns,hns,e1,e2⟩=>?_;subst e1 e2;have e:=hlaw ns hns;simp only[evP,hx,h1,hlam,Pa,if_false,xq,Te,if_true]at e;have ab:j8 (qz N [D.lst (ns.map D.int)])=enter F [D.lst (ns.map D.int)]:=W3 (by rw[h1];rfl) hN;have g:Gok (zu CX0 P w K mg base N x (j9 st) fa cdv A outer s H E).nox (evP fu G T n):=λg ds'=>by
   obtain⟨f',fd',ps',q⟩:=Bc (fu:=fu) hT t n g ds';cases z:evP fu G T n g ds' with
   |val d=>rw[z]at q;exact⟨lv n,f',fd',ps',q.1,hr,q.2.1,q.2.2.1,q.2.2.2⟩
   |fresh l=>rw[z]at q;exact⟨lv n,f',fd',ps',q.1,hr,q.2.1,q.2.2.1,q.2.2.2⟩
   |err y=>rw[z]at q;exact⟨lv n,f',fd',ps',q.1,hr.mono (Td _),q.2.1,q.2.2.1,q.2.2.2⟩
   |lval d=>rw[z]at q;exact λy hy=>⟨lv n,hr.mono (Td _),q y hy⟩
   |no=>trivial
  refine Vw (fu:=fu) (hts cdv A outer s H E _) (Ye t rfl rfl rfl rfl rfl (Yr _) hr hsc.nd bj (Ru t hm hcv rfl rfl)) g (qz N _) _ ?_;rw[ab];cases ho:run fu (evP fu G T n) G F.body (enter F [D.lst (ns.map D.int)]) with
  |ret r =>
   rw[ho]at e;have e:r=.val (.bl a5):=e;subst e;intro y hy;cases y with
   |val d=>cases hy;rfl
   |fresh l=>cases hy
  |next ρ'=>rw[ho]at e;cases e
  |brk _=>rw[ho]at e;cases e
  |cnt _=>rw[ho]at e;cases e
  |err _ _=>rw[ho]at e;cases e
  |no=>rw[ho]at e;cases e
 refine S.imp λvs H Q E ⟨a,ns,hv,tb,hS,hl,k⟩=>?_;subst hv;exact⟨[],_,_,tb,(λa h=>nomatch h),by rw[vz];exact j17 hS,⟨ns,hl,rfl,rfl⟩,λv H' g e=>by cases(show v=.bl a5 from e);exact k H' g⟩
noncomputable def K7(K:k90):List (aa×af):=Z9.filterMap λx=>(W.tabIn K x).map λq=>(q.2,q8 x)
noncomputable def tOk(K:k90)(ts:List aa):Bool:=(Z9.all λx=>match W.nsIn K ak x with
  |some a6=>a5
  |_=>match W.tabIn K x with
   |some (c,P)=>W.codeHdIn K c P&&ts.contains P
   |none=>a4)&&W.noTabs K&&decide ((K7 K).map (·.1)).Nodup
theorem ja8{K:k90}{ts:List aa}{h:aD}(hk:tOk K ts=a5)(X:K.In h)(ht:∀P∈ts,h.get? P=a3 (W.tabObj #[])):j94 (K7 K) h:=by
 unfold tOk at hk;rw[Xg,Xg]at hk;refine⟨of_decide_eq_true hk.2,λt hm=>?_⟩;obtain⟨x,hx,e⟩:=t6.mp hm;obtain⟨⟨c,P⟩,e1,e2⟩:=Xu.mp e;subst e2;have z:=Pb.mp hk.1.1 x hx;split at z
 .rename_i y;exfalso;unfold W.tabIn at e1;rw[y]at e1;cases e1
 .rw[e1]at z;have z:(W.codeHdIn K c P&&ts.contains P)=a5:=z;rw[Xg]at z;exact⟨⟨c,W.codeHd_of_K X z.1⟩,ht P (by simpa using z.2)⟩
theorem ji4{K:k90}{ts:List aa}{h:aD}{mg:k93}(hk:tOk K ts=a5)(X:K.In h)(Gn:h.Ns ak mg):∀x∈Z9,∀f cdv,mg x=a3 (.ref f)->Rg K f cdv->∃c Pt,cdv=.ref c/\W.codeHdIn K c Pt=a5/\W.tabIn K x=a3 (c,Pt):=λx hx f cdv hm hcv=>by
 unfold tOk at hk;rw[Xg,Xg]at hk;have z:=Pb.mp hk.1.1 x hx;split at z
 .rename_i y;rw[W.mg_none_of X Gn y]at hm;cases hm
 .split at z
  .rename_i c P e;rw[Xg]at z;refine⟨c,P,?_,z.1,e⟩;obtain⟨oc,od,fd,sl,e3,e4⟩:=hcv;unfold W.tabIn at e;split at e
   .rename_i f' hf;have e5:=W.mg_of X Gn hf;rw[hm]at e5;cases e5;rw[e3]at e;dsimp only at e;split at e
    .rename_i c' hc;split at e
     .split at e
      .cases e;rw[<-e4];exact hc
      .cases e
     .cases e
    .cases e
   .cases e
  .cases z
theorem jd1{K:k90}{H:Hp}(hO:Only (K7 K) H):TabOk K H:=λx hx c P e=>hO.2 (P,q8 x) (t6.mpr ⟨x,hx,by rw[e];rfl⟩)
theorem j50{K:k90}{ts:List aa}(hk:tOk K ts=a5):W.noTabs K=a5:=by unfold tOk at hk;rw[Xg,Xg]at hk;exact hk.1.2
theorem walkL{l:d6}{q:au}{loose:List af}{XP:(af->Option a9)->aD->Prop}{YP:aA->aD->Prop}{d:DefRec}{K:lZ->k90}{k:Nat}{x:af}{ts:List aa}(hk:k<=100)(hn:l.most=a3 63)(hdf:d.params.defaults=[])
  (hY:∀(w:aA)(h:aD),YP w h->(K w.params).In h/\∀P∈ts,h.get? P=a3 (W.tabObj #[])) (hK:∀w:aA,tOk (K w.params) ts=a5)
  (F:∀(w:aA)(mg:k93)(fa:aa)(h:aD),(K w.params).In h->h.Ns ak mg->mg d.name=a3 (.ref fa)->tOk (K w.params) ts=a5 ->
   ∃fd:aN,(∀(s:ae)(u:a9),fV s fd ⟨[u],[]⟩ [(x,u)])/\∀base:aD,(K w.params).In base->base.Ns ak mg->FnOk l.prog w (K w.params) mg base CX0 k fa fd [x] (K8 (K w.params))) :
  iw q loose XP YP l.row.toRowW d [] (λf vs=>iD f vs) :=
 L2.walk_of (n:=63) (k:=k) (x:=x) (CX:=λ_=>CX0) (sp:=λw=>K8 (K w.params)) (ts:=λw=>K7 (K w.params)) hn (by decide) hdf
  (Room.mono (k:=100) ⟨rfl,by decide,by decide⟩ hk) (λw h Y=>⟨(hY w h Y).1,ja8 (hK w) (hY w h Y).1 (hY w h Y).2⟩) (λw=>j50 (hK w)) (λw mg fa h X G m=>F w mg fa h X G m (hK w)) (λw H a ns hl hO hS=>⟨a,ns,rfl,jd1 hO,hS,hl,λH' g=>⟨rfl,g⟩⟩) λ_ _ _ _ _ z=>z
def Lf(K:k90)(x:af)(st:aS):Prop:=∃(f:aa)(oc:a9)(od:Option aa)(kV dc pm:a9)(an:Option aa)(cd ct:a9)(sl:Array (Option a9)),W.nsIn K ak x=a3 (a3 (.ref f)) /\
 K.lookup f=a3 ⟨oc,od,.func (W.fnOf x x (J0 st) (jy st) (j9 st) .none kV dc pm an cd ct),sl⟩/\W.codeIn K cd x=a5/\W.keepIn K (.ref f)=a5
def TrT(P:au)(w:aA)(K:k90)(mg:k93)(base:aD)(x:af)(N:List af)(st:aS)(b:Sx):Prop :=
 ∀(f:aa)(cdv:a9)(A:aB)(outer:List dj)(s:ae)(H:Hp)(E:XK) (xe:k91),Ts ((zu CX0 P w K mg base N x (j9 st) f cdv A outer s H E).wish xe) b (.ss (jy st))
def TrH(P:au)(w:aA)(K:k90)(mg:k93)(base:aD)(x:af)(N:List af)(st:aS)(b:Sx):Prop :=
 ∀(f:aa)(cdv:a9)(A:aB)(outer:List dj)(s:ae)(H:Hp),Ts { (zu CX0 P w K mg base N x (j9 st) f cdv A outer s H E0).nox with calm:=a4 } b (.ss (jy st))
noncomputable def lamT(st:aS):Tx:=(Fv (jy st)).getD ({ posonlyargs:=[],args:=[],vararg:=a6,kwonlyargs:=[],kw_defaults:=[],kwarg:=a6,defaults:=[] },.Name "" ⟨0,0,0,0⟩,{ kind:=.function,names:=[],isGenerator:=a4,isCoroutine:=a4 })
def TrL(P:au)(w:aA)(K:k90)(mg:k93)(base:aD)(x:af)(N:List af)(t:Tx)(e:Ex):Prop :=
 ∀(a c:aa)(cl:List (af×aa)) (A:aB) (outer:List dj) (s:ae) (H:Hp),Tr (Yu P w K mg base N (q8 x) t.2.2 a (.ref c) cl A outer s H) e (.e t.2.1)
theorem jbh{sc:b9}(x:af)(h:sc.names.lookup x=a3 .free):x∈J5 sc:=by unfold J5;rw[List.mem_reverse];exact X8.mpr ⟨(x,.free),Xy.mpr ⟨lookup_mem h,rfl⟩,rfl⟩
noncomputable def bOk(K:k90):Bool:=Yi.all λx=>match W.nsIn K ak x with
 |some a6=>a5
 |_=>a4
noncomputable def xOk(K:k90):Bool:=jt.all λx=>match W.nsIn K ak x with
 |some (a3 _)=>a5
 |_=>a4
section
variable{P:au}{w:aA}{K:k90}{mg:k93}{base h:aD}{x:af}{st:aS}{N ps:List af}{F:Fi}
theorem jit(X:K.In h)(Gn:h.Ns ak mg)(hb:bOk K=a5):∀x∈Yi,mg x=a6:=λx hx=>by
 have z:=Pb.mp hb x hx;split at z
 .rename_i e;exact W.mg_none_of X Gn e
 .cases z
theorem jiq(hx:xOk K=a5):∀c∈jt,∃v,W.nsIn K ak c=a3 (a3 v):=λc hc=>by
 have z:=Pb.mp hx c hc;split at z
 .rename_i v e;exact⟨v,e⟩
 .cases z
theorem qg(L:Lf K x st)(X:K.In h)(Gn:h.Ns ak mg)(t:TrT P w K mg base x N st F.body)(ps:List af)(sc:FnScope N ps (j9 st))(h1:ps.length=F.n)(h2:N.length=F.nn)
  (hb:∀(kV doc pm:a9)(an:Option aa)(cdv ct:a9)(us:List a9),us.length=ps.length->dE (W.fnOf x x (J0 st) (jy st) (j9 st) .none kV doc pm an cdv ct) ⟨us,[]⟩=pure (ps.zip us)) (hd:x∉jg3):Lk P w K mg base x F:=by
 obtain⟨f,oc,od,kV,dc,pm,an,cd,ct,sl,a,l,c,k⟩:=L;exact⟨st,f,_,N,ps,Wo l c k,sc,h1,h2,(Wo l c k).binds hb,λz=>absurd z hd,W.mg_of X Gn a,t f⟩
theorem jeq{p:af}(L:Lf K x st)(X:K.In h)(Gn:h.Ns ak mg)(t:TrH P w K mg base x N st F.body)(sc:FnScope N [p] (j9 st))(h1:1<=N.length)(h2:N.length=F.nn)
  (hb:∀(kV doc pm:a9)(an:Option aa)(cdv ct:a9)(us:List a9),us.length=[p].length->dE (W.fnOf x x (J0 st) (jy st) (j9 st) .none kV doc pm an cdv ct) ⟨us,[]⟩=pure ([p].zip us)):LkH P w K mg base x F:=by
 obtain⟨f,oc,od,kV,dc,pm,an,cd,ct,sl,a,l,c,k⟩:=L;exact⟨st,f,_,N,p,Wo l c k,sc,h1,h2,(Wo l c k).binds hb,W.mg_of X Gn a,t f⟩
theorem Ey(L:Lf K x st):V5 K x=Fv (jy st):=by obtain⟨f,oc,od,kV,dc,pm,an,cd,ct,sl,a,l,c,k⟩:=L;unfold V5;rw[a];dsimp only;rw[l]
theorem lkF(L:Lk P w K mg base x F)(h:F.lam=a4)(hn:x.cps.toList.getLast?≠a3 62):LkF P w K mg base x F:=⟨λ_=>⟨L,hn⟩,λz=>by rw[h]at z;cases z⟩
theorem jep{e:Ex}{q:af}(hq:q=q8 x)(h:V5 K x=Fv (jy st))(ht:Fv (jy st)=a3 (lamT st))(tr:TrL P w K mg base x N (lamT st) e)(ps:List af)(sc:LamScope N ps (lamT st).2.2)(h1:N.length=F.n)(h2:F.nn=F.n)(hb:F.body=.ret e)(hl:F.lam=a5)
  (ha:∀(cl:List (af×aa)) (pm:a9) (c:aa) (ctv:a9) (us:List a9),us.length=ps.length->dE (W.kla_fn "<lambda>" (q8 x) (lamT st).1 (lamT st).2.1 (lamT st).2.2 cl pm (.ref c) ctv) ⟨us,[]⟩=pure (ps.zip us)):LkF P w K mg base q F :=
 ⟨λz=>by(rw[hl]at z;cases z),λ_=>⟨x,hq,⟨lamT st,N,ps,e,h.trans ht,sc,h1,h2,hb,ha,tr⟩⟩⟩
theorem us1{us:List a9}(h:us.length=1):∃a,us=[a]:=by match us,h with|[a],_=>exact⟨a,rfl⟩
theorem us2{us:List a9}(h:us.length=2):∃a b,us=[a,b]:=by match us,h with|[a,b],_=>exact⟨a,b,rfl⟩
theorem us3{us:List a9}(h:us.length=3):∃a b c,us=[a,b,c]:=by match us,h with|[a,b,c],_=>exact⟨a,b,c,rfl⟩
theorem us4{us:List a9}(h:us.length=4):∃a b c d,us=[a,b,c,d]:=by match us,h with|[a,b,c,d],_=>exact⟨a,b,c,d,rfl⟩
theorem us5{us:List a9}(h:us.length=5):∃a b c d e,us=[a,b,c,d,e]:=by match us,h with|[a,b,c,d,e],_=>exact⟨a,b,c,d,e,rfl⟩
end
theorem lf_mk{K:k90}{x:af}{st:aS}{f:aa}{oc:a9}{od:Option aa}{kV dc pm:a9}{an:Option aa}{cd ct:a9}{sl:Array (Option a9)}(a:W.nsIn K ak x=a3 (a3 (.ref f)))
  (l:K.lookup f=a3 ⟨oc,od,.func (W.fnOf x x (J0 st) (jy st) (j9 st) .none kV dc pm an cd ct),sl⟩) (c:W.codeIn K cd x=a5) (k:W.keepIn K (.ref f)=a5):Lf K x st:=⟨f,oc,od,kV,dc,pm,an,cd,ct,sl,a,l,c,k⟩
end L2
end
section
namespace L2
open PySem (Str sizeLine argBest)
theorem vg{n:Nat}(h:n<=1000000):n<=aj:=Xk h (by decide)
theorem lt_size{n:Nat}(h:n<=1000000):n<aj:=bZ h (by decide)
noncomputable def Nx(o:So)(f:En->So):So:=match o with
 |.next ρ=>f ρ
 |o=>o
noncomputable def ifS(c:Option Bool)(f g:En->So)(ρ:En):So:=match c with
 |some a5=>f ρ
 |some a4=>g ρ
 |none=>.no
noncomputable def M5(is:List Nat)(f:En->So)(d:D)(ρ:En):So:=match qy is d ρ with
 |some ρ2=>f ρ2
 |none=>.no
noncomputable def j9k(is:List Nat)(w:Option W)(f:En->So)(ρ:En):So:=match w with
 |some (.i ds)=>Jx (M5 is f) ds ρ
 |_=>.no
section
variable{fu:Nat}{Γ:af->List D->Rc}{G:af->Option D}{ρ:En}{i j:Nat}{e c k:Ex}{a b:Sx}{is:List Nat}
theorem jah:run fu Γ G .nop ρ=.next ρ:=(rfl)
theorem jaf:run fu Γ G (.seq a b) ρ=Nx (run fu Γ G a ρ) (run fu Γ G b):=(rfl)
theorem jae:run fu Γ G (.set i e) ρ=orE (Mv i (ev Γ G e ρ) ρ) (er Γ G e ρ) ρ:=(rfl)
theorem jai:run fu Γ G (.mov i j) ρ=Et i j ρ[j]? ρ:=(rfl)
theorem j75:run fu Γ G (.expr e) ρ=orE (Dh (ev Γ G e ρ) ρ) (er Γ G e ρ) ρ:=(rfl)
theorem jag:run fu Γ G (.ret e) ρ=orE (retS (ev Γ G e ρ)) (er Γ G e ρ) ρ:=(rfl)
theorem j7h{ρ':En}{x:Option af}:orE (.next ρ') x ρ=.next ρ':=(rfl)
theorem j1o{r:Rc}{x:Option af}:orE (.ret r) x ρ=.ret r:=(rfl)
theorem jb3{y:af}:orE .no (a3 y) ρ=.err y ρ:=(rfl)
theorem jfh:Dh a6 ρ=.no:=(rfl)
noncomputable def erR(G:af->Option D):Rc->Option af
 |.err x=>if (G (bang x)).isSome=a5 then a3 x else a6
 |_=>a6
noncomputable def erC(Γ:af->List D->Rc)(G:af->Option D)(f:af)(w:Option W):Option af:=match w with
 |some (.a rs)=>erR G (Γ f (rs.map Rk.d))
 |_=>a6
theorem jfu:ev Γ G (.fst e) ρ=Ob (ev Γ G e ρ):=(rfl)
theorem jfe{rs:List Rk}{ys:List af}(h:rs.length<=1000)(h2:Jc rs=a3 ys):Ob (a3 (.a rs))=a3 (.v (.e (.str (Bl fA ys)))):=by unfold Ob;dsimp only;rw[if_pos h,h2];rfl
noncomputable def erK(Γ:af->List D->Rc)(G:af->Option D)(f:af)(x:Option af)(w:Option W):Option af:=match x with
 |some x=>if (G (qm f)).isSome=a5 then a3 x else a6
 |none=>erC Γ G f w
theorem Rx{f:af}:er Γ G (.call f e) ρ=erK Γ G f (er Γ G e ρ) (ev Γ G e ρ):=by
 rw[er];cases er Γ G e ρ with
 |some x=>rfl
 |none =>
  cases h:ev Γ G e ρ with
  |none=>rfl
  |some w =>
   cases w with
   |v _=>rfl
   |i _=>rfl
   |a rs =>show(match Γ f (rs.map Rk.d)with|.err x=>_|_=>_)=erR G (Γ f (rs.map Rk.d));cases Γ f (rs.map Rk.d)<;>rfl
theorem Kg{f:af}{w:Option W}:erK Γ G f a6 w=erC Γ G f w:=(rfl)
noncomputable def erN(a:Option af)(w:Option W)(b:Option af):Option af:=match a with
 |some x=>a3 x
 |none=>match w with
  |some (.v _)=>b
  |_=>a6
theorem Rw{b:Ex}:er Γ G (.cons e b) ρ=erN (er Γ G e ρ) (ev Γ G e ρ) (er Γ G b ρ):=by rw[er];rfl
theorem Yt{r:Rk}{b:Option af}:erN a6 (a3 (.v r)) b=b:=(rfl)
theorem Bt:er Γ G .nil ρ=a6:=(rfl)
theorem Bs:er Γ G (.var i) ρ=a6:=(rfl)
theorem Bu{f:af}{rs:List Rk}:erC Γ G f (a3 (.a rs))=erR G (Γ f (rs.map Rk.d)):=(rfl)
theorem Kf{x:af}(h:(G (bang x)).isSome=a5):erR G (.err x)=a3 x:=if_pos h
theorem j4f{x:af}:run fu Γ G (.raise x e) ρ=Ef x (ev Γ G e ρ) (G (bang x)) ρ:=(rfl)
noncomputable def j6n(i j:Nat)(G:af->Option D)(o:So):So:=match o with
 |.err x ρ'=>match G (bang x) with
  |some (.lst l)=>.next (((ρ'.set j (.exc x)).set i (.own l)).set j .un)
  |_=>.no
 |o=>o
theorem j6z:run fu Γ G (.tryK a i j) ρ=j6n i j G (run fu Γ G a ρ):=(rfl)
theorem Ks{x:af}{l:List D}{ρ':En}(h:G (bang x)=a3 (.lst l)):j6n i j G (.err x ρ')=.next (((ρ'.set j (.exc x)).set i (.own l)).set j .un):=by unfold j6n;dsimp only;rw[h]
theorem j70:run fu Γ G (.retV i) ρ=Rm ρ[i]?:=(rfl)
theorem jaj:run fu Γ G (.ife c a b) ρ=ifS (truth (ev Γ G c ρ)) (run fu Γ G a) (run fu Γ G b) ρ:=(rfl)
theorem j72:run fu Γ G (.loop is e a) ρ=j9k is (ev Γ G e (frz e ρ)) (run fu Γ G a) (frz e ρ):=(rfl)
theorem jal:run fu Γ G (.app i e) ρ=Rb i ρ[i]? (ev Γ G e ρ) ρ:=(rfl)
theorem jak:run fu Γ G (.ext i e) ρ=Dg i ρ[i]? (ev Γ G e ρ) ρ:=(rfl)
theorem jd4{d:D}:stOf (a3 (.v (.e d)))=a3 d:=(rfl)
theorem j77:zm Γ G .nop ρ=a3 ρ:=(rfl)
theorem j76{i:Nat}{e:Ex}{b:Sx}{d:D}(h:stOf (ev Γ G e ρ)=a3 d):zm Γ G (.seq (.set i e) b) ρ=zm Γ G b (ρ.set i (.val d)):=by simp only[zm,h]
theorem j78{c:Ex}{a b r:Sx}{k:Bool}{ρ1:En}(h:truth (ev Γ G c ρ)=a3 k)(h1:zm Γ G (if k=a5 then a else b) ρ=a3 ρ1):zm Γ G (.seq (.ife c a b) r) ρ=zm Γ G r ρ1:=by
 cases k with
 |true=>rw[if_pos rfl]at h1;simp only[zm,h,h1]
 |false=>rw[if_neg xg]at h1;simp only[zm,h,h1]
theorem j73{k p f:Nat}{b r:Sx}:run fu Γ G (.lend k p f b r) ρ=Um k p f (Qg b) ρ[f]? ρ (bindM [k,p] (zm Γ G b)) (run fu Γ G r):=(rfl)
theorem jbg{k p f:Nat}{is:List Nat}{l:List D}{m:D->En->Option En}{r:En->So}{ρ':En}(hc:jn l=a5/\f∉is/\f≠k/\f≠p)(hm:Vm m (zb l) ρ=a3 ρ'):Um k p f is (a3 (.own l)) ρ m r=r (ρ'.set f (.own [])):=by unfold Um;dsimp only;rw[if_pos hc,hm]
theorem j5c{m:D->En->Option En}{ds:List D}(W:Nat->En->Prop)(h0:W 0 ρ)(hs:∀i d ρ,ds[i]?=a3 d->W i ρ->∃ρ',m d ρ=a3 ρ'/\W (i+1) ρ'):∃ρ',Vm m ds ρ=a3 ρ'/\W ds.length ρ':=by
 have key:∀(ds2:List D)(i:Nat)(ρ:En),ds.drop i=ds2->i<=ds.length->W i ρ->∃ρ',Vm m ds2 ρ=a3 ρ'/\W ds.length ρ':=λds2=>by
  induction ds2 with
  |nil =>
   intro i ρ e hi w;have:i=ds.length:=by have:=congrArg c7 e;simp at this;omega
   exact⟨ρ,rfl,this▸w⟩
  |cons d ds2 ih =>
   intro i ρ e hi w;have hd:ds[i]?=a3 d:=by have:=congrArg (λl:List D=>l[0]?) e;simpa using this
   obtain⟨ρ',h1,h2⟩:=hs i d ρ hd w;have hlt:=(X3.mp hd).1;have e2:ds.drop (i+1)=ds2:=by have:=congrArg List.tail e;simpa using this
   obtain⟨ρ2,h3,h4⟩:=ih (i+1) ρ' e2 hlt h2;exact⟨ρ2,by rw[Vm,h1];exact h3,h4⟩
 exact key ds 0 ρ (by simp) (T6 _) h0
theorem j74:run fu Γ G (.keep i) ρ=Bj i ρ[i]? ρ:=(rfl)
theorem j5e{l:List D}:Bj i (a3 (.own l)) ρ=.next (ρ.set i (.val (.lst l))):=(rfl)
noncomputable def jg6(s:Option Sv)(v:Option (List D)):Option (List D):=match s,v with
 |some (.val d),a3 ds=>a3 (d::ds)
 |_,_=>a6
theorem j2n:Qq ρ []=a3 []:=(rfl)
theorem j0u:Qq ρ (i::is)=jg6 ρ[i]? (Qq ρ is):=(rfl)
theorem jg5{d:D}{ds:List D}:jg6 (a3 (.val d)) (a3 ds)=a3 (d::ds):=(rfl)
theorem j71{f x:af}{a b:Ex}:run fu Γ G (.retC f x a b is) ρ=Bb Γ f x (Qq ρ is) (ev Γ G a ρ) (ev Γ G b ρ):=(rfl)
theorem jap{f x:af}{ds:List D}{d d':D}:Bb Γ f x (a3 ds) (a3 (.v (.e d))) (a3 (.v (.e d')))=K9 (Γ f [d,d',.fn x ds]):=(rfl)
theorem jaq{d:D}(h:noFn d=a5):K9 (.val d)=.ret (.val d):=if_pos h
theorem j4g{x t y:Nat}{it e1 e2:Ex}{ds:List D}{r:List (List Int)×List Int}(hc:x<ρ.length/\t<ρ.length/\y<ρ.length/\x≠t/\x≠y/\t≠y)(hi:ev Γ G it (ρ.set x .un)=a3 (.i ds))(hd:V4 (λρ=>stOf (ev Γ G e1 ρ)) (λρ=>stOf (ev Γ G e2 ρ)) x t y ds (ρ.set x .un) [] []=a3 r) :
  run fu Γ G (.nmake x t y it e1 e2) ρ=.ret (.val (.dct r.1 (r.2.map D.int))):=by rw[j2j,if_pos hc,hi];dsimp only;rw[hd]
end
section
variable{f g:En->So}{ρ:En}{i j:Nat}{d:D}{l m:List D}{r:Rc}{x:Rk}
theorem j4d:Nx (.next ρ) f=f ρ:=(rfl)
theorem Io:Nx (.ret r) f=.ret r:=(rfl)
theorem j6u{x:af}{ρ':En}:Nx (.err x ρ') f=.err x ρ':=(rfl)
theorem jig:ifS (a3 a5) f g ρ=f ρ:=(rfl)
theorem jih:ifS (a3 a4) f g ρ=g ρ:=(rfl)
theorem jda:Mv i (a3 (.v (.o l))) ρ=.next (ρ.set i (.own l)):=(rfl)
theorem jdb:Mv i (a3 (.v (.e d))) ρ=.next (ρ.set i (.val d)):=(rfl)
theorem jdm:retS (a3 (.v (.o l)))=.ret (.fresh l):=(rfl)
theorem j4l:retS (a3 (.v (.e d)))=.ret (.val d):=(rfl)
theorem jdl:retS (a3 (.v (.t d)))=.ret (.val d):=(rfl)
theorem jao:Rm (a3 (.own l))=.ret (.fresh l):=(rfl)
theorem jan:Rm (a3 (.val d))=.ret (.val d):=(rfl)
theorem jei(h:i≠j):Et i j (a3 (.own l)) ρ=.next ((ρ.set j .un).set i (.own l)):=if_neg h
theorem jfg:Dh (a3 (.v x)) ρ=.next ρ:=(rfl)
theorem Jh:M5 [i] f d ρ=f (ρ.set i (.val d)):=(rfl)
theorem M4{a b:D}:M5 [i,j] f (.tup [a,b]) ρ=f ((ρ.set i (.val a)).set j (.val b)):=(rfl)
theorem jbe{is:List Nat}{ds:List D}:j9k is (a3 (.i ds)) f ρ=Jx (M5 is f) ds ρ:=(rfl)
theorem jgp(h:l.length<=1000000):Rb i (a3 (.own l)) (a3 (.v (.e d))) ρ=.next (ρ.set i (.own (l++[d]))):=by simp[Rb,Rk.st,lt_size h]
theorem jgo(h:l.length<=1000000)(hd:vf d=a5):Rb i (a3 (.own l)) (a3 (.v (.t d))) ρ=.next (ρ.set i (.own (l++[d]))):=by simp[Rb,Rk.st,hd,lt_size h]
theorem jff(h:l.length+m.length<=1000000):Dg i (a3 (.own l)) (a3 (.v (.o m))) ρ=.next (ρ.set i (.own (l++m))):=by simp[Dg,jl,vg h]
theorem j20:fin (.ret r)=r:=(rfl)
theorem jbv{x:af}{ρ':En}:fin (.err x ρ')=.err x:=(rfl)
theorem j89:fin (.next ρ)=.val .non:=(rfl)
theorem jx{fu:Nat}{G:af->Option D}{T:af->Option Fi}{n:Nat}{f:af}{ds:List D}{F:Fi}(h:T f=a3 F)(hl:ds.length=F.n)(hla:F.lam=a4:=by rfl):evP fu G T (n+1) f ds=fin (run fu (evP fu G T n) G F.body (enter F ds)):=by simp only[evP,h,if_pos hl,hla,Pa,if_false]
theorem jc7{fu:Nat}{G:af->Option D}{T:af->Option Fi}{n:Nat}{f:af}{ds:List D}{F:Fi}(h:T f=a3 F)(hl:ds.length=F.n)(hla:F.lam=a5:=by rfl):evP fu G T (n+1) f ds=j3h (fin (run fu (evP fu G T n) G F.body (enter F ds))):=by simp only[evP,h,if_pos hl,hla,if_true]
theorem jet:j3h (.val d)=.lval d:=(rfl)
end
theorem V9{f:D->En->So}(W:Nat->En->Prop):∀{ds:List D}{ρ:En}{k:Nat},W k ρ->(∀i d ρ,ds[i]?=a3 d->W (k+i) ρ->∃ρ',f d ρ=.next ρ'/\W (k+i+1) ρ')->∃ρ',Jx f ds ρ=.next ρ'/\W (k+ds.length) ρ'
 |[],ρ,k,h0,_=>⟨ρ,rfl,h0⟩
 |d::ds,ρ,k,h0,hs=>by
  obtain⟨ρ1,e1,w1⟩:=hs 0 d ρ rfl h0;obtain⟨ρ2,e2,w2⟩:=V9 (f:=f) W (ds:=ds) (k:=k+1) w1 λi d' ρ' hi w=>by have:=hs (i+1) d' ρ' (by simpa using hi) (by rw[show k+(i+1)=k+1+i by omega];exact w);rw[show k+(i+1)+1=k+1+i+1 by omega]at this;exact this
  refine⟨ρ2,?_,by rw[xq,show k+(ds.length+1)=k+1+ds.length by omega];exact w2⟩;rw[Jx,e1];exact e2
theorem O8{f:D->En->So}(W:Nat->En){ds:List D}{ρ:En}(h0:ρ=W 0)(hs:∀i d,ds[i]?=a3 d->f d (W i)=.next (W (i+1))):Jx f ds ρ=.next (W ds.length):=by
 obtain⟨ρ',e,w⟩:=V9 (f:=f) (λi ρ=>ρ=W i) (k:=0) (ds:=ds) (ρ:=W 0) rfl λi d ρ hi w=>⟨W (0+i+1),by rw[w,Th];exact hs i d hi,rfl⟩
 rw[h0,e,w,Th]
theorem Jm{f:D->En->So}{ds:List D}{ρ:En}{g:En->So}{r:Rc}(W:Nat->En->Prop)(h0:W 0 ρ)(hs:∀i d ρ,ds[i]?=a3 d->W i ρ->∃ρ',f d ρ=.next ρ'/\W (i+1) ρ')(hk:∀ρ',W ds.length ρ'->fin (g ρ')=r) :
  fin (Nx (Jx f ds ρ) g)=r:=by
 obtain⟨ρ',e,w⟩:=V9 (f:=f) W (k:=0) (ds:=ds) (ρ:=ρ) h0 λi d ρ hi w=>by rw[Th]at w ⊢;exact hs i d ρ hi w
 rw[e];rw[Th]at w;exact hk ρ' w
theorem Wd{f:D->En->So}{ds:List D}{ρ:En}{g:En->So}{Q:En->Prop}(W:Nat->En->Prop)(h0:W 0 ρ)(hs:∀i d ρ,ds[i]?=a3 d->W i ρ->∃ρ',f d ρ=.next ρ'/\W (i+1) ρ')
  (hk:∀ρ',W ds.length ρ'->∃ρ2,g ρ'=.next ρ2/\Q ρ2):∃ρ2,Nx (Jx f ds ρ) g=.next ρ2/\Q ρ2:=by
 obtain⟨ρ',e,w⟩:=V9 (f:=f) W (k:=0) (ds:=ds) (ρ:=ρ) h0 λi d ρ hi w=>by rw[Th]at w ⊢;exact hs i d ρ hi w
 rw[e];rw[Th]at w;exact hk ρ' w
noncomputable def j9n(d:Option D):Option W:=d.map λd=>.v (.e d)
noncomputable def j81(i:Option Int):Option W:=i.map λk=>.v (.e (.int k))
noncomputable def jf8(a:Option W):Option W:=match a with
 |some (.v x)=>a3 (.v (.e (.bl x.d.isNon)))
 |_=>a6
noncomputable def j93(k:Option Bool)(f:En->Option W)(ρ:En):Option W:=match k with
 |some a4=>a3 (.v (.e (.bl a4)))
 |some a5=>blW (truth (f ρ))
 |none=>a6
noncomputable def orW(k:Option Bool)(f:En->Option W)(ρ:En):Option W:=match k with
 |some a5=>a3 (.v (.e (.bl a5)))
 |some a4=>blW (truth (f ρ))
 |none=>a6
noncomputable def jeg(k:Option Bool):Option W:=k.map λk=>.v (.e (.bl (!k)))
noncomputable def stW(a:Option W):Option W:=match a with
 |some (.v x)=>x.st.map λd=>.v (.e d)
 |_=>a6
noncomputable def j80(k:Option Bool)(f g:En->Option W)(ρ:En):Option W:=match k with
 |some a5=>stW (f ρ)
 |some a4=>stW (g ρ)
 |none=>a6
noncomputable def slW(a:Option W)(l h:Option (Option Int)):Option W:=match a,l,h with
 |some (.v x),a3 l,a3 h=>match x.sq with
  |some (a5,ds)=>a3 (.v (.o (cutD ds l h)))
  |some (a4,ds)=>if HT.sIx ds.length 0 l=0/\HT.sIx ds.length ds.length h=ds.length then a6 else a3 (.v (.e (.tup (cutD ds l h))))
  |none=>match x.d with
   |.str z=>if jl z.length=a5 then a3 (.v (.e (.str (bG z l h))))else a6
   |_=>a6
 |_,_,_=>a6
noncomputable def Zx(is:List Nat)(c e:En->Option W)(ρ:En)(d:D):Option (Option D):=match qy is d ρ with
 |none=>a6
 |some ρ2=>match c ρ2 with
  |some (.a [])=>match e ρ2 with
   |some (.v x)=>x.st.map a3
   |_=>a6
  |some (.a [y])=>match y.d with
   |.bl a5=>match e ρ2 with
    |some (.v x)=>x.st.map a3
    |_=>a6
   |.bl a4=>a3 a6
   |_=>a6
  |_=>a6
noncomputable def j3q(is:List Nat)(w:Option W)(c e:En->Option W)(z:Bool)(ρ:En):Option W:=match w with
 |some (.i ds)=>if Ke is ρ=a5/\jl ds.length=a5 then(Jy (Zx is c e ρ) ds).bind λl=>if (z && !jn l)=a5 then a6 else a3 (.v (.o l))else a6
 |_=>a6
section
variable{Γ:af->List D->Rc}{G:af->Option D}{ρ:En}{a b c e:Ex}{op:Bop}{cp:Cop}{x f:af}{i:Nat}{d:D}
theorem jfq:ev Γ G (.lit d) ρ=a3 (.v (.e d)):=(rfl)
theorem jfi:ev Γ G (.var i) ρ=Nh ρ[i]?:=(rfl)
theorem jc1:ev Γ G (.glob x) ρ=j9n (G x):=(rfl)
theorem jfy:ev Γ G (.bin op a b) ρ=Ji op (ev Γ G a ρ) (ev Γ G b ρ):=(rfl)
theorem jfo:ev Γ G (.neg a) ρ=Es (ev Γ G a ρ):=(rfl)
theorem jfv:ev Γ G (.cmp cp a b) ρ=Dj cp (ev Γ G a ρ) (ev Γ G b ρ):=(rfl)
theorem jft:ev Γ G (.isN a) ρ=jf8 (ev Γ G a ρ):=(rfl)
theorem jfz:ev Γ G (.and a b) ρ=j93 (truth (ev Γ G a ρ)) (ev Γ G b) ρ:=(rfl)
theorem jio:ev Γ G (.or a b) ρ=orW (truth (ev Γ G a ρ)) (ev Γ G b) ρ:=(rfl)
theorem jfm:ev Γ G (.not a) ρ=jeg (truth (ev Γ G a ρ)):=(rfl)
theorem jfr:ev Γ G (.ite c a b) ρ=j80 (truth (ev Γ G c ρ)) (ev Γ G a) (ev Γ G b) ρ:=(rfl)
theorem jfn:ev Γ G .nil ρ=a3 (.a []):=(rfl)
theorem jc4:ev Γ G (.cons a b) ρ=consW (ev Γ G a ρ) (ev Γ G b ρ):=(rfl)
theorem jfj:ev Γ G (.tup a) ρ=Zj (ev Γ G a ρ):=(rfl)
theorem jfp:ev Γ G (.lst a) ρ=Zq (ev Γ G a ρ):=(rfl)
theorem jip:ev Γ G (.ix a b) ρ=ixW (ev Γ G a ρ) (ev Γ G b ρ):=(rfl)
theorem jin:ev Γ G (.sl a b c) ρ=slW (ev Γ G a ρ) (Qe (ev Γ G b ρ)) (Qe (ev Γ G c ρ)):=(rfl)
theorem jc0{sep:af}:ev Γ G (.join sep a) ρ=Rv sep (ev Γ G a ρ):=(rfl)
theorem jfk:ev Γ G (.tix a b) ρ=Nr (ev Γ G a ρ) (ev Γ G b ρ):=(rfl)
theorem jfw{b c:Ex}:ev Γ G (.chn a b c) ρ=j0k (ev Γ G a ρ) (ev Γ G b ρ) (ev Γ G c ρ):=(rfl)
theorem jgb{i j k:Int}:j0k (a3 (.v (.e (.int i)))) (a3 (.v (.e (.int j)))) (a3 (.v (.e (.int k))))=a3 (.v (.e (.bl (decide (i<j)&&decide (j<k))))):=(rfl)
theorem j8e:ev Γ G (.callV i a) ρ=R9 Γ ρ[i]? (ev Γ G a ρ):=(rfl)
theorem j8q{cs:List D}{u v:D}(h:Jw [u,v]=a5):R9 Γ (a3 (.val (.fn x cs))) (a3 (.a [.e u,.e v]))=(Γ (q8 x) (cs++[u,v])).lv:=if_pos h
theorem jk2:(Rc.lval d).lv=a3 (.v (.e d)):=(rfl)
theorem jc3:ev Γ G (.dget a b) ρ=Ry (ev Γ G a ρ) (ev Γ G b ρ):=(rfl)
theorem jby:ev Γ G (.minT a) ρ=Rq (ev Γ G a ρ):=(rfl)
theorem jc2:ev Γ G (.enum a) ρ=Ut (ev Γ G a ρ):=(rfl)
theorem jc6:ev Γ G (.call f a) ρ=Qk Γ f (ev Γ G a ρ):=(rfl)
theorem jfx{f:Bf}:ev Γ G (.blt f a) ρ=vp f (ev Γ G a ρ):=(rfl)
theorem jbz{m:Mf}:ev Γ G (.meth m a b) ρ=Rr m (ev Γ G a ρ) (ev Γ G b ρ):=(rfl)
theorem jfs{ts:List String}:ev Γ G (.isi a ts) ρ=j02 (ev Γ G a ρ) ts:=(rfl)
theorem jc5{is:List Nat}:ev Γ G (.comp is e a c) ρ=j3q is (ev Γ G a (frz a ρ)) (ev Γ G c) (ev Γ G e) (J8 a ρ) (frz a ρ):=(rfl)
theorem jfl:ev Γ G (.seq a) ρ=Mw (ev Γ G a ρ):=(rfl)
theorem j8d:ev Γ G (.range a) ρ=Wg (ev Γ G a ρ):=(rfl)
end
section
variable{x y:Rk}{d:D}{i j k:Int}{l m:List D}{b:Bool}{f g:En->Option W}{ρ:En}{xs:List Rk}{op:Bop}{cp:Cop}
theorem jcu:Nh (a3 (.val d))=a3 (.v (.e d)):=(rfl)
theorem jcv:Nh (a3 (.own l))=a3 (.v (.w l)):=(rfl)
theorem jbu:j9n (a3 d)=a3 (.v (.e d)):=(rfl)
theorem jf9:j81 (a3 i)=a3 (.v (.e (.int i))):=(rfl)
theorem jiu:blW (a3 b)=a3 (.v (.e (.bl b))):=(rfl)
theorem jgm:Ji op (a3 (.v (.e (.int i)))) (a3 (.v (.e (.int j))))=j81 (binI op i j):=by simp only[Ji,Vj,Rk.d,j81,rkW];cases binI op i j<;>rfl
theorem j8z:binI .add i j=a3 (i+j):=(rfl)
theorem j8u:binI .sub i j=a3 (i-j):=(rfl)
theorem j8x(h:(-18446744073709551616<i/\i<18446744073709551616)\/(-18446744073709551616<j/\j<18446744073709551616)):binI .mul i j=a3 (i*j):=if_pos h
theorem j6e(h:0<j/\j<18446744073709551616):binI .fdiv i j=a3 (i/j):=if_pos h
theorem j8y(h:0<j):binI .mod i j=a3 (i%j):=if_pos h
theorem j8w(h:0<=j/\j<=1000000/\i.natAbs<18446744073709551616):binI .pow i j=a3 (i^j.toNat):=if_pos h
theorem j8v(h:0<=j/\j<=1000000/\i.natAbs<18446744073709551616):binI .shl i j=a3 (i*2^j.toNat):=if_pos h
theorem jgh(h:l.length+m.length<=1000000):Ji .add (a3 (.v (.o l))) (a3 (.v (.o m)))=a3 (.v (.o (l++m))):=by simp[Ji,Vj,Rk.d,Rk.sq,jl,vg h,rkW]
theorem jgg(h:l.length+m.length<=1000000):Ji .add (a3 (.v (.o l))) (a3 (.v (.w m)))=a3 (.v (.o (l++m))):=by simp[Ji,Vj,Rk.d,Rk.sq,jl,vg h,rkW]
theorem jgd(h:l.length+m.length<=1000000):Ji .add (a3 (.v (.w l))) (a3 (.v (.o m)))=a3 (.v (.o (l++m))):=by simp[Ji,Vj,Rk.d,Rk.sq,jl,vg h,rkW]
theorem jgj(h:l.length+m.length<=1000000):Ji .add (a3 (.v (.e (.lst l)))) (a3 (.v (.o m)))=a3 (.v (.o (l++m))):=by simp[Ji,Vj,Rk.d,Rk.sq,jl,vg h,rkW]
theorem jgi(h:l.length+m.length<=1000000):Ji .add (a3 (.v (.e (.lst l)))) (a3 (.v (.w m)))=a3 (.v (.o (l++m))):=by simp[Ji,Vj,Rk.d,Rk.sq,jl,vg h,rkW]
theorem jge(h:l.length+m.length<=1000000):Ji .add (a3 (.v (.e (.tup l)))) (a3 (.v (.e (.tup m))))=a3 (.v (.e (.tup (l++m)))):=by simp[Ji,Vj,Rk.d,Rk.sq,jl,vg h,rkW]
theorem jeh:Es (a3 (.v (.e (.int i))))=a3 (.v (.e (.int (-i)))):=(rfl)
theorem jg7:Dj cp (a3 (.v x)) (a3 (.v y))=blW (Qd cp x.d y.d):=(rfl)
theorem d_e:(Rk.e d).d=d:=(rfl)
theorem d_o:(Rk.o l).d=.lst l:=(rfl)
theorem d_w:(Rk.w l).d=.lst l:=(rfl)
theorem jg8:Qd cp (.int i) (.int j)=cmpI cp i j:=by cases cp<;>rfl
theorem j8m(h:(D.lst l).dep<=90)(h2:(D.lst m).dep<=90):Qd .eq (.lst l) (.lst m)=a3 (zy l m):=by simp[Qd,h,h2,Bv,j0c]
theorem j64:Qd .eq (.lst []) (.lst [])=a3 (zy [] []):=j8m (by simp[D.dep,D.depL]) (by simp[D.dep,D.depL])
theorem j5y(h:i<j):cmpI .lt i j=a3 a5:=by simp[cmpI,h]
theorem j5z(h:j<=i):cmpI .lt i j=a3 a4:=by simp[cmpI];omega
theorem j60(h:j<i):cmpI .gt i j=a3 a5:=by simp[cmpI,h]
theorem j61(h:i<=j):cmpI .gt i j=a3 a4:=by simp[cmpI];omega
theorem j62(h:i=j):cmpI .eq i j=a3 a5:=by simp[cmpI,h]
theorem j63(h:i≠j):cmpI .eq i j=a3 a4:=by simp[cmpI,h]
theorem j5x(h:i=j):cmpI .ne i j=a3 a4:=by simp[cmpI,h]
theorem jcf:cmpI .gt i j=a3 (decide (j<i)):=(rfl)
theorem j2c:cmpI .eq i j=a3 (decide (i=j)):=(rfl)
theorem jf7:jf8 (a3 (.v x))=a3 (.v (.e (.bl x.d.isNon))):=(rfl)
theorem ja6:truth (a3 (.v (.e (.bl b))))=a3 b:=(rfl)
theorem j6o:truth (a3 (.v (.t (.bl b))))=a3 b:=(rfl)
theorem jgr:j93 (a3 a4) f ρ=a3 (.v (.e (.bl a4))):=(rfl)
theorem jgq:j93 (a3 a5) f ρ=blW (truth (f ρ)):=(rfl)
theorem jhy:orW (a3 a5) f ρ=a3 (.v (.e (.bl a5))):=(rfl)
theorem jhz:orW (a3 a4) f ρ=blW (truth (f ρ)):=(rfl)
theorem jef:jeg (a3 b)=a3 (.v (.e (.bl (!b)))):=(rfl)
theorem jhk:stW (a3 (.v (.e d)))=a3 (.v (.e d)):=(rfl)
theorem jf4:j80 (a3 a5) f g ρ=stW (f ρ):=(rfl)
theorem jf5:j80 (a3 a4) f g ρ=stW (g ρ):=(rfl)
theorem jce:consW (a3 (.v x)) (a3 (.a xs))=a3 (.a (x::xs)):=(rfl)
theorem Kr(h:v6 xs=a3 l)(hl:l.length<=1000000):Zj (a3 (.a xs))=a3 (.v (.e (.tup l))):=by simp[Zj,h,jl,vg hl]
theorem j5b(h:v6 xs=a3 l)(hl:l.length<=1000000):Zq (a3 (.a xs))=a3 (.v (.o l)):=by simp[Zq,h,jl,vg hl]
theorem jd0:Zj (a3 (.a []))=a3 (.v (.e (.tup []))):=by simp[Zj,v6,jl]
theorem jcz{a:D}:Zj (a3 (.a [.e a]))=a3 (.v (.e (.tup [a]))):=Kr rfl (by simp)
theorem jcy{a b:D}:Zj (a3 (.a [.e a,.e b]))=a3 (.v (.e (.tup [a,b]))):=Kr rfl (by simp)
theorem jeo:Zq (a3 (.a []))=a3 (.v (.o [])):=by simp[Zq,v6,jl]
theorem jen{a:D}:Zq (a3 (.a [.e a]))=a3 (.v (.o [a])):=j5b rfl (by simp)
theorem jem{a b:D}:Zq (a3 (.a [.e a,.e b]))=a3 (.v (.o [a,b])):=j5b rfl (by simp)
theorem jcx{a b c:D}:Zj (a3 (.a [.e a,.e b,.e c]))=a3 (.v (.e (.tup [a,b,c]))):=Kr rfl (by simp)
noncomputable def Kc(o:Option D):Option W:=o.map λd=>.v (.e d)
theorem Ib:∀xs:List D,v6 (xs.map Rk.e)=a3 xs
 |[]=>rfl
 |x::xs=>by rw[xr,v6,Ib xs];rfl
theorem jek(xs:List D)(h:xs.length<=1000000):Zq (a3 (.a (xs.map Rk.e)))=a3 (.v (.o xs)):=by simp[Zq,Ib,jl,vg h]
theorem jel{a b c d:D}:Zq (a3 (.a [.e a,.e b,.e c,.e d]))=a3 (.v (.o [a,b,c,d])):=jek [a,b,c,d] (by simp)
theorem j1y:Kc (a3 d)=a3 (.v (.e d)):=(rfl)
theorem jf1:ixW (a3 (.v (.e (.lst l)))) (a3 (.v (.e (.int i))))=Kc (atI l i):=(rfl)
theorem jf0:ixW (a3 (.v (.e (.tup l)))) (a3 (.v (.e (.int i))))=Kc (atI l i):=(rfl)
theorem jid:ixW (a3 (.v (.w l))) (a3 (.v (.e (.int i))))=Kc (atI l i):=(rfl)
noncomputable def jga(c:Option Nat):Option W:=match c with
 |some c=>a3 (.v (.e (.str ⟨#[c]⟩)))
 |none=>a6
theorem jg9{c:Nat}:jga (a3 c)=a3 (.v (.e (.str ⟨#[c]⟩))):=(rfl)
theorem jie{z:af}(h:z.length<=1000000):ixW (a3 (.v (.e (.str z)))) (a3 (.v (.e (.int i))))=jga (atI z.cps.toList i):=by simp only[ixW,Rk.sq,Rk.d,jl,vg h,decide_true,if_true];cases atI z.cps.toList i<;>rfl
theorem jhn{z:af}{lo hi:Option Int}(h:z.length<=1000000):slW (a3 (.v (.e (.str z)))) (a3 lo) (a3 hi)=a3 (.v (.e (.str (bG z lo hi)))):=by simp only[slW,Rk.sq,Rk.d,jl,vg h,decide_true,if_true]
theorem jgf{y z:af}(h:y.length+z.length<=1000000):Ji .add (a3 (.v (.e (.str y)))) (a3 (.v (.e (.str z))))=a3 (.v (.e (.str (y++z)))):=by simp[Ji,Vj,Rk.d,jl,vg h,rkW]
theorem jif{k:Bool}:vp .int (a3 (.a [.e (.bl k)]))=a3 (.v (.e (.int (if k then 1 else 0)))):=(rfl)
theorem Jp{ns:List Int}:intsOf (ns.map D.int)=a3 ns:=by
 induction ns with
 |nil=>rfl
 |cons b bs ih=>rw[xr,intsOf,ih];rfl
theorem j2v{ns:List af}:strsOf (ns.map D.str)=a3 ns:=by
 induction ns with
 |nil=>rfl
 |cons b bs ih=>rw[xr,strsOf,ih];rfl
theorem jhj{ns:List Int}:vp .sum (a3 (.a [.o (ns.map D.int)]))=a3 (.v (.e (.int ns.sum))):=by simp only[vp,Zb,Rk.d,Jp];rfl
theorem jd3{ns:List Int}:vp .sum (a3 (.a [.e (.lst (ns.map D.int))]))=a3 (.v (.e (.int ns.sum))):=by simp only[vp,Zb,Rk.d,Jp];rfl
theorem j1x{sep:af}{ts:List af}(h:eW sep ts=a5):Rv sep (a3 (.v (.o (ts.map D.str))))=a3 (.v (.e (.str (dQ sep ts)))):=by simp only[Rv,Rk.d,j2v,h,if_true]
theorem jc9:Ut (a3 (.v (.o l)))=a3 (.i (zb l)):=(rfl)
theorem j8h:Ut (a3 (.v (.e (.lst l))))=a3 (.i (zb l)):=(rfl)
theorem j8g:Ut (a3 (.v (.e (.tup l))))=a3 (.i (zb l)):=(rfl)
theorem j8s:Qe (a3 (.a []))=a3 a6:=(rfl)
theorem j8r:Qe (a3 (.a [.e (.int i)]))=a3 (a3 i):=(rfl)
variable{lo hi:Option Int}
theorem jd8:slW (a3 (.v (.e (.lst l)))) (a3 lo) (a3 hi)=a3 (.v (.o (cutD l lo hi))):=(rfl)
theorem jhm:slW (a3 (.v (.w l))) (a3 lo) (a3 hi)=a3 (.v (.o (cutD l lo hi))):=(rfl)
variable{Γ:af->List D->Rc}{fn:af}
noncomputable def rcW(r:Rc):Option W:=match r with
 |.val d=>a3 (.v (.e d))
 |.fresh l=>a3 (.v (.o l))
 |_=>a6
theorem jhs{x:af}:rcW (.err x)=a6:=(rfl)
theorem jhq:rcW (.val d)=a3 (.v (.e d)):=(rfl)
theorem jhr:rcW (.fresh l)=a3 (.v (.o l)):=(rfl)
theorem Ub(h:v6 xs=a3 l):Qk Γ fn (a3 (.a xs))=rcW (Γ fn l):=by simp only[Qk,h];cases Γ fn l<;>rfl
theorem jcj{a:D}:Qk Γ fn (a3 (.a [.e a]))=rcW (Γ fn [a]):=Ub rfl
theorem jci{a b:D}:Qk Γ fn (a3 (.a [.e a,.e b]))=rcW (Γ fn [a,b]):=Ub rfl
theorem jch{a b c:D}:Qk Γ fn (a3 (.a [.e a,.e b,.e c]))=rcW (Γ fn [a,b,c]):=Ub rfl
theorem j8p:Qk Γ fn (a3 (.a [.o l]))=rcW (Γ fn [.lst l]):=Ub rfl
noncomputable def rcT(r:Rc):Option W:=match r with
 |.val d=>a3 (.v (.t d))
 |_=>a6
theorem jht:rcT (.val d)=a3 (.v (.t d)):=(rfl)
theorem Dl(h:v6 xs=a6):Qk Γ fn (a3 (.a xs))=rcT (Γ fn (xs.map Rk.d)):=by simp only[Qk,h];cases Γ fn (xs.map Rk.d)<;>rfl
theorem j8o{a b:D}:Qk Γ fn (a3 (.a [.w m,.e a,.e b]))=rcT (Γ fn [.lst m,a,b]):=Dl rfl
theorem ji9:vp .len (a3 (.a [.e (.lst l)]))=a3 (.v (.e (.int l.length))):=(rfl)
theorem ji8:vp .len (a3 (.a [.e (.tup l)]))=a3 (.v (.e (.int l.length))):=(rfl)
theorem ji7:vp .len (a3 (.a [.w l]))=a3 (.v (.e (.int l.length))):=(rfl)
theorem j3d{ns:List Int}(h:ns≠[]):vp .max (a3 (.a [.o (ns.map D.int)]))=a3 (.v (.e (.int (vo ns)))):=by
 have e:ns.isEmpty=a4:=by cases ns with|nil=>exact absurd rfl h|cons _ _=>rfl
 simp only[vp,Zb,Rk.d,Jp,e,if_true];rfl
theorem ji0{ns:List Int}(h:ns≠[]):vp .min (a3 (.a [.o (ns.map D.int)]))=a3 (.v (.e (.int (Z7 ns)))):=by
 have e:ns.isEmpty=a4:=by cases ns with|nil=>exact absurd rfl h|cons _ _=>rfl
 simp only[vp,Zb,Rk.d,Jp,e,if_true];rfl
theorem j7b{ks:List (Int×List Int)}:Fb (ks.map pairD)=a3 ks:=by
 induction ks with
 |nil=>rfl
 |cons k ks ih=>rw[xr,Fb,ih,pairD];simp only[prI,tupI,Jp,dq]
theorem jbc{k0:Int×List Int}{ks:List (Int×List Int)}{k:Int×List Int}(h:(k0::ks)[aW (Z0 (k0::ks)) ks.length]?=a3 k):Rq (a3 (.v (.o ((k0::ks).map pairD))))=a3 (.v (.t (pairD k))):=by
 have e:Ri ((k0::ks).map pairD)=a6:=by rw[xr,Ri,show tupI (pairD k0)=a6 from rfl]
 simp only[Rq,Rk.d,e,j7b,xq,jA,h];rfl
theorem jcd{ks:List (List Int)}{ds:List D}{k:List Int}{d:D}(h:Qt ks ds k=a3 d):Ry (a3 (.v (.e (.dct ks ds)))) (a3 (.v (.e (.tup (k.map D.int)))))=a3 (.v (.e d)):=by simp only[Ry,Rk.d,tupI,Jp,h];rfl
theorem ja3:vp .tuple (a3 (.a [.o l]))=a3 (.v (.e (.tup l))):=(rfl)
theorem ja2:vp .tuple (a3 (.a [.w l]))=a3 (.v (.e (.tup l))):=(rfl)
theorem jbf:vp .list (a3 (.a [.e (.tup l)]))=a3 (.v (.o l)):=(rfl)
theorem j29(h:D.depL l<=90)(h2:d.dep<=90):Rr .count (a3 (.v (.w l))) (a3 (.a [.e d]))=a3 (.v (.e (.int (l.countP λe=>deq e d)))):=by simp[Rr,j3c,Rk.d,h,h2,rkW]
theorem jf6{ts:List String}:j02 (a3 (.v x)) ts=blW (Y7 x.d ts):=(rfl)
theorem jad:Mw (a3 (.v (.e (.lst l))))=a3 (.i l):=(rfl)
theorem jac:Mw (a3 (.v (.e (.tup l))))=a3 (.i l):=(rfl)
theorem jdc:Mw (a3 (.v (.o l)))=a3 (.i l):=(rfl)
theorem j79(h:-4611686018427387904<=i/\i<4611686018427387904):Wg (a3 (.a [.e (.int i)]))=a3 (.i (upto 0 i.toNat)):=if_pos h
theorem jz{is:List Nat}{c e:En->Option W}{z:Bool}{ds l:List D}(hf:Ke is ρ=a5)(hl:ds.length<=1000000)(h:Jy (Zx is c e ρ) ds=a3 l)(hz:z=a4\/jn l=a5):j3q is (a3 (.i ds)) c e z ρ=a3 (.v (.o l)):=by simp only[j3q,hf,jl,vg hl,decide_true,and_self,if_true,h,kv];rcases hz with z|z<;>simp[z]
theorem qi{i:Nat}{c e:En->Option W}(hc:c (ρ.set i (.val d))=a3 (.a [])){d':D}(he:e (ρ.set i (.val d))=a3 (.v (.e d'))):Zx [i] c e ρ d=a3 (a3 d'):=by simp[Zx,qy,hc,he,Rk.st]
theorem Ko{i:Nat}{c e:En->Option W}{b:Bool}{d':D}(hc:c (ρ.set i (.val d))=a3 (.a [.e (.bl b)]))(he:b=a5->e (ρ.set i (.val d))=a3 (.v (.e d'))):Zx [i] c e ρ d=a3 (if b=a5 then a3 d' else a6):=by
 cases b with
 |true=>simp[Zx,qy,hc,he rfl,Rk.st,Rk.d]
 |false=>simp[Zx,qy,hc,Rk.d]
theorem Ni{i j:Nat}{c e:En->Option W}{a b:D}(hc:c ((ρ.set i (.val a)).set j (.val b))=a3 (.a [])){d':D}(he:e ((ρ.set i (.val a)).set j (.val b))=a3 (.v (.e d'))):Zx [i,j] c e ρ (.tup [a,b])=a3 (a3 d'):=by simp[Zx,qy,hc,he,Rk.st]
theorem Jl{α:Type}{xs:List α}{n:Nat}{x:α}(h:xs[n]?=a3 x):atI xs (n:Int)=a3 x:=jcm h
end
section
theorem jbn {z:af}:Y7 (.str z) ["str"]=a3 a5:=by simp[Y7,Y6,D.ty]
theorem jbo {l:List D}:Y7 (.lst l) ["list"]=a3 a5:=by simp[Y7,Y6,D.ty]
end
section
noncomputable abbrev q9(r:List Int):D:=.tup (r.map .int)
noncomputable abbrev qj(rs:List (List Int)):List D:=rs.map q9
theorem ju{α:Type}{f:D->Option (Option D)}{h g:α->D}{L:List α}(q:∀x∈L,f (h x)=a3 (a3 (g x))):Jy f (L.map h)=a3 (L.map g):=by
 induction L with
 |nil=>rfl
 |cons x L ih=>rw[xr,Jy,q x (xm ..),ih λy hy=>q y (km _ hy)];rfl
theorem W8{α:Type}{f:D->Option (Option D)}{h g:α->D}{p:α->Bool}{L:List α}(q:∀x∈L,f (h x)=a3 (if p x=a5 then a3 (g x)else a6)):Jy f (L.map h)=a3 ((L.filter p).map g):=by
 induction L with
 |nil=>rfl
 |cons x L ih =>
  rw[xr,Jy,q x (xm ..),ih λy hy=>q y (km _ hy)];by_cases z:p x=a5
  .rw[if_pos z,c8 z];rfl
  .rw[if_neg z,c9 z]
theorem take_snoc{α:Type}{l:List α}{i:Nat}{x:α}(h:l[i]?=a3 x):l.take (i+1)=l.take i++[x]:=by rw[Tj,h];rfl
theorem Uq{α β:Type}{f:α->β}{l:List α}{i:Nat}{y:β}(h:(l.map f)[i]?=a3 y):∃x,l[i]?=a3 x/\y=f x:=by
 rw[xx]at h;cases e:l[i]? with
 |none=>rw[e]at h;cases h
 |some x=>rw[e]at h;cases h;exact⟨x,rfl,rfl⟩
end
section
theorem Mi:∀rs:List (List Int),jn (qj rs)=a5
 |[]=>by simp[jn]
 |r::rs=>by rw[qj,xr,jn,<-qj,Mi rs];simp[vf,vy]
theorem j5s(p:List Int):D.depL (p.map D.int)=0:=by
 induction p with
 |nil=>rfl
 |cons t ts ih=>simp[D.depL,D.dep,ih]
end
end L2
end
section
open PySem (Str)
open L2
noncomputable def jil:=(k8z (k8z (k8z (k8z (k8z (k8z (k8z @jah @jaf) (k8z @jae (k8z @jai @j75))) (k8z (k8z @jag @j70) (k8z @jaj (k8z @j72 @jal)))) (k8z (k8z (k8z @jak @j74) (k8z @j5e (k8z @j2n @j0u))) (k8z (k8z @jg5 (k8z @j71 @jap)) (k8z @j8e (k8z @jc3 @jby))))) (k8z (k8z (k8z (k8z @jk2 @jet) (k8z @jfw (k8z @jgb @jfk))) (k8z (k8z @j7h (k8z @jfu @j1o)) (k8z @jb3 (k8z @jfh @Bu)))) (k8z (k8z (k8z @j4f @j6z) (k8z @j6u (k8z @jbv @jhs))) (k8z (k8z @j4d (k8z @Io @jig)) (k8z @jih (k8z @jda @jdb)))))) (k8z (k8z (k8z (k8z (k8z @jdm @j4l) (k8z @jdl (k8z @jao @jan))) (k8z (k8z @jei @jfg) (k8z @jbe (k8z @jgp @jff)))) (k8z (k8z (k8z @j20 @j89) (k8z @jfq (k8z @jfi @jc1))) (k8z (k8z @jfy (k8z @jfo @jfv)) (k8z @jft (k8z @jfz @jio))))) (k8z (k8z (k8z (k8z @jfm @jfr) (k8z @jfn (k8z @jc4 @jfj))) (k8z (k8z @jfp (k8z @jip @jin)) (k8z @jc6 (k8z @jfx @jbz)))) (k8z (k8z (k8z @jfs @jc5) (k8z @jfl (k8z @j8d @jcu))) (k8z (k8z @jcv (k8z @jbu @jf9)) (k8z @jiu (k8z @jgm @j8z))))))) (k8z (k8z (k8z (k8z (k8z (k8z @j8u @j8x) (k8z @j6e (k8z @j8y @j8w))) (k8z (k8z @j8v @jgh) (k8z @jgg (k8z @jgd @jgj)))) (k8z (k8z (k8z @jgi @jge) (k8z @jeh (k8z @jg7 @d_e))) (k8z (k8z @d_o (k8z @d_w @jg8)) (k8z @j64 (k8z @j5y @j5z))))) (k8z (k8z (k8z (k8z @j60 @j61) (k8z @j62 (k8z @j63 @j5x))) (k8z (k8z @jf7 (k8z @ja6 @j6o)) (k8z @jgr (k8z @jgq @jhy)))) (k8z (k8z (k8z @jhz @jef) (k8z @jhk (k8z @jf4 @jf5))) (k8z (k8z @jce (k8z @jd0 @jcz)) (k8z @jcy (k8z @jeo @jen)))))) (k8z (k8z (k8z (k8z (k8z @jem @jel) (k8z @jcx (k8z @j1y @jf1))) (k8z (k8z @jf0 (k8z @jid @j8s)) (k8z @j8r (k8z @jd8 @jhm)))) (k8z (k8z (k8z @jhq @jhr) (k8z @jht (k8z @jcj @jci))) (k8z (k8z @jch (k8z @j8p @ji9)) (k8z @ji8 (k8z @ji7 @ja3))))) (k8z (k8z (k8z (k8z @ja2 @jbf) (k8z @jf6 (k8z @jad @jac))) (k8z (k8z @jdc (k8z @j79 @jc0)) (k8z @jc2 (k8z @jd4 @jg9)))) (k8z (k8z (k8z @jie @jhn) (k8z @jgf (k8z @jif @jhj))) (k8z (k8z @jd3 (k8z @jc9 @j8h)) (k8z @j8g (k8z @jbn @jbo))))))))
local macro_rules | `(tactic| walk_at "go")=>`(tactic| try simp (disch:=first | omega | assumption | (simp only [List.length_map,List.length_append,List.length_cons,List.length_nil,List.length_take,List.length_drop,List.length_reverse] <;> omega)) only [jil,Yc,beq_self_eq_true,frz,J8,j87,List.getElem?_cons_zero,List.getElem?_cons_succ,List.set_cons_zero,List.set_cons_succ,List.map_cons,List.map_nil,List.cons_append,List.nil_append,List.replicate,List.length_map,List.length_append,List.length_cons,List.length_nil,Bool.not_true,Bool.not_false,bne_self_eq_false,Nat.reduceSub,Nat.reduceAdd,Int.reduceToNat,Int.reducePow])
local macro_rules | `(tactic| ext)=>`(tactic| walk_at "go")
local macro_rules | `(tactic| erw [$r])=>`(tactic| (rw [$r]; ext)) | `(tactic| erw [$r,$rs,*])=>`(tactic| (rw [$r]; ext; erw [$rs,*]))
namespace KL
noncomputable def Ql:Sx:=(.seq (.ret (.call "all_choices" (.cons (.comp [1] (.ite (.cmp .eq (.var 1) (.glob "NOT_TOLD")) (.glob "ANSWERS") (.tup (.cons (.var 1) .nil))) (.seq (.var 0)) .nil) .nil))) .nop)
noncomputable def fP_rows_in:Fi:=⟨1,2,Ql,a4⟩
noncomputable def J1:Sx:=(.seq (.set 1 (.lst (.cons (.tup .nil) .nil))) (.seq (.loop [2] (.seq (.var 0)) (.seq (.set 3 (.lst .nil)) (.seq (.loop [4] (.seq (.var 1)) (.seq (.ext 3 (.comp [5] (.bin .add (.var 4) (.tup (.cons (.var 5) .nil))) (.seq (.var 2)) .nil)) .nop)) (.seq (.mov 1 3) .nop)))) (.seq (.retV 1) .nop)))
noncomputable def fP_all_choices:Fi:=⟨1,6,J1,a4⟩
noncomputable def Vs:Sx:=(.seq (.ife (.cmp .lt (.var 1) (.blt .len (.cons (.var 0) .nil))) (.seq (.ret (.ix (.var 0) (.var 1))) .nop) .nop) (.seq (.set 2 (.bin .add (.lit (.int 70001)) (.bin .mul (.bin .mul (.lit (.int 911)) (.var 1)) (.var 1)))) (.seq (.ife (.cmp .gt (.blt .len (.cons (.var 0) .nil)) (.lit (.int 0))) (.seq (.set 2 (.bin .add (.var 2) (.bin .mul (.bin .mod (.ix (.var 0) (.lit (.int 0))) (.lit (.int 9973))) (.bin .add (.bin .mul (.lit (.int 3)) (.var 1)) (.lit (.int 1)))))) .nop) .nop) (.seq (.retV 2) .nop))))
noncomputable def fL_cell:Fi:=⟨2,3,Vs,a4⟩
section
variable{G:af->Option D}{T:af->Option Fi}
noncomputable def qp(ns:List Int)(k:Nat):Int:=match ns[k]? with
 |some v=>v
 |none=>match ns with
  |[]=>70001+911*k*k
  |v::_=>70001+911*k*k+v%9973*(3*k+1)
theorem Vb {fu n:Nat} (hT:T "_law_cell" = a3 fL_cell) {ns:List Int} {k:Nat} (hk:k<=100):evP fu G T (n+1) "_law_cell" [.lst (ns.map .int),.int k]=.val (.int (qp ns k)):=by
 rw[jx (F:=fL_cell) hT rfl];simp only[fL_cell,Vs,enter];by_cases h:k<ns.length
 .have e:atI (ns.map D.int) (k:Int)=a3 (.int ns[k]):=Jl (by simp[h]);have q:qp ns k=ns[k]:=by simp[qp,h]
  ext;simp only[e,j1y,j4l,j1o,Io,j20,q]
 .cases ns with
  |nil =>ext;simp[qp]
  |cons v r =>
   have e:atI (D.int v::r.map D.int) 0=a3 (.int v):=by simp[atI,ixN]
   have q:qp (v::r) k=70001+911*k*k+v%9973*(3*k+1):=by unfold qp;rw[ph nofun]
   rw[xr];rw[xq]at h;ext;simp only[e];ext;rw[q]
theorem j6t(f:List Int):step [] f=[]:=rfl
theorem j4a(acc:List (List Int))(a f:List Int):step (acc++[a]) f=step acc f++f.map λx=>a++[x]:=by simp[step]
theorem j0i(fs:List (List Int))(f:List Int):qx (fs++[f])=step (qx fs) f:=by simp[qx]
theorem Ia(acc:List (List Int)){f:List Int}{k:Nat}(h:f.length<=k):(step acc f).length<=acc.length*k:=by
 unfold step;induction acc with
 |nil=>simp
 |cons a acc ih =>rw[List.flatMap_cons,Xe,kj,xq,l9];omega
theorem Ms{fs:List (List Int)}{k:Nat}(h:∀f∈fs,f.length<=k):(qx fs).length<=k^fs.length:=by
 have go:∀(fs acc:List (List Int)),(∀f∈fs,f.length<=k)->(fs.foldl step acc).length<=acc.length*k^fs.length:=by
  intro fs;induction fs with
  |nil=>intro acc _;simp
  |cons f fs ih =>intro acc hf;have h1:=ih (step acc f) λg hg=>hf g (km _ hg);have h2:=Ia acc (hf f (xm ..));rw[Tf,xq,T7,cN (k^fs.length) k,<-gD];exact Xk h1 (iE _ h2)
 have:=go fs [[]] h;simpa [qx]using this
theorem j0j{fs:List (List Int)}{r:List Int}(h:r∈qx fs):r.length=fs.length:=by
 have go:∀(fs acc:List (List Int)) (k:Nat),(∀a∈acc,a.length=k)->∀r∈fs.foldl step acc,r.length=k+fs.length:=by
  intro fs;induction fs with
  |nil=>intro acc k ha r hr;exact ha r hr
  |cons f fs ih =>
   intro acc k ha r hr;have:=ih (step acc f) (k+1) (λa hm=>by
    obtain⟨b,hb,hx⟩:=List.mem_flatMap.mp hm
    obtain⟨x,_,rfl⟩:=X8.mp hx
    rw[Xe,ha b hb];rfl) r hr
   rw[this,xq];omega
 have:=go fs [[]] 0 (λa ha=>by rw[xu.mp ha];rfl) r h;omega
theorem Yg {fu n:Nat} (hT:T "all_choices" = a3 fP_all_choices) {fs:List (List Int)} (hf:∀f∈fs,f.length<=3) (hl:fs.length<=6):evP fu G T (n+1) "all_choices" [.lst (qj fs)]=.fresh (qj (qx fs)):=by
 rw[jx (F:=fP_all_choices) hT rfl];simp only[fP_all_choices,J1,enter];ext;have small:∀i,(qx (fs.take i)).length<=729:=λi=>by
  have h:=Ms (fs:=fs.take i) (k:=3) λf hm=>hf f (bL hm);have h2:(fs.take i).length<=6:=by rw[Xi];omega
  exact Xk h (t8 (by decide) h2)
 refine Jm (λi ρ=>∃s2 s4,ρ=[.val (.lst (qj fs)),.own (qj (qx (fs.take i))),s2,.un,s4,.un]) ⟨.un,.un,by simp[qx,qj,q9]⟩ ?_ ?_
 .rintro i d ρ hi ⟨s2,s4,rfl⟩;obtain⟨f,hfi,rfl⟩:=Uq hi;have hf3:f.length<=3:=hf f (Xl hfi);have sm:=small i;simp only[Jh];ext;refine Wd (λj ρ=>∃s4,ρ=[.val (.lst (qj fs)),.val (.lst (qj (qx (fs.take i)))),.val (q9 f),.own (qj (step ((qx (fs.take i)).take j) f)),s4,.un]) ⟨s4,by simp[j6t]⟩ ?_ ?_
  .rintro j d ρ hj ⟨s4,rfl⟩;obtain⟨a,haj,rfl⟩:=Uq hj;have hs:=Ia ((qx (fs.take i)).take j) hf3;have hs2:((qx (fs.take i)).take j).length<=729:=by rw[Xi];omega
   have ha:a.length<=6:=by have:=j0j (Xl haj);rw[Xi]at this;omega
   simp only[Jh];ext;rw[jz (l:=(f.map λx=>q9 (a++[x]))) (by rfl) ?_ ?_ (.inl rfl)]
   .ext;refine⟨_,rfl,.val (q9 a),?_⟩;rw[take_snoc haj,j4a];simp only[qj,Xf,Xa];rfl
   .simp only[kj];omega
   .refine ju λx _=>qi (by ext) ?_;ext;simp
  .rintro ρ' ⟨s4,rfl⟩;ext;refine⟨_,rfl,.val (q9 f),s4,?_⟩;rw[take_snoc hfi,j0i,Tu]
 .rintro ρ' ⟨s2,s4,rfl⟩;ext;rw[Tu]
theorem j8a(t:Int):(Z2 t).length<=3:=by unfold Z2;split<;>simp
theorem j0y {fu n:Nat} (hT:T "rows_in" = a3 fP_rows_in) (hC:T "all_choices" = a3 fP_all_choices) (gNT:G "NOT_TOLD" = a3 (.int 2)) (gAN:G "ANSWERS" = a3 (.tup [.int 0,.int 1])) {p:List Int} (hp:p.length<=6):evP fu G T (n+2) "rows_in" [q9 p]=.fresh (qj (qx (p.map Z2))):=by
 rw[jx (F:=fP_rows_in) hT rfl];simp only[fP_rows_in,Ql,enter];ext;rw[jz (l:=qj (p.map Z2)) (by rfl) ?_ ?_ (.inl rfl)]
 .ext;rw[Yg hC (λf hf=>by obtain⟨t,_,rfl⟩:=X8.mp hf;exact j8a t) (by rw[kj];exact hp)];ext
 .rw[kj];omega
 .rw[qj,Xa];refine ju λt _=>qi (by ext) ?_;by_cases h:t=2
  .ext;simp only[gNT];ext;simp only[gAN];ext;simp[Z2,h]
  .ext;simp only[gNT];ext;simp[Z2,h]
theorem Qy(n:Nat):upto 0 n=(ar n).map λ(k:Nat)=>D.int (0+(k:Int)):=rfl
theorem jdy{m:Nat}(h:m<=6):(1:Int)<=2^m/\(2:Int)^m<=64:=by
 have:m=0\/m=1\/m=2\/m=3\/m=4\/m=5\/m=6:=by omega
 rcases this with e|e|e|e|e|e|e<;>subst e<;>decide
theorem j1z{p:List Int}{k:Nat}(h:k<p.length):atI (p.map D.int) (0+(k:Int))=a3 (.int (p.getD k 0)):=by rw[bS];refine Jl ?_;rw[xx,kh h,xf,kh h];rfl
end
end KL
namespace KV
open PySem
noncomputable def letters:List Nat:=[109,100,107,98,118,113,104,122,99,103,114,110,97,112,120,111,108,115,105,101,102,119,116,121,106,117]
theorem jbd:("mdkbvqhzcgrnapxolsiefwtyju":af).cps.toList=letters:=by decide +kernel
noncomputable def lt(n:Int):Nat:=letters.getD n.toNat 0
noncomputable def sL(l:List Nat):af:=⟨l.toArray⟩
theorem Jk{l:List Nat}:(sL l).length=l.length:=by simp[sL,lT]
theorem jde{l m:List Nat}(h:sL l=sL m):l=m:=by have:=congrArg (λz=>z.cps.toList) h;simpa [sL]using this
theorem Wf{l m:List Nat}:sL l++sL m=sL (l++m):=by show(⟨l.toArray++m.toArray⟩:af)=_;simp[sL]
theorem Bk:∀l:List Nat,dQ ("":af) (l.map λc=>(⟨#[c]⟩:af))=sL l:=by
 intro l;show lU _ _=_;rw[StrLaws.glued_eq_join];induction l with
 |nil=>rfl
 |cons a r ih =>
  cases r with
  |nil=>rfl
  |cons b r =>
   rw[xr,xr,Str.join,<-xr (f:=λc=>(⟨#[c]⟩:af)),ih]
   .show(⟨(#[a] ++ #[])++(b::r).toArray⟩:af)=⟨(a::b::r).toArray⟩
    simp
   .intro z;cases z
theorem jdf{l:List Nat}:(sL l).cps.toList=l:=by simp[sL]
theorem Bp{k n:Nat}:aE a6 (a3 (k:Int)) 1 n=aE (a3 ((0:Nat):Int)) (a3 (k:Int)) 1 n:=by
 have e:max (0:Int) (min 0 (n:Int))=0:=by omega
 simp[aE,e]
theorem Bq{k n:Nat}:aE (a3 (k:Int)) a6 1 n=aE (a3 (k:Int)) (a3 (n:Int)) 1 n:=by
 have e:max (0:Int) (min (n:Int) (n:Int))=n:=by omega
 have e2:¬((n:Int)<0):=by omega
 simp[aE,e,e2]
theorem Ii{l:List Nat}{a b:Nat}{lo hi:Option Int}(he:aE lo hi 1 (sL l).length=aE (a3 (a:Int)) (a3 (b:Int)) 1 (sL l).length)(hab:a<=b)(hb:b<=l.length):bG (sL l) lo hi=sL ((l.drop a).take (b-a)):=by
 have hb':b<=(sL l).length:=by rw[Jk];exact hb
 have q:=StrLaws.sliced_plain (sL l) hab hb';rw[jdf]at q;have e1:=StrLaws.strSliceIndices_plain hab hb';unfold bG;rw[he];by_cases h:((1:Int)==1&&(aE (a3 (a:Int)) (a3 (b:Int)) 1 (sL l).length).length==(sL l).length)=a5
 .rw[if_pos h];rw[e1,Jk,kj,Xh]at h;have:b-a=l.length:=by simpa using h
  have ha:a=0:=by omega
  subst ha;rw[this,cR,Tu]
 .rw[if_neg h,q];rfl
theorem Ow{l:List Nat}{k:Nat}(h:k<=l.length):bG (sL l) a6 (a3 (k:Int))=sL (l.take k):=by rw[Ii (a:=0) (b:=k) Bp (T6 _) h];simp
theorem Ox{l:List Nat}{k:Nat}(h:k<=l.length):bG (sL l) (a3 (k:Int)) a6=sL (l.drop k):=by rw[Ii (a:=k) (b:=l.length) (by rw[Bq,Jk]) h (X5 _),Tv (by rw[Pq];omega)]
theorem Wm {l:List Nat} (h:l.length<=100):eW ("":af) (l.map λc=>(⟨#[c]⟩:af))=a5:=by
 unfold eW;rw[ff];have e:∀(r:List Nat)(k:Nat),(r.map λc=>(⟨#[c]⟩:af)).foldl (λ(x:Nat) (y:af)=>x+y.length+("":af).length) k=k+r.length:=by
  intro r;induction r with
  |nil=>intro k;rfl
  |cons a r ih =>intro k;rw[xr,Tf,ih,xq];show k+1+0+r.length=_;omega
 show cu _=a4;have:=e l 0;rw[List.foldl_toArray];show cu (cQ (λ(x:Nat) (y:af)=>x+y.length+("":af).length) 0 _)=a4;rw[this];unfold cu;simp;have:=dw;omega
noncomputable def Vo(c:Int):List Nat:=(ar 8).map λ(k:Nat)=>lt (c/(4+5*(k:Int))%26)
noncomputable def Zy(c:Int)(s:Nat):List Nat:=(ar s).map λ(k:Nat)=>lt ((c/32+3*(k:Int)*(k:Int)+(k:Int))%26)
theorem Q7(c:Int):(Vo c).length=8:=by simp[Vo]
theorem v9(c:Int)(s:Nat):(Zy c s).length=s:=by simp[Zy]
noncomputable def stN(c:Int)(m:Nat):Nat:=(c/8%(9-(m:Int))).toNat
noncomputable def szN(c:Int):Nat:=(c/4%8).toNat
noncomputable def atN(c:Int):Nat:=(c/512%((szN c:Int)+1)).toNat
noncomputable def wrd(c:Int)(m k:Nat):List Nat :=
 if c%4<2 then(if c%4=0 then(Vo c).take (stN c m+k+1) else(Vo c).drop (8-stN c m-k-1))
 else(Zy c (szN c)).take (atN c)++lt ((c/9+7*(k:Int))%26)::(Zy c (szN c)).drop (atN c)
noncomputable def J2(c:Int)(m:Nat):List af:=(ar m).map λ(k:Nat)=>sL (wrd c m k)
theorem jej{a b:Int}(ha:0<=a/\a<26)(hb:0<=b/\b<26)(h:lt a=lt b):a=b:=by
 obtain⟨i,rfl⟩:∃i:Nat,a=(i:Int):=⟨a.toNat,by omega⟩
 obtain⟨j,rfl⟩:∃j:Nat,b=(j:Int):=⟨b.toNat,by omega⟩
 have key:∀i j:Fin 26,letters.getD i.val 0=letters.getD j.val 0->i=j:=by decide +kernel
 have:=key ⟨i,by omega⟩ ⟨j,by omega⟩ h;have:=congrArg Fin.val this;simp at this;omega
theorem j9b{c:Int}{m:Nat}(h:m<=6):stN c m+m<=8:=by unfold stN;have h1:=Py (c/8) (show(9-(m:Int))≠0 by omega);have h2:=T9 (c/8) (show(0:Int)<9-(m:Int)by omega);omega
theorem j9r(c:Int):atN c<=szN c/\szN c<=7:=by unfold atN;have h1:=Py (c/512) (show((szN c:Int)+1)≠0 by omega);have h2:=T9 (c/512) (show(0:Int)<(szN c:Int)+1 by omega);refine⟨by omega,?_⟩;unfold szN;omega
theorem ja0{c:Int}{m i j:Nat}(hm:m<=6)(hi:i<m)(hj:j<m)(h:wrd c m i=wrd c m j):i=j:=by
 have s:=j9b (c:=c) hm;have a:=j9r c;have l8:=Q7 c;have ls:=v9 c (szN c);unfold wrd at h;split at h
 .split at h
  .have:=congrArg c7 h;rw[Xi,Xi]at this;omega
  .have:=congrArg c7 h;rw[Pq,Pq]at this;omega
 .have h2:=List.append_cancel_left h;have h3:=(List.cons.inj h2).1;have:=jej nofun nofun h3;omega
theorem W7(c:Int)(m:Nat):(J2 c m).length=m:=by simp[J2]
theorem Km{c:Int}{m:Nat}(hm:m<=6):(J2 c m).Nodup:=by unfold J2;unfold List.Nodup;rw[jC];exact List.Pairwise.imp_of_mem (λhi hj h e=>h (ja0 hm (Xp.mp hi) (Xp.mp hj) (jde e))) (fm (n:=m))
end KV
open PySem (Str)
open L2
namespace KW
open KL KV PySem
noncomputable def Zw:Sx:=(.seq (.set 2 (.lit (.str "mdkbvqhzcgrnapxolsiefwtyju"))) (.seq (.ife (.cmp .lt (.bin .mod (.var 0) (.lit (.int 4))) (.lit (.int 2))) (.seq (.set 3 (.join "" (.comp [4] (.ix (.var 2) (.bin .mod (.bin .fdiv (.var 0) (.bin .add (.lit (.int 4)) (.bin .mul (.lit (.int 5)) (.var 4)))) (.lit (.int 26)))) (.range (.cons (.lit (.int 8)) .nil)) .nil))) (.seq (.set 5 (.bin .mod (.bin .fdiv (.var 0) (.lit (.int 8))) (.bin .sub (.lit (.int 9)) (.var 1)))) (.seq (.ife (.cmp .eq (.bin .mod (.var 0) (.lit (.int 4))) (.lit (.int 0))) (.seq (.ret (.comp [4] (.sl (.var 3) .nil (.cons (.bin .add (.bin .add (.var 5) (.var 4)) (.lit (.int 1))) .nil)) (.range (.cons (.var 1) .nil)) .nil)) .nop) .nop) (.seq (.ret (.comp [4] (.sl (.var 3) (.cons (.bin .sub (.bin .sub (.bin .sub (.lit (.int 8)) (.var 5)) (.var 4)) (.lit (.int 1))) .nil) .nil) (.range (.cons (.var 1) .nil)) .nil)) .nop)))) .nop) (.seq (.set 6 (.bin .mod (.bin .fdiv (.var 0) (.lit (.int 4))) (.lit (.int 8)))) (.seq (.set 7 (.join "" (.comp [4] (.ix (.var 2) (.bin .mod (.bin .add (.bin .add (.bin .fdiv (.var 0) (.lit (.int 32))) (.bin .mul (.bin .mul (.lit (.int 3)) (.var 4)) (.var 4))) (.var 4)) (.lit (.int 26)))) (.range (.cons (.var 6) .nil)) .nil))) (.seq (.set 8 (.bin .mod (.bin .fdiv (.var 0) (.lit (.int 512))) (.bin .add (.var 6) (.lit (.int 1))))) (.seq (.ret (.comp [4] (.bin .add (.bin .add (.sl (.var 7) .nil (.cons (.var 8) .nil)) (.ix (.var 2) (.bin .mod (.bin .add (.bin .fdiv (.var 0) (.lit (.int 9))) (.bin .mul (.lit (.int 7)) (.var 4))) (.lit (.int 26))))) (.sl (.var 7) (.cons (.var 8) .nil) .nil)) (.range (.cons (.var 1) .nil)) .nil)) .nop))))))
noncomputable def fL_words:Fi:=⟨2,9,Zw,a4⟩
noncomputable def Ud:Sx:=(.seq (.set 3 (.comp [4] (.var 4) (.range (.cons (.blt .len (.cons (.var 0) .nil)) .nil)) (.cons (.cmp .eq (.bin .mod (.bin .fdiv (.var 2) (.bin .shl (.lit (.int 1)) (.var 4))) (.lit (.int 2))) (.lit (.int 1))) .nil))) (.seq (.set 5 (.blt .sum (.cons (.comp [4] (.bin .shl (.ix (.var 0) (.var 4)) (.var 4)) (.seq (.var 3)) .nil) .nil))) (.seq (.set 6 (.blt .sum (.cons (.comp [4,7] (.bin .shl (.var 7) (.var 4)) (.enum (.var 0)) .nil) .nil))) (.seq (.ife (.cmp .eq (.var 1) (.lit (.int 1))) (.seq (.ret (.blt .int (.cons (.cmp .gt (.blt .sum (.cons (.var 0) .nil)) (.bin .mod (.bin .fdiv (.var 2) (.lit (.int 64))) (.blt .len (.cons (.var 0) .nil)))) .nil))) .nop) .nop) (.seq (.ife (.cmp .eq (.var 1) (.lit (.int 2))) (.seq (.set 8 (.bin .mod (.bin .mul (.bin .add (.var 6) (.lit (.int 1))) (.bin .add (.lit (.int 1)) (.bin .mod (.var 2) (.lit (.int 1000003))))) (.lit (.int 2147483629)))) (.seq (.ret (.blt .int (.cons (.cmp .eq (.bin .mod (.bin .fdiv (.var 8) (.lit (.int 32))) (.lit (.int 5))) (.lit (.int 0))) .nil))) .nop)) .nop) (.seq (.ife (.cmp .eq (.var 1) (.lit (.int 3))) (.seq (.set 8 (.bin .mul (.bin .add (.bin .add (.bin .mul (.var 5) (.var 5)) (.bin .mul (.lit (.int 17)) (.var 5))) (.lit (.int 69621))) (.bin .add (.lit (.int 1)) (.bin .mod (.var 2) (.lit (.int 1000003)))))) (.seq (.ret (.bin .mod (.bin .fdiv (.bin .mod (.var 8) (.lit (.int 2147483647))) (.lit (.int 16))) (.lit (.int 2)))) .nop)) .nop) (.seq (.ife (.cmp .eq (.var 1) (.lit (.int 4))) (.seq (.ret (.bin .mod (.bin .add (.blt .sum (.cons (.comp [4] (.ix (.var 0) (.var 4)) (.seq (.var 3)) .nil) .nil)) (.bin .fdiv (.var 2) (.lit (.int 64)))) (.lit (.int 2)))) .nop) .nop) (.seq (.set 8 (.bin .mul (.bin .add (.bin .mul (.var 6) (.var 6)) (.lit (.int 48271))) (.bin .add (.bin .add (.bin .mod (.var 2) (.lit (.int 1000003))) (.var 6)) (.lit (.int 1))))) (.seq (.ret (.bin .mod (.bin .fdiv (.bin .mod (.var 8) (.lit (.int 2147483647))) (.lit (.int 64))) (.lit (.int 2)))) .nop)))))))))
noncomputable def fL_bit:Fi:=⟨3,9,Ud,a4⟩
noncomputable def Jv:Sx:=(.seq (.set 3 (.bin .add (.lit (.int 1)) (.bin .mod (.call "_law_cell" (.cons (.var 0) (.cons (.var 1) .nil))) (.var 2)))) (.seq (.set 4 (.call "_law_words" (.cons (.call "_law_cell" (.cons (.var 0) (.cons (.bin .add (.var 1) (.lit (.int 1))) .nil))) (.cons (.var 3) .nil)))) (.seq (.set 5 (.bin .mod (.bin .fdiv (.call "_law_cell" (.cons (.var 0) (.cons (.var 1) .nil))) (.var 2)) (.lit (.int 5)))) (.seq (.set 6 (.lst .nil)) (.seq (.loop [7] (.range (.cons (.bin .shl (.lit (.int 1)) (.var 3)) .nil)) (.seq (.set 8 (.comp [9] (.bin .mod (.bin .fdiv (.var 7) (.bin .shl (.lit (.int 1)) (.bin .sub (.bin .sub (.var 3) (.var 9)) (.lit (.int 1))))) (.lit (.int 2))) (.range (.cons (.var 3) .nil)) .nil)) (.seq (.app 6 (.call "_law_bit" (.cons (.var 8) (.cons (.var 5) (.cons (.call "_law_cell" (.cons (.var 0) (.cons (.bin .add (.var 1) (.lit (.int 2))) .nil))) .nil))))) .nop))) (.seq (.ret (.tup (.cons (.blt .tuple (.cons (.var 4) .nil)) (.cons (.blt .tuple (.cons (.var 6) .nil)) .nil)))) .nop))))))
noncomputable def fL_question:Fi:=⟨3,10,Jv,a4⟩
section
variable{G:af->Option D}{T:af->Option Fi}
theorem j3e {n:Int} (h:0<=n/\n<26):atI ("mdkbvqhzcgrnapxolsiefwtyju":af).cps.toList n=a3 (lt n):=by
 obtain⟨k,rfl⟩:∃k:Nat,n=(k:Int):=⟨n.toNat,by omega⟩
 have hk:k<letters.length:=by show k<26;omega
 rw[jbd];refine Jl ?_;unfold lt;rw[kh hk,Xm,xf,kh hk];rfl
theorem jib:("mdkbvqhzcgrnapxolsiefwtyju":af).length<=1000000:=by decide +kernel
theorem j2l {fu n m:Nat} (hT:T "_law_words" = a3 fL_words) {c:Int} (hm:1<=m/\m<=6):evP fu G T (n+1) "_law_words" [.int c,.int m]=.fresh ((J2 c m).map D.str):=by
 rw[jx (F:=fL_words) hT rfl];simp only[fL_words,Zw,enter];have ll:=jib;by_cases h:c%4<2
 .ext;rw[jz (l:=((Vo c).map λx=>(⟨#[x]⟩:af)).map D.str) (by rfl) (by rw[za];decide) ?_ (.inl rfl)];rotate_left
  .rw[Qy,Vo,Xa,Xa];refine ju λk hk'=>qi (by ext) ?_;have hk:=Xp.mp hk';ext;rw[j3e nofun];ext;simp
  rw[j1x (Wm (by rw[Q7];decide)),Bk];have st:=j9b (c:=c) hm.2;obtain⟨s,hs⟩:∃s:Nat,s=stN c m:=⟨_,rfl⟩
  have es:c/8%(9-(m:Int))=(s:Int):=by rw[hs];unfold stN;have:=Py (c/8) (show(9-(m:Int))≠0 by omega);omega
  have lg:(sL (Vo c)).length=8:=by rw[Jk,Q7]
  by_cases h0:c%4=0
  .ext;rw[es,jz (l:=(J2 c m).map D.str) (by rfl) (by rw[za];omega) ?_ (.inl rfl)]
   .ext
   .rw[Xm,Qy,J2,Xa];refine ju λk hk'=>qi (by ext) ?_;have hk:=Xp.mp hk';ext;have e:(s:Int)+(0+(k:Int))+1=((s+k+1:Nat):Int):=by omega
    have hh:wrd c m k=(Vo c).take (stN c m+k+1):=by unfold wrd;rw[if_pos h,if_pos h0]
    rw[e,Ow (by rw[Q7];omega)];simp only[ck,hh,hs]
  .ext;rw[es,jz (l:=(J2 c m).map D.str) (by rfl) (by rw[za];omega) ?_ (.inl rfl)]
   .ext
   .rw[Xm,Qy,J2,Xa];refine ju λk hk'=>qi (by ext) ?_;have hk:=Xp.mp hk';ext;have e:8-(s:Int)-(0+(k:Int))-1=((8-s-k-1:Nat):Int):=by omega
    have hh:wrd c m k=(Vo c).drop (8-stN c m-k-1):=by unfold wrd;rw[if_pos h,if_neg h0]
    rw[e,Ox (by rw[Q7];omega)];simp only[ck,hh,hs]
 .have a:=j9r c;obtain⟨s,hs⟩:∃s:Nat,s=szN c:=⟨_,rfl⟩
  have es:c/4%8=(s:Int):=by rw[hs];unfold szN;omega
  obtain⟨q,hq⟩:∃q:Nat,q=atN c:=⟨_,rfl⟩
  have eq:c/512%((s:Int)+1)=(q:Int):=by rw[hq];unfold atN;have:=Py (c/512) (show((s:Int)+1)≠0 by omega);rw[<-hs];omega
  ext;rw[es,jz (l:=((Zy c s).map λx=>(⟨#[x]⟩:af)).map D.str) (by rfl) (by rw[za];omega) ?_ (.inl rfl)];rotate_left
  .rw[Xm,Qy,Zy,Xa,Xa];refine ju λk hk'=>qi (by ext) ?_;have hk:=Xp.mp hk';ext;rw[j3e nofun];ext;simp
  rw[j1x (Wm (by rw[v9];omega)),Bk];have lg:(sL (Zy c s)).length=s:=by rw[Jk,v9]
  ext;rw[eq,jz (l:=(J2 c m).map D.str) (by rfl) (by rw[za];omega) ?_ (.inl rfl)]
  .ext
  .rw[Xm,Qy,J2,Xa];refine ju λk hk'=>qi (by ext) ?_;have hk:=Xp.mp hk';ext;rw[j3e nofun];ext;rw[Ow (by rw[v9];omega),Ox (by rw[v9];omega)];have e1:(⟨#[lt ((c/9+7*(0+(k:Int)))%26)]⟩:af)=sL [lt ((c/9+7*(0+(k:Int)))%26)]:=rfl;have l1:(sL ((Zy c s).take q)).length=q:=by rw[Jk,Xi,v9];omega
   have l2:(sL ((Zy c s).drop q)).length=s-q:=by rw[Jk,Pq,v9]
   have l3:(sL [lt ((c/9+7*(0+(k:Int)))%26)]).length=1:=rfl;have l4:(sL ((Zy c s).take q)++sL [lt ((c/9+7*(0+(k:Int)))%26)]).length=q+1:=by rw[Wf,Jk,Xe,Xi,v9,xq,Te];omega
   rw[e1];ext;rw[Wf,Wf];simp only[ck,wrd,h,if_false,<-hs,<-hq,Ti,List.singleton_append,bS]
theorem Ky:∀{l:List Int},(∀x∈l,0<=x/\x<=32)->0<=l.sum/\l.sum<=32*(l.length:Int)
 |[],_=>by simp
 |a::r,h=>by have h1:=h a (xm ..);have h2:=Ky (l:=r) λx hx=>h x (km _ hx);rw[List.sum_cons,xq];omega
theorem p2k{k:Nat}(h:k<=5):0<(2:Int)^k/\(2:Int)^k<=32:=by
 have:k=0\/k=1\/k=2\/k=3\/k=4\/k=5:=by omega
 rcases this with e|e|e|e|e|e<;>subst e<;>decide
noncomputable def Vk(row:List Int)(c:Int):List Nat:=(ar row.length).filter λ(k:Nat)=>decide (c/(1*2^(0+(k:Int)).toNat)%2=1)
noncomputable def Ys(row:List Int)(c:Int):List Int:=(Vk row c).map λ(k:Nat)=>row.getD k 0*2^(0+(k:Int)).toNat
noncomputable def byL(row:List Int):List Int:=row.zipIdx.map λp=>p.1*2^((p.2:Nat):Int).toNat
theorem t0k(k:Nat):(0+(k:Int)).toNat=k:=by omega
theorem Kh{row:List Int}(h01:∀x∈row,x=0\/x=1)(k:Nat):row.getD k 0=0\/row.getD k 0=1:=by
 rw[xf];cases h:row[k]? with
 |none=>exact .inl rfl
 |some v=>exact h01 v (Xl h)
theorem jbj{row:List Int}{c:Int}(h01:∀x∈row,x=0\/x=1)(hl:row.length<=6):0<=(Ys row c).sum/\(Ys row c).sum<=192:=by
 have h:=Ky (l:=Ys row c) λx hx=>by
  obtain⟨k,hk,rfl⟩:=X8.mp hx;have hk2:=Xp.mp (Xy.mp hk).1;have p:=p2k (k:=k) nofun
  rw[t0k];rcases Kh h01 k with e|e<;>rw[e]<;>omega
 have l:(Ys row c).length<=6:=by unfold Ys Vk;rw[kj];exact Xk (Xz _ _) (by rw[Xh];exact hl)
 omega
theorem jis{row:List Int}(h01:∀x∈row,x=0\/x=1)(hl:row.length<=6):0<=(byL row).sum/\(byL row).sum<=192:=by
 have h:=Ky (l:=byL row) λx hx=>by
  obtain⟨p,hp,rfl⟩:=X8.mp hx;obtain⟨a,k⟩:=p;have hm:=jX hp;have p:=p2k (k:=k) nofun
  show 0<=a*2^((k:Nat):Int).toNat/\a*2^((k:Nat):Int).toNat<=32;rw[Xm];have:=h01 a (by rw[hm.2.2];exact Xr _);rcases this with e|e<;>rw[e]<;>omega
 have l:(byL row).length<=6:=by unfold byL;rw[kj,bY];exact hl
 omega
theorem jgk {fu n:Nat} (hT:T "_law_bit" = a3 fL_bit) {row:List Int} {kd c:Int} (h01:∀x∈row,x=0\/x=1) (hl:1<=row.length/\row.length<=6):∃b:Int,(b=0\/b=1)/\evP fu G T (n+1) "_law_bit" [.lst (row.map D.int),.int kd,.int c]=.val (.int b):=by
 rw[jx (F:=fL_bit) hT rfl];simp only[fL_bit,Ud,enter];have kb:=jbj (c:=c) h01 hl.2;have bb:=jis h01 hl.2;have sl:(Vk row c).length<=6:=by unfold Vk;exact Xk (Xz _ _) (by rw[Xh];exact hl.2)
 have get:∀k:Nat,k∈Vk row c->atI (row.map D.int) (0+(k:Int))=a3 (.int (row.getD k 0)):=λk hk=>j1z (Xp.mp (Xy.mp hk).1);ext;rw[jz (l:=(Vk row c).map λ(k:Nat)=>D.int (0+(k:Int))) (by rfl) (by rw[za];omega) ?_ (.inl rfl)];rotate_left
 .rw[Xm,Qy,Vk];refine W8 λk hk'=>?_;have hk:=Xp.mp hk';have p:0<(2:Int)^(0+(k:Int)).toNat/\(2:Int)^(0+(k:Int)).toNat<=32:=by rw[t0k];exact p2k nofun
  refine Ko ?_ λ_=>?_
  .ext;simp only[j2c];ext
  .ext
 ext;rw[jz (l:=(Ys row c).map D.int) (by rfl) (by rw[kj];omega) ?_ (.inr (vy _))];rotate_left
 .rw[Ys,Xa];refine ju λk hk'=>qi (by ext) ?_;have b:=Kh h01 k;have hk:=Xp.mp (Xy.mp hk').1;ext;rw[get k hk'];ext;rfl
 ext;rw[jz (l:=(byL row).map D.int) (by rfl) (by simp only[zb,kj,bY];omega) ?_ (.inl rfl)];rotate_left
 .rw[byL,Xa,zb,List.zipIdx_map,Xa];refine ju λq hq=>?_;obtain⟨a,k⟩:=q;have hm:=jX hq;have h1:=h01 a (by rw[hm.2.2];exact Xr _);show Zx _ _ _ _ (D.tup [.int (k:Int),.int a])=_;refine Ni (by ext) ?_;ext;rfl
 ext;generalize (Ys row c).sum=kept at *;generalize (byL row).sum=byr at *;by_cases k1:kd=1
 .refine⟨if decide (c/64%(row.length:Int)<row.sum)=a5 then 1 else 0,by split<;>simp,?_⟩;ext;simp only[jcf];ext
 .by_cases k2:kd=2
  .refine⟨if decide ((byr+1)*(1+c%1000003)%2147483629/32%5=0)=a5 then 1 else 0,by split<;>simp,?_⟩;ext;simp only[j2c];ext
  .by_cases k3:kd=3
   .refine⟨(kept*kept+17*kept+69621)*(1+c%1000003)%2147483647/16%2,by omega,?_⟩;ext
   .by_cases k4:kd=4
    .refine⟨(((Vk row c).map λ(k:Nat)=>row.getD k 0).sum+c/64)%2,by omega,?_⟩;ext;rw[jz (l:=((Vk row c).map λ(k:Nat)=>row.getD k 0).map D.int) (by rfl) (by rw[kj];omega) ?_ (.inr (vy _))]
     .ext
     .rw[Xa];refine ju λk hk'=>qi (by ext) ?_;ext;rw[get k hk'];ext;rfl
    .refine⟨(byr*byr+48271)*(c%1000003+byr+1)%2147483647/64%2,by omega,?_⟩;ext
noncomputable def Dm(fu:Nat)(G:af->Option D)(T:af->Option Fi)(n:Nat)(row:List Int)(kd c:Int):Int:=match evP fu G T (n+1) "_law_bit" [.lst (row.map D.int),.int kd,.int c] with
 |.val (.int b)=>b
 |_=>0
theorem j0o {fu n:Nat} (hT:T "_law_bit" = a3 fL_bit) {row:List Int} {kd c:Int} (h01:∀x∈row,x=0\/x=1) (hl:1<=row.length/\row.length<=6):(Dm fu G T n row kd c=0\/Dm fu G T n row kd c=1)/\evP fu G T (n+1) "_law_bit" [.lst (row.map D.int),.int kd,.int c]=.val (.int (Dm fu G T n row kd c)):=by obtain⟨b,hb,e⟩:=jgk (fu:=fu) (n:=n) (G:=G) hT h01 hl (kd:=kd) (c:=c);unfold Dm;rw[e];exact⟨hb,rfl⟩
theorem j3p(m:Nat)(z:Int):∀x∈j4 2 m z,x=0\/x=1:=by
 intro x hx;obtain⟨i,hi⟩:=List.mem_iff_getElem?.mp hx;have hl:i<m:=by have:=(X3.mp hi).1;rw[jw]at this;exact this
 rw[Qa 2 hl]at hi;cases hi;omega
noncomputable def Vl(ns:List Int)(a most:Nat):Nat:=(1+qp ns a%(most:Int)).toNat
noncomputable def Yk(fu:Nat)(G:af->Option D)(T:af->Option Fi)(n:Nat)(ns:List Int)(a most:Nat):List Int :=
 (ar (2^Vl ns a most)).map λ(k:Nat)=>Dm fu G T n (j4 2 (Vl ns a most) (k:Int)) (qp ns a/(most:Int)%5) (qp ns (a+2))
theorem Fo{ns:List Int}{a most:Nat}(h:1<=most/\most<=6):1<=Vl ns a most/\Vl ns a most<=most:=by unfold Vl;have h1:=Py (qp ns a) (show(most:Int)≠0 by omega);have h2:=T9 (qp ns a) (show(0:Int)<most by omega);omega
theorem jcn {fu n:Nat} (hB:T "_law_bit" = a3 fL_bit) {ns:List Int} {a most:Nat} (hm:1<=most/\most<=6):∀x∈Yk fu G T n ns a most,x=0\/x=1:=by intro x hx;obtain⟨k,_,rfl⟩:=X8.mp hx;have mb:=Fo (ns:=ns) (a:=a) hm;exact(j0o hB (j3p _ _) (by rw[jw];omega)).1
theorem K3 {fu n:Nat} (hC:T "_law_cell" = a3 fL_cell) (hW:T "_law_words" = a3 fL_words) (hB:T "_law_bit" = a3 fL_bit) (hT:T "_law_question" = a3 fL_question) {ns:List Int} {a most:Nat} (ha:a<=50) (hm:1<=most/\most<=6) :
  evP fu G T (n+2) "_law_question" [.lst (ns.map D.int),.int a,.int most]=.val (.tup [.tup ((J2 (qp ns (a+1)) (Vl ns a most)).map D.str),.tup ((Yk fu G T n ns a most).map D.int)]):=by
 rw[jx (F:=fL_question) hT rfl];simp only[fL_question,Jv,enter];have mb:=Fo (ns:=ns) (a:=a) hm;obtain⟨m,em⟩:∃m:Nat,m=Vl ns a most:=⟨_,rfl⟩
 have em2:1+qp ns a%(most:Int)=(m:Int):=by rw[em];unfold Vl;have h1:=Py (qp ns a) (show(most:Int)≠0 by omega);omega
 rw[<-em]at mb;have p2:=jdy (m:=m) nofun
 have pc:((2^m:Nat):Int)=(2:Int)^m:=by simp
 have e3:(1*2^m:Int).toNat=2^m:=by rw[iG,<-pc];exact Xm _
 have c0:evP fu G T (n+1) "_law_cell" [.lst (ns.map D.int),.int a]=.val (.int (qp ns a)):=Vb hC nofun
 have c1:evP fu G T (n+1) "_law_cell" [.lst (ns.map D.int),.int ((a:Int)+1)]=.val (.int (qp ns (a+1))):=Vb hC (k:=a+1) nofun
 have c2:evP fu G T (n+1) "_law_cell" [.lst (ns.map D.int),.int ((a:Int)+2)]=.val (.int (qp ns (a+2))):=Vb hC (k:=a+2) nofun
 have wl:(J2 (qp ns (a+1)) m).length=m:=W7 _ _;ext;rw[c0];ext;rw[em2,c1];ext;erw[j2l hW nofun,c0,Xm];rw[e3];rw[O8 (λi=>[.val (.lst (ns.map D.int)),.val (.int a),.val (.int most),.val (.int m),.own ((J2 (qp ns (a+1)) m).map D.str),.val (.int (qp ns a/(most:Int)%5)),.own (((Yk fu G T n ns a most).take i).map D.int),if i=0 then .un else .val (.int ((i:Int)-1)),if i=0 then .un else .own ((j4 2 m ((i:Int)-1)).map D.int),.un]) (by simp)]
 .ext;rw[za,Tv (by simp[Yk,<-em]),<-em]
 .intro i d hi;obtain⟨h1,rfl⟩:=Vv hi;have hz:=j3p m (0+(i:Int));have hlz:=jw 2 m (0+(i:Int));obtain⟨hb,eb⟩:=j0o (fu:=fu) (n:=n) (G:=G) hB hz nofun (kd:=qp ns a/(most:Int)%5) (c:=qp ns (a+2))
  have lt64:2^m<=64:=by omega
  have al:(Yk fu G T n ns a most).length=2^m:=by simp[Yk,<-em]
  have ag:(Yk fu G T n ns a most)[i]?=a3 (Dm fu G T n (j4 2 m (0+(i:Int))) (qp ns a/(most:Int)%5) (qp ns (a+2))):=by unfold Yk;rw[<-em,xx,Xw h1,bS];rfl
  simp only[Jh];ext;rw[jz (l:=(j4 2 m (0+(i:Int))).map D.int) (by rfl) (by rw[za];omega) ?_ (.inl rfl)];rotate_left
  .have ed:j4 2 m (0+(i:Int))=(ar m).map λ(k:Nat)=>(0+(i:Int))/2^(m-k-1)%2:=by
    refine Sg λk=>?_;by_cases hk:k<m
    .rw[Qa 2 hk,xx,Xw hk];rfl
    .rw[ph (by rw[jw];omega),ph (by simp;omega)]
   rw[Xm,Qy,ed,Xa];refine ju λk hk'=>qi (by ext) ?_;have hk:=Xp.mp hk';have et:((m:Int)-(0+(k:Int))-1).toNat=m-k-1:=by omega
   have p:=p2k (k:=m-k-1) nofun
   rw[<-et]at p;ext;rw[et,iG];rfl
  ext;rw[c2];ext;rw[j8o,eb];ext;rw[jgo (by simp only[kj,Xi];omega) rfl];ext;rw[Tj,ag];simp
end
end KW
section
namespace K41
open PySem PySem.Spec PyProof.Rows L2
noncomputable def top(i:Nat):aS:=PySem.Challenge.pw_leastasks_k41_rounds_to_ask.main.body.getD i (.Pass ⟨0,0,0,0⟩)
noncomputable def Qv:Sx:=(.seq (.ret (.call "number_of" (.cons (.var 0) (.cons (.blt .len (.cons (.glob "ANSWERS") .nil)) .nil)))) .nop)
noncomputable def Vg:Fi:=⟨1,1,Qv,a4⟩
noncomputable def Ql:Sx:=(.seq (.ret (.call "all_choices" (.cons (.comp [1] (.ite (.cmp .eq (.var 1) (.glob "NOT_TOLD")) (.glob "ANSWERS") (.tup (.cons (.var 1) .nil))) (.seq (.var 0)) .nil) .nil))) .nop)
noncomputable def fP_rows_in:Fi:=⟨1,2,Ql,a4⟩
noncomputable def V7:Sx:=(.seq (.ret (.call "all_choices" (.cons (.comp [1] (.ite (.cmp .eq (.var 1) (.glob "NOT_TOLD")) (.glob "TELLINGS") (.tup (.cons (.var 1) .nil))) (.seq (.var 0)) .nil) .nil))) .nop)
noncomputable def U3:Fi:=⟨1,2,V7,a4⟩
noncomputable def J1:Sx:=(.seq (.set 1 (.lst (.cons (.tup .nil) .nil))) (.seq (.loop [2] (.seq (.var 0)) (.seq (.set 3 (.lst .nil)) (.seq (.loop [4] (.seq (.var 1)) (.seq (.ext 3 (.comp [5] (.bin .add (.var 4) (.tup (.cons (.var 5) .nil))) (.seq (.var 2)) .nil)) .nop)) (.seq (.mov 1 3) .nop)))) (.seq (.retV 1) .nop)))
noncomputable def fP_all_choices:Fi:=⟨1,6,J1,a4⟩
noncomputable def Zd:Sx:=(.seq (.set 2 (.lit (.int 0))) (.seq (.loop [3] (.seq (.var 0)) (.seq (.set 2 (.bin .add (.bin .mul (.var 2) (.var 1)) (.var 3))) .nop)) (.seq (.retV 2) .nop)))
noncomputable def Y9:Fi:=⟨2,4,Zd,a4⟩
noncomputable def Ze:Sx:=(.seq (.ret (.ix (.ix (.var 0) (.lit (.int 1))) (.call "row_number" (.cons (.var 1) .nil)))) .nop)
noncomputable def Yb:Fi:=⟨2,2,Ze,a4⟩
noncomputable def Qu:Sx:=(.seq (.set 2 (.call "counted_in" (.cons (.var 0) (.cons (.var 1) .nil)))) (.seq (.ife (.cmp .eq (.ix (.var 2) (.lit (.int 1))) (.lit (.int 0))) (.seq (.ret (.lit (.int 0))) .nop) .nop) (.seq (.ife (.cmp .eq (.ix (.var 2) (.lit (.int 0))) (.lit (.int 0))) (.seq (.ret (.lit (.int 1))) .nop) .nop) (.seq (.ret (.lit (.non))) .nop))))
noncomputable def Vf:Fi:=⟨2,3,Qu,a4⟩
noncomputable def Qw:Sx:=(.seq (.set 2 (.comp [3] (.call "answer_to" (.cons (.var 0) (.cons (.var 3) .nil))) (.seq (.call "rows_in" (.cons (.var 1) .nil))) .nil)) (.seq (.ret (.tup (.cons (.meth .count (.var 2) (.cons (.lit (.int 0)) .nil)) (.cons (.meth .count (.var 2) (.cons (.lit (.int 1)) .nil)) .nil)))) .nop))
noncomputable def Vh:Fi:=⟨2,4,Qw,a4⟩
noncomputable def U4:Sx:=(.seq (.ret (.bin .mul (.tup (.cons (.glob "NOT_TOLD") .nil)) (.blt .len (.cons (.ix (.var 0) (.lit (.int 0))) .nil)))) .nop)
noncomputable def j15:Fi:=⟨1,1,U4,a4⟩
noncomputable def Jb:Sx:=(.nmake 3 4 5 (.seq (.call "parts_in" (.cons (.var 0) .nil))) (.not (.isN (.call "settled_by" (.cons (.var 1) (.cons (.var 4) .nil))))) (.ite (.var 5) (.lit (.int 0)) (.callV 2 (.cons (.var 3) (.cons (.var 4) .nil)))))
noncomputable def Qo:Fi:=⟨3,6,Jb,a4⟩
noncomputable def Qm:Sx:=(.seq (.expr (.call "refuse_wrong_round" (.cons (.var 1) .nil))) (.seq (.ret (.dvals (.call "round_numbers" (.cons (.call "all_open" (.cons (.var 0) .nil)) (.cons (.var 0) (.cons (.var 1) .nil)))))) .nop))
noncomputable def Zr:Fi:=⟨2,2,Qm,a4⟩
noncomputable def vh:Sx:=(.seq (.expr (.call "refuse_wrong_round" (.cons (.var 2) .nil))) (.seq (.ife (.not (.isN (.call "settled_by" (.cons (.var 0) (.cons (.var 1) .nil))))) (.seq (.ret (.lst .nil)) .nop) .nop) (.seq (.set 3 (.ix (.call "best_round" (.cons (.call "round_numbers" (.cons (.var 1) (.cons (.var 0) (.cons (.var 2) .nil)))) (.cons (.var 1) (.cons (.var 2) .nil)))) (.lit (.int 1)))) (.seq (.ret (.comp [4] (.ix (.ix (.var 0) (.lit (.int 0))) (.var 4)) (.seq (.var 3)) .nil)) .nop))))
noncomputable def zr:Fi:=⟨3,5,vh,a4⟩
noncomputable def Jt:Sx:=(.seq (.retC "numbers_within" "round_numbers" (.var 0) (.var 1) [2]) .nop)
noncomputable def Z3:Fi:=⟨3,3,Jt,a4⟩
noncomputable def Qx:Sx:=(.seq (.ret (.minT (.comp [3] (.tup (.cons (.call "greatest_behind" (.cons (.var 0) (.cons (.var 1) (.cons (.var 3) .nil)))) (.cons (.var 3) .nil))) (.seq (.call "rounds_at" (.cons (.var 1) (.cons (.var 2) .nil)))) .nil))) .nop)
noncomputable def Vi:Fi:=⟨3,4,Qx,a4⟩
noncomputable def J9:Sx:=(.seq (.set 3 (.call "all_choices" (.cons (.comp [4,5] (.ite (.cmp .isin (.var 4) (.var 2)) (.glob "ANSWERS") (.tup (.cons (.var 5) .nil))) (.enum (.var 1)) .nil) .nil))) (.seq (.ret (.blt .max (.cons (.comp [6] (.dget (.var 0) (.var 6)) (.seq (.var 3)) .nil) .nil))) .nop))
noncomputable def Q9:Fi:=⟨3,7,J9,a4⟩
noncomputable def Zc:Sx:=(.seq (.set 2 (.lst (.cons (.tup .nil) .nil))) (.seq (.loop [3,4] (.enum (.var 0)) (.seq (.ife (.cmp .eq (.var 4) (.glob "NOT_TOLD")) (.seq (.set 2 (.bin .add (.var 2) (.comp [5] (.bin .add (.var 5) (.tup (.cons (.var 3) .nil))) (.seq (.var 2)) (.cons (.cmp .lt (.blt .len (.cons (.var 5) .nil)) (.var 1)) .nil)))) .nop) .nop) .nop)) (.seq (.ret (.sl (.var 2) (.cons (.lit (.int 1)) .nil) .nil)) .nop)))
noncomputable def Y8:Fi:=⟨2,6,Zc,a4⟩
noncomputable def zj:Sx:=(.seq (.ife (.or (.cmp .lt (.var 0) (.glob "FEWEST_AT_ONCE")) (.cmp .gt (.var 0) (.glob "MOST_AT_ONCE"))) (.seq (.raise "WrongSize" (.fst (.cons (.glob "FEWEST_AT_ONCE") (.cons (.lit (.str " to ")) (.cons (.glob "MOST_AT_ONCE") (.cons (.lit (.str " places are asked at once, not ")) (.cons (.var 0) .nil))))))) .nop) .nop) .nop)
noncomputable def zg:Fi:=⟨1,1,zj,a4⟩
noncomputable def Vs:Sx:=(.seq (.ife (.cmp .lt (.var 1) (.blt .len (.cons (.var 0) .nil))) (.seq (.ret (.ix (.var 0) (.var 1))) .nop) .nop) (.seq (.set 2 (.bin .add (.lit (.int 70001)) (.bin .mul (.bin .mul (.lit (.int 911)) (.var 1)) (.var 1)))) (.seq (.ife (.cmp .gt (.blt .len (.cons (.var 0) .nil)) (.lit (.int 0))) (.seq (.set 2 (.bin .add (.var 2) (.bin .mul (.bin .mod (.ix (.var 0) (.lit (.int 0))) (.lit (.int 9973))) (.bin .add (.bin .mul (.lit (.int 3)) (.var 1)) (.lit (.int 1)))))) .nop) .nop) (.seq (.retV 2) .nop))))
noncomputable def fL_cell:Fi:=⟨2,3,Vs,a4⟩
noncomputable def Zw:Sx:=(.seq (.set 2 (.lit (.str "mdkbvqhzcgrnapxolsiefwtyju"))) (.seq (.ife (.cmp .lt (.bin .mod (.var 0) (.lit (.int 4))) (.lit (.int 2))) (.seq (.set 3 (.join "" (.comp [4] (.ix (.var 2) (.bin .mod (.bin .fdiv (.var 0) (.bin .add (.lit (.int 4)) (.bin .mul (.lit (.int 5)) (.var 4)))) (.lit (.int 26)))) (.range (.cons (.lit (.int 8)) .nil)) .nil))) (.seq (.set 5 (.bin .mod (.bin .fdiv (.var 0) (.lit (.int 8))) (.bin .sub (.lit (.int 9)) (.var 1)))) (.seq (.ife (.cmp .eq (.bin .mod (.var 0) (.lit (.int 4))) (.lit (.int 0))) (.seq (.ret (.comp [4] (.sl (.var 3) .nil (.cons (.bin .add (.bin .add (.var 5) (.var 4)) (.lit (.int 1))) .nil)) (.range (.cons (.var 1) .nil)) .nil)) .nop) .nop) (.seq (.ret (.comp [4] (.sl (.var 3) (.cons (.bin .sub (.bin .sub (.bin .sub (.lit (.int 8)) (.var 5)) (.var 4)) (.lit (.int 1))) .nil) .nil) (.range (.cons (.var 1) .nil)) .nil)) .nop)))) .nop) (.seq (.set 6 (.bin .mod (.bin .fdiv (.var 0) (.lit (.int 4))) (.lit (.int 8)))) (.seq (.set 7 (.join "" (.comp [4] (.ix (.var 2) (.bin .mod (.bin .add (.bin .add (.bin .fdiv (.var 0) (.lit (.int 32))) (.bin .mul (.bin .mul (.lit (.int 3)) (.var 4)) (.var 4))) (.var 4)) (.lit (.int 26)))) (.range (.cons (.var 6) .nil)) .nil))) (.seq (.set 8 (.bin .mod (.bin .fdiv (.var 0) (.lit (.int 512))) (.bin .add (.var 6) (.lit (.int 1))))) (.seq (.ret (.comp [4] (.bin .add (.bin .add (.sl (.var 7) .nil (.cons (.var 8) .nil)) (.ix (.var 2) (.bin .mod (.bin .add (.bin .fdiv (.var 0) (.lit (.int 9))) (.bin .mul (.lit (.int 7)) (.var 4))) (.lit (.int 26))))) (.sl (.var 7) (.cons (.var 8) .nil) .nil)) (.range (.cons (.var 1) .nil)) .nil)) .nop))))))
noncomputable def fL_words:Fi:=⟨2,9,Zw,a4⟩
noncomputable def Ud:Sx:=(.seq (.set 3 (.comp [4] (.var 4) (.range (.cons (.blt .len (.cons (.var 0) .nil)) .nil)) (.cons (.cmp .eq (.bin .mod (.bin .fdiv (.var 2) (.bin .shl (.lit (.int 1)) (.var 4))) (.lit (.int 2))) (.lit (.int 1))) .nil))) (.seq (.set 5 (.blt .sum (.cons (.comp [4] (.bin .shl (.ix (.var 0) (.var 4)) (.var 4)) (.seq (.var 3)) .nil) .nil))) (.seq (.set 6 (.blt .sum (.cons (.comp [4,7] (.bin .shl (.var 7) (.var 4)) (.enum (.var 0)) .nil) .nil))) (.seq (.ife (.cmp .eq (.var 1) (.lit (.int 1))) (.seq (.ret (.blt .int (.cons (.cmp .gt (.blt .sum (.cons (.var 0) .nil)) (.bin .mod (.bin .fdiv (.var 2) (.lit (.int 64))) (.blt .len (.cons (.var 0) .nil)))) .nil))) .nop) .nop) (.seq (.ife (.cmp .eq (.var 1) (.lit (.int 2))) (.seq (.set 8 (.bin .mod (.bin .mul (.bin .add (.var 6) (.lit (.int 1))) (.bin .add (.lit (.int 1)) (.bin .mod (.var 2) (.lit (.int 1000003))))) (.lit (.int 2147483629)))) (.seq (.ret (.blt .int (.cons (.cmp .eq (.bin .mod (.bin .fdiv (.var 8) (.lit (.int 32))) (.lit (.int 5))) (.lit (.int 0))) .nil))) .nop)) .nop) (.seq (.ife (.cmp .eq (.var 1) (.lit (.int 3))) (.seq (.set 8 (.bin .mul (.bin .add (.bin .add (.bin .mul (.var 5) (.var 5)) (.bin .mul (.lit (.int 17)) (.var 5))) (.lit (.int 69621))) (.bin .add (.lit (.int 1)) (.bin .mod (.var 2) (.lit (.int 1000003)))))) (.seq (.ret (.bin .mod (.bin .fdiv (.bin .mod (.var 8) (.lit (.int 2147483647))) (.lit (.int 16))) (.lit (.int 2)))) .nop)) .nop) (.seq (.ife (.cmp .eq (.var 1) (.lit (.int 4))) (.seq (.ret (.bin .mod (.bin .add (.blt .sum (.cons (.comp [4] (.ix (.var 0) (.var 4)) (.seq (.var 3)) .nil) .nil)) (.bin .fdiv (.var 2) (.lit (.int 64)))) (.lit (.int 2)))) .nop) .nop) (.seq (.set 8 (.bin .mul (.bin .add (.bin .mul (.var 6) (.var 6)) (.lit (.int 48271))) (.bin .add (.bin .add (.bin .mod (.var 2) (.lit (.int 1000003))) (.var 6)) (.lit (.int 1))))) (.seq (.ret (.bin .mod (.bin .fdiv (.bin .mod (.var 8) (.lit (.int 2147483647))) (.lit (.int 64))) (.lit (.int 2)))) .nop)))))))))
noncomputable def fL_bit:Fi:=⟨3,9,Ud,a4⟩
noncomputable def Jv:Sx:=(.seq (.set 3 (.bin .add (.lit (.int 1)) (.bin .mod (.call "_law_cell" (.cons (.var 0) (.cons (.var 1) .nil))) (.var 2)))) (.seq (.set 4 (.call "_law_words" (.cons (.call "_law_cell" (.cons (.var 0) (.cons (.bin .add (.var 1) (.lit (.int 1))) .nil))) (.cons (.var 3) .nil)))) (.seq (.set 5 (.bin .mod (.bin .fdiv (.call "_law_cell" (.cons (.var 0) (.cons (.var 1) .nil))) (.var 2)) (.lit (.int 5)))) (.seq (.set 6 (.lst .nil)) (.seq (.loop [7] (.range (.cons (.bin .shl (.lit (.int 1)) (.var 3)) .nil)) (.seq (.set 8 (.comp [9] (.bin .mod (.bin .fdiv (.var 7) (.bin .shl (.lit (.int 1)) (.bin .sub (.bin .sub (.var 3) (.var 9)) (.lit (.int 1))))) (.lit (.int 2))) (.range (.cons (.var 3) .nil)) .nil)) (.seq (.app 6 (.call "_law_bit" (.cons (.var 8) (.cons (.var 5) (.cons (.call "_law_cell" (.cons (.var 0) (.cons (.bin .add (.var 1) (.lit (.int 2))) .nil))) .nil))))) .nop))) (.seq (.ret (.tup (.cons (.blt .tuple (.cons (.var 4) .nil)) (.cons (.blt .tuple (.cons (.var 6) .nil)) .nil)))) .nop))))))
noncomputable def fL_question:Fi:=⟨3,10,Jv,a4⟩
noncomputable def Yj:Sx:=(.seq (.set 1 (.lst .nil)) (.seq (.ife (.isx 0 ["NoAsk"]) (.seq (.app 1 (.lit (.str "NoAsk"))) .nop) .nop) (.seq (.ife (.isx 0 ["NoPlace"]) (.seq (.app 1 (.lit (.str "NoPlace"))) .nop) .nop) (.seq (.ife (.isx 0 ["NoPlan","NoText"]) (.seq (.app 1 (.lit (.str "NoPlan or NoText"))) .nop) .nop) (.seq (.ife (.isx 0 ["NoWord"]) (.seq (.app 1 (.lit (.str "NoWord"))) .nop) .nop) (.seq (.ife (.isx 0 ["Twice"]) (.seq (.app 1 (.lit (.str "Twice"))) .nop) .nop) (.seq (.ife (.isx 0 ["Unlike"]) (.seq (.app 1 (.lit (.str "Unlike"))) .nop) .nop) (.seq (.ife (.isx 0 ["WrongAnswers"]) (.seq (.app 1 (.lit (.str "WrongAnswers"))) .nop) .nop) (.seq (.ife (.isx 0 ["WrongPrices"]) (.seq (.app 1 (.lit (.str "WrongPrices"))) .nop) .nop) (.seq (.ife (.isx 0 ["WrongWeights"]) (.seq (.app 1 (.lit (.str "WrongWeights"))) .nop) .nop) (.seq (.ife (.isx 0 ["WrongSize"]) (.seq (.app 1 (.lit (.str "WrongSize"))) .nop) .nop) (.seq (.ife (.not (.isx 0 ["ValueError"])) (.seq (.app 1 (.lit (.str "no ValueError"))) .nop) .nop) (.seq (.retV 1) .nop)))))))))))))
noncomputable def j08:Fi:=⟨1,2,Yj,a4⟩
noncomputable def Yv:Sx:=(.seq (.set 1 (.lit (.int 1))) (.seq (.loop [2] (.range (.cons (.var 0) .nil)) (.seq (.set 1 (.bin .mul (.lit (.int 3)) (.var 1))) .nop)) (.seq (.retV 1) .nop)))
noncomputable def Wr:Fi:=⟨1,3,Yv,a4⟩
noncomputable def Yx:Sx:=(.seq (.set 2 (.lst .nil)) (.seq (.loop [3] (.range (.cons (.var 0) .nil)) (.seq (.set 2 (.bin .add (.lst (.cons (.bin .mod (.var 1) (.lit (.int 3))) .nil)) (.var 2))) (.seq (.set 1 (.bin .fdiv (.var 1) (.lit (.int 3)))) .nop))) (.seq (.retV 2) .nop)))
noncomputable def Wt:Fi:=⟨2,4,Yx,a4⟩
noncomputable def W0:Sx:=(.seq (.set 2 (.call "_law_digits" (.cons (.var 0) (.cons (.var 1) .nil)))) (.seq (.set 3 (.lst .nil)) (.seq (.loop [4] (.range (.cons (.var 0) .nil)) (.seq (.ife (.cmp .eq (.ix (.var 2) (.var 4)) (.lit (.int 2))) (.seq (.set 5 (.call "_law_threes" (.cons (.bin .sub (.bin .sub (.var 0) (.lit (.int 1))) (.var 4)) .nil))) (.seq (.app 3 (.tup (.cons (.var 4) (.cons (.bin .sub (.var 1) (.bin .mul (.lit (.int 2)) (.var 5))) (.cons (.bin .sub (.var 1) (.var 5)) .nil))))) .nop)) .nop) .nop)) (.seq (.retV 3) .nop))))
noncomputable def Od:Fi:=⟨2,6,W0,a4⟩
noncomputable def M7:Sx:=(.seq (.set 1 (.blt .len (.cons (.ix (.var 0) (.lit (.int 0))) .nil))) (.seq (.set 2 (.lst .nil)) (.seq (.loop [3] (.range (.cons (.call "_law_threes" (.cons (.var 1) .nil)) .nil)) (.seq (.set 4 (.call "_law_steps" (.cons (.var 1) (.cons (.var 3) .nil)))) (.seq (.ife (.cmp .eq (.blt .len (.cons (.var 4) .nil)) (.lit (.int 0))) (.seq (.set 5 (.lit (.int 0))) (.seq (.loop [6] (.seq (.call "_law_digits" (.cons (.var 1) (.cons (.var 3) .nil)))) (.seq (.set 5 (.bin .add (.bin .mul (.lit (.int 2)) (.var 5)) (.var 6))) .nop)) (.seq (.app 2 (.tup (.cons (.ix (.ix (.var 0) (.lit (.int 1))) (.var 5)) (.cons (.lit (.int 1)) .nil)))) .nop))) (.seq (.set 7 (.ix (.var 2) (.ix (.ix (.var 4) (.lit (.int 0))) (.lit (.int 1))))) (.seq (.set 8 (.ix (.var 2) (.ix (.ix (.var 4) (.lit (.int 0))) (.lit (.int 2))))) (.seq (.app 2 (.tup (.cons (.bin .add (.ix (.var 7) (.lit (.int 0))) (.ix (.var 8) (.lit (.int 0)))) (.cons (.bin .add (.ix (.var 7) (.lit (.int 1))) (.ix (.var 8) (.lit (.int 1)))) .nil)))) .nop)))) .nop))) (.seq (.retV 2) .nop))))
noncomputable def Df:Fi:=⟨1,9,M7,a4⟩
noncomputable def Vq:Sx:=(.seq (.ret (.chn (.lit (.int 0)) (.ix (.var 0) (.lit (.int 0))) (.ix (.var 0) (.lit (.int 1))))) .nop)
noncomputable def Us:Fi:=⟨1,1,Vq,a4⟩
noncomputable def Yy:Sx:=(.seq (.set 3 (.lst (.cons (.tup (.cons (.lst .nil) (.cons (.lst (.cons (.var 1) .nil)) .nil))) .nil))) (.seq (.loop [4,5,6,6] (.seq (.call "_law_steps" (.cons (.var 0) (.cons (.var 1) .nil)))) (.seq (.set 7 (.call "_law_threes" (.cons (.bin .sub (.bin .sub (.var 0) (.lit (.int 1))) (.var 4)) .nil))) (.seq (.set 8 (.lst .nil)) (.seq (.loop [9,10] (.seq (.var 3)) (.seq (.ife (.cmp .lt (.blt .len (.cons (.var 9) .nil)) (.var 2)) (.seq (.set 11 (.bin .add (.comp [12] (.bin .sub (.var 12) (.bin .mul (.lit (.int 2)) (.var 7))) (.seq (.var 10)) .nil) (.comp [12] (.bin .sub (.var 12) (.var 7)) (.seq (.var 10)) .nil))) (.seq (.keep 11) (.seq (.app 8 (.tup (.cons (.bin .add (.var 9) (.lst (.cons (.var 4) .nil))) (.cons (.var 11) .nil)))) .nop))) .nop) .nop)) (.seq (.set 3 (.bin .add (.var 3) (.var 8))) .nop))))) (.seq (.ret (.sl (.var 3) (.cons (.lit (.int 1)) .nil) .nil)) .nop)))
noncomputable def Wu:Fi:=⟨3,13,Yy,a4⟩
noncomputable def Yw:Sx:=(.seq (.set 2 (.blt .len (.cons (.ix (.var 0) (.lit (.int 0))) .nil))) (.seq (.set 3 (.lst .nil)) (.seq (.loop [4,5] (.enum (.call "_law_ones" (.cons (.var 0) .nil))) (.seq (.set 6 (.lit (.int 0))) (.seq (.ife (.call "_law_is_open" (.cons (.var 5) .nil)) (.seq (.set 7 (.call "_law_behind" (.cons (.var 2) (.cons (.var 4) (.cons (.var 1) .nil))))) (.seq (.set 6 (.bin .add (.lit (.int 1)) (.blt .min (.cons (.comp [8,9] (.blt .max (.cons (.comp [10] (.ix (.var 3) (.var 10)) (.seq (.var 9)) .nil) .nil)) (.seq (.var 7)) .nil) .nil)))) .nop)) .nop) (.seq (.app 3 (.var 6)) .nop)))) (.seq (.retV 3) .nop))))
noncomputable def Ws:Fi:=⟨2,11,Yw,a4⟩
noncomputable def Vp:Sx:=(.seq (.set 4 (.lst .nil)) (.seq (.tryK (.seq (.ife (.cmp .eq (.var 3) (.lit (.int 0))) (.seq (.expr (.call "round_table" (.cons (.var 0) (.cons (.var 2) .nil)))) .nop) (.seq (.expr (.call "round_to_ask" (.cons (.var 0) (.cons (.var 1) (.cons (.var 2) .nil))))) .nop)) .nop) 4 5) (.seq (.retV 4) .nop)))
noncomputable def Ur:Fi:=⟨4,6,Vp,a4⟩
noncomputable def W2:Sx:=(.seq (.set 5 (.blt .len (.cons (.ix (.var 0) (.lit (.int 0))) .nil))) (.seq (.set 6 (.call "round_to_ask" (.cons (.var 0) (.cons (.blt .tuple (.cons (.call "_law_digits" (.cons (.var 5) (.cons (.var 3) .nil))) .nil)) (.cons (.var 4) .nil))))) (.seq (.ife (.or (.not (.isi (.var 6) ["list"])) (.not (.call "_law_is_open" (.cons (.ix (.var 2) (.var 3)) .nil)))) (.seq (.ret (.and (.cmp .eq (.var 6) (.lst .nil)) (.isi (.var 6) ["list"]))) .nop) .nop) (.seq (.set 7 (.lst (.cons (.var 3) .nil))) (.seq (.keep 7) (.seq (.ife (.or (.cmp .lt (.blt .len (.cons (.var 6) .nil)) (.lit (.int 1))) (.cmp .gt (.blt .len (.cons (.var 6) .nil)) (.var 4))) (.seq (.ret (.lit (.bl a4))) .nop) .nop) (.lend 8 9 6 (.seq (.ife (.or (.not (.isi (.var 9) ["str"])) (.or (.cmp .notin (.var 9) (.ix (.var 0) (.lit (.int 0)))) (.cmp .isin (.var 9) (.sl (.var 6) .nil (.cons (.var 8) .nil))))) .fail .nop) (.seq (.set 10 (.tix (.blt .list (.cons (.ix (.var 0) (.lit (.int 0))) .nil)) (.var 9))) (.seq (.set 11 (.call "_law_threes" (.cons (.bin .sub (.bin .sub (.var 5) (.lit (.int 1))) (.var 10)) .nil))) (.seq (.ife (.cmp .ne (.bin .mod (.bin .fdiv (.var 3) (.var 11)) (.lit (.int 3))) (.lit (.int 2))) .fail .nop) (.seq (.set 7 (.bin .add (.comp [12] (.bin .sub (.var 12) (.bin .mul (.lit (.int 2)) (.var 11))) (.seq (.var 7)) .nil) (.comp [12] (.bin .sub (.var 12) (.var 11)) (.seq (.var 7)) .nil))) .nop))))) (.seq (.ret (.cmp .lt (.blt .max (.cons (.comp [13] (.ix (.var 1) (.var 13)) (.seq (.var 7)) .nil) .nil)) (.ix (.var 1) (.var 3)))) .nop))))))))
noncomputable def Oe:Fi:=⟨5,14,W2,a4⟩
noncomputable def j3u:Sx:=(.seq (.set 1 (.call "_law_question" (.cons (.var 0) (.cons (.lit (.int 0)) (.cons (.lit (.int 4)) .nil))))) (.seq (.set 2 (.blt .len (.cons (.ix (.var 1) (.lit (.int 0))) .nil))) (.seq (.set 3 (.call "_law_cell" (.cons (.var 0) (.cons (.lit (.int 3)) .nil)))) (.seq (.set 4 (.bin .add (.lit (.int 1)) (.bin .mod (.var 3) (.lit (.int 6))))) (.seq (.set 5 (.call "_law_rounds" (.cons (.var 1) (.cons (.var 4) .nil)))) (.seq (.set 6 (.call "_law_ones" (.cons (.var 1) .nil))) (.seq (.set 7 (.call "_law_threes" (.cons (.var 2) .nil))) (.seq (.set 8 (.bin .add (.lst (.cons (.bin .sub (.var 7) (.lit (.int 1))) (.cons (.bin .mod (.call "_law_cell" (.cons (.var 0) (.cons (.lit (.int 40)) .nil))) (.var 7)) .nil))) (.comp [9] (.bin .mod (.var 9) (.var 7)) (.seq (.sl (.var 0) (.cons (.lit (.int 41)) .nil) (.cons (.lit (.int 48)) .nil))) .nil))) (.seq (.keep 8) (.seq (.set 10 (.bin .add (.lit (.int 1)) (.bin .mod (.bin .add (.bin .add (.var 3) (.lit (.int 1))) (.bin .mod (.bin .fdiv (.var 3) (.lit (.int 6))) (.lit (.int 5)))) (.lit (.int 6))))) (.seq (.set 11 (.call "_law_rounds" (.cons (.var 1) (.cons (.var 10) .nil)))) (.seq (.loop [12,13] (.enum (.bin .add (.var 8) (.sl (.var 8) .nil (.cons (.lit (.int 1)) .nil)))) (.seq (.ife (.not (.call "_law_right" (.cons (.var 1) (.cons (.var 5) (.cons (.var 6) (.cons (.var 13) (.cons (.var 4) .nil))))))) (.seq (.ret (.lit (.bl a4))) .nop) .nop) (.seq (.ife (.and (.cmp .lt (.var 12) (.lit (.int 3))) (.not (.call "_law_right" (.cons (.var 1) (.cons (.var 11) (.cons (.var 6) (.cons (.var 13) (.cons (.var 10) .nil)))))))) (.seq (.ret (.lit (.bl a4))) .nop) .nop) .nop))) (.seq (.set 14 (.blt .tuple (.cons (.call "_law_digits" (.cons (.var 2) (.cons (.ix (.var 8) (.lit (.int 1))) .nil))) .nil))) (.seq (.loop [15] (.seq (.lst (.cons (.lit (.int 0)) (.cons (.lit (.int 7)) (.cons (.bin .sub (.neg (.lit (.int 1))) (.bin .mod (.bin .fdiv (.var 3) (.lit (.int 6))) (.bin .pow (.lit (.int 10)) (.lit (.int 9))))) (.cons (.bin .add (.lit (.int 7)) (.bin .mod (.bin .fdiv (.var 3) (.lit (.int 6))) (.bin .pow (.lit (.int 10)) (.lit (.int 9))))) .nil)))))) (.seq (.loop [16] (.range (.cons (.lit (.int 2)) .nil)) (.seq (.ife (.cmp .ne (.call "_law_refused" (.cons (.var 1) (.cons (.var 14) (.cons (.var 15) (.cons (.var 16) .nil))))) (.lst (.cons (.lit (.str "WrongSize")) .nil))) (.seq (.ret (.lit (.bl a4))) .nop) .nop) .nop)) .nop)) (.seq (.ret (.lit (.bl a5))) .nop)))))))))))))))
noncomputable def j3k:Fi:=⟨1,17,j3u,a4⟩
noncomputable def Jr:Ex:=(.bin .add (.lit (.int 1)) (.ix (.call "best_round" (.cons (.var 1) (.cons (.var 2) (.cons (.var 0) .nil)))) (.lit (.int 0))))
noncomputable def Z1:Fi:=⟨3,3,.ret Jr,a5⟩
noncomputable def tbl:List (af×Fi):=("row_number",Vg)::("rows_in",fP_rows_in)::("parts_in",U3)::("all_choices",fP_all_choices)::("number_of",Y9)::("answer_to",Yb)::("settled_by",Vf)::("counted_in",Vh)::("all_open",j15)::("numbers_within",Qo)::("round_table",Zr)::("round_to_ask",zr)::("round_numbers",Z3)::("best_round",Vi)::("greatest_behind",Q9)::("rounds_at",Y8)::("refuse_wrong_round",zg)::("_law_cell",fL_cell)::("_law_words",fL_words)::("_law_bit",fL_bit)::("_law_question",fL_question)::("_law_kinds",j08)::("_law_threes",Wr)::("_law_digits",Wt)::("_law_steps",Od)::("_law_ones",Df)::("_law_is_open",Us)::("_law_behind",Wu)::("_law_rounds",Ws)::("_law_refused",Ur)::("_law_right",Oe)::("law",j3k)::("round_numbers.<locals>.<lambda>",Z1)::[]
noncomputable def T(x:af):Option Fi:=tbl.lookup x
noncomputable def gs:List (af×D):=[("ANSWERS",.tup [.int 0,.int 1]),("NOT_TOLD",.int 2),("TELLINGS",.tup [.int 0,.int 1,.int 2]),("FEWEST_AT_ONCE",.int 1),("MOST_AT_ONCE",.int 6)]
noncomputable def xs:List (af×List D):=[("WrongSize",[.str "WrongSize"]),("NoAsk",[.str "NoAsk"]),("NoWord",[.str "NoWord"]),("Twice",[.str "Twice"]),("WrongAnswers",[.str "WrongAnswers"]),("Unlike",[.str "Unlike"]),("NoPlace",[.str "NoPlace"]),("NoText",[.str "NoPlan or NoText"]),("WrongPrices",[.str "WrongPrices"]),("WrongWeights",[.str "WrongWeights"]),("NoPlan",[.str "NoPlan or NoText"])]
noncomputable def qs:List af:=[]
noncomputable abbrev G:af->Option D:=Gof gs a5 xs qs
end K41
end
section
open PySem PySem.Spec PyProof.Rows L2
local macro_rules | `(tactic| walk_at "vis")=>`(tactic| first | exact Or.inl rfl | exact Or.inr (Or.inl rfl) | exact Or.inr (Or.inr rfl))
local macro_rules | `(tactic| walk_at "loc")=>`(tactic| first | exact Or.inl rfl | exact Or.inr rfl)
local macro_rules | `(tactic| walk_at "cap")=>`(tactic| repeat (first | exact rfl | refine ⟨_,_,rfl,by rfl,by rfl,by rfl,by rfl,?_⟩))
local macro_rules | `(tactic| walk_at "ts")=>`(tactic| first
 |exact Tr.int|exact Tr.bl|exact Tr.non|exact Tr.str
 |exact Tr.var (by rfl) (by walk_at "vis") (by decide) (by decide)|exact Tr.glob (by rfl) (by decide) (by decide)
 |refine Tr.bin ?_ ?_|refine Tr.neg ?_|refine Tr.cmp (by rfl) ?_ ?_|refine Tr.bcmp (by rfl) ?_ ?_|refine Tr.isN ?_|refine Tr.bisN ?_|refine Tr.isNN ?_|refine Tr.bisNN ?_
 |refine Tr.and ?_ ?_|refine Tr.or ?_ ?_|refine Tr.one ?_|refine Tr.not ?_
 |refine Tr.wand ?_ ?_|refine Tr.wor ?_ ?_|refine Tr.wand1 ?_|refine Tr.wor1 ?_|refine Tr.bw ?_|refine Tr.bnot ?_
 |refine Tr.ite ?_ ?_ ?_|exact Tr.nil|refine Tr.cons (by rfl) ?_ ?_|refine Tr.tup ?_|refine Tr.lst ?_
 |refine Tr.ix (by intro _ _;rfl) ?_ ?_|exact Tr.oN|refine Tr.oS ?_|refine Tr.sl ?_ ?_ ?_
 |refine Tr.chn (by with_unfolding_all rfl) ?_ ?_ ?_|refine Tr.bchn (by with_unfolding_all rfl) ?_ ?_ ?_
 |refine Tr.max (by rfl) (by rfl) ?_|refine Tr.max1 (by rfl) (by rfl) ?_
 |refine Tr.call (by rfl) (by decide) (by rfl) (by rfl) ?_
 |refine Tr.callV (by rfl) (by walk_at "vis") (by decide) (by decide) (by rfl) (by rfl) ?_|refine Tr.dget (by intro _ _;rfl) ?_ ?_|refine Tr.dvals (by rfl) (by rfl) (by rfl) (by rfl) (by rfl) ?_|refine Tr.minT (by rfl) (by rfl) (by rfl) ?_
 |refine Tr.min1 (by rfl) (by rfl) ?_
 |refine Tr.tix (by rfl) (by rfl) (by rfl) (by rfl) ?_ ?_|refine Tr.len (by rfl) ?_|refine Tr.tuple (by rfl) ?_|refine Tr.list (by rfl) ?_|refine Tr.min (by rfl) (by rfl) ?_
 |refine Tr.sum (by rfl) (by rfl) ?_|refine Tr.intc (by rfl) ?_|refine Tr.join (by rfl) (by rfl) (by rfl) (by rfl) ?_|refine Tr.enum (by rfl) (by rfl) ?_
 |refine Tr.count (by rfl) (by rfl) (by rfl) ?_ ?_
 |refine Tr.isi1 (by decide) (by decide +kernel) (by rfl) (by rfl) (by decide) (by decide) (by rfl) ?_
 |refine Tr.isi2 (by decide) (by decide) (by decide +kernel) (by decide +kernel) (by rfl) (by rfl) (by rfl) (by decide) (by decide) (by decide) (by decide) (by rfl) ?_
 |exact Tr.c0|refine Tr.c1 ?_
 |refine Tr.comp1 (by rfl) (by rfl) (by rfl) (by rfl) (by rfl) (by intro _;rfl) ?_ ?_ ?_
 |refine Tr.comp2 (by rfl) (by decide) (by rfl) (by rfl) (by rfl) (by rfl) (by rfl) (by rfl) (by intro _;rfl) ?_ ?_ ?_
 |refine Tr.seq ?_|refine Tr.range (by rfl) ?_
 |exact Tr.p0|refine Tr.pC ?_|refine Tr.pF ?_ ?_|refine Tr.fst ?_
 |exact Tr.isxV (by rfl) (by walk_at "vis") (by decide) (by decide) (by rfl) (by rfl) (by rfl)
 |exact Tr.isx1 (by decide) (by decide) (by rfl) (by walk_at "vis") (by decide) (by decide) (by rfl) (by rfl) (by decide) (by rfl)
 |exact Tr.isx2 (by decide) (by decide) (by decide) (by decide) (by rfl) (by walk_at "vis") (by decide) (by decide) (by rfl) (by rfl) (by rfl) (by decide) (by decide) (by rfl)
 |refine Tr.bval (by intro _;rfl) ?_
 |refine Ts.nmake (by rfl) (by rfl) (by rfl) (by rfl) (by walk_at "loc") (by walk_at "loc") (by walk_at "loc") (by exact aQ rfl) (by exact aQ rfl) (by exact aQ rfl) (by decide) (by decide) (by decide) (by decide) (by rfl) (by rfl) (by rfl) (by intro _;rfl) ?_ ?_ ?_
 |refine Ts.retC (by decide) (by rfl) (by rfl) (by rfl) (Eq.trans (by assumption) rfl) (by rfl) (by decide +kernel) (by walk_at "cap") (by rfl) (by decide) (by rfl) (by rfl) (by rfl) (by rfl) ?_ ?_
 |refine' Ts.lend (by rfl) (by decide) (by rfl) (by rfl) (by walk_at "loc") (by walk_at "loc") (by exact aQ rfl) (by exact aQ rfl) (by intro _;rfl) (by rfl) (by rfl) (by rfl) (by walk_at "vis") (by decide) (by decide) (by rfl) (by rfl) ?_ ?_|refine' Ts.lent (by rfl) (by walk_at "loc") (by walk_at "vis") (by exact aQ rfl) (by decide) (by decide) (by rfl) (by rfl) (by rfl) ?_ ?_ ?_ ?_ ?_|refine TMt.set (by rfl) (by walk_at "loc") (by rfl) (by exact aQ rfl) ?_ ?_|refine TMt.ife ?_ ?_ ?_ ?_|exact TMt.nil|exact TMs.nil|exact TMs.fail|refine TMs.set (by rfl) (by walk_at "loc") (by rfl) (by exact aQ rfl) ?_ ?_|refine TMs.ife ?_ ?_ ?_ ?_|exact⟨rfl,rfl,rfl,λ_ _=>rfl⟩
 |exact Ts.nil|refine Ts.fgt ?_|refine Ts.keep ?_|refine Ts.cons ?_ ?_|exact Ts.pass|exact Ts.doc|exact Ts.fail
 |exact Ts.mov (by rfl) (by rfl) (by walk_at "loc") (by exact aQ rfl) (by walk_at "vis") (by decide) (by decide)
 |refine Ts.setC1 (by rfl) (by rfl) (by walk_at "loc") (by exact aQ rfl) (by rfl) (by rfl) (by rfl) (by rfl) (by rfl) (by intro _;rfl) ?_ ?_ ?_
 |refine Ts.setC2 (by rfl) (by rfl) (by walk_at "loc") (by exact aQ rfl) (by rfl) (by decide) (by rfl) (by rfl) (by rfl) (by rfl) (by rfl) (by rfl) (by intro _;rfl) ?_ ?_ ?_
 |refine Ts.set (by rfl) (by walk_at "loc") (by rfl) (by exact aQ rfl) ?_
 |exact Ts.retV (by rfl) (by walk_at "vis") (by decide) (by decide)|refine Ts.ret ?_
 |refine Ts.ife ?_ ?_ ?_|refine Ts.for1 (by rfl) (by rfl) (by walk_at "loc") (by exact aQ rfl) (by intro _;rfl) ?_ ?_
 |refine Ts.for2 (by rfl) (by decide) (by rfl) (by rfl) (by walk_at "loc") (by walk_at "loc") (by exact aQ rfl) (by exact aQ rfl) (by intro _;rfl) ?_ ?_
 |refine Ts.for3f (by rfl) (by rfl) (by rfl) (by rfl) (by walk_at "loc") (by walk_at "loc") (by walk_at "loc") (by exact aQ rfl) (by exact aQ rfl) (by exact aQ rfl) (by intro _;rfl) ?_ ?_
 |refine Ts.app (by rfl) (by walk_at "vis") (by decide) (by decide) (by rfl) (by rfl) (by rfl) (by rfl) ?_
 |refine Ts.ext (by rfl) (by walk_at "vis") (by decide) (by decide) (by rfl) (by rfl) (by rfl) (by rfl) ?_
 |refine Ts.raise (by rfl) (by rfl) (by decide) (by rfl) ?_
 |refine Ts.tryK (by rfl) (by rfl) (by rfl) (by rfl) (by rfl) (by rfl) (by rfl) (by decide) (by decide) (by rfl) (by walk_at "loc") (by exact aQ rfl) (by exact aQ rfl) (by rfl) (by rfl) (by rfl) ?_
 |refine Ts.expr (by rfl) ?_
 |intro C s H fp pn
 |intro pn xe)
local macro_rules | `(tactic| walk_at "bnd")=>`(tactic| (intro _ _ _ _ _ _ us hl; first | (obtain ⟨_,e⟩:=us1 hl; subst e; rfl) | (obtain ⟨_,_,e⟩:=us2 hl; subst e; rfl) | (obtain ⟨_,_,_,e⟩:=us3 hl; subst e; rfl) | (obtain ⟨_,_,_,_,e⟩:=us4 hl; subst e; rfl) | (obtain ⟨_,_,_,_,_,e⟩:=us5 hl; subst e; rfl)))
local macro_rules | `(tactic| walk_at "sc")=>`(tactic| exact ⟨rfl,rfl,rfl,by decide +kernel,rfl,by decide +kernel,by decide +kernel⟩)
local macro_rules | `(tactic| walk_at "lk")=>`(tactic| first | walk_at "sc" | walk_at "bnd" | decide)
local macro_rules | `(tactic| walk_at "scl")=>`(tactic| exact ⟨rfl,rfl,rfl,by decide +kernel,rfl,by decide +kernel,by decide +kernel,by decide +kernel,jbh⟩)
local macro_rules | `(tactic| walk_at "bndl")=>`(tactic| (intro _ _ _ _ us hl; first | (obtain ⟨_,_,e⟩:=us2 hl; subst e; rfl)))
namespace K41
section
variable{P:au}{w:aA}{K:k90}{mg:k93}{base:aD}
theorem Nm:TrT P w K mg base "row_number" ["row"] (top 17) Qv:=by
 intro f cdv A outer s H E xe;unfold Qv
 repeat' (walk_at "ts")
theorem j0v:TrT P w K mg base "rows_in" ["part","told"] (top 18) Ql:=by
 intro f cdv A outer s H E xe;unfold Ql
 repeat' (walk_at "ts")
theorem Ku:TrT P w K mg base "parts_in" ["part","told"] (top 19) V7:=by
 intro f cdv A outer s H E xe;unfold V7
 repeat' (walk_at "ts")
theorem Ot:TrT P w K mg base "all_choices" ["figures_by_spot","chosen","figures","longer","ahead","figure"] (top 20) J1:=by
 intro f cdv A outer s H E xe;unfold J1
 repeat' (walk_at "ts")
theorem Lx:TrT P w K mg base "number_of" ["figures","base","number","figure"] (top 21) Zd:=by
 intro f cdv A outer s H E xe;unfold Zd
 repeat' (walk_at "ts")
theorem Ly:TrT P w K mg base "answer_to" ["question","row"] (top 23) Ze:=by
 intro f cdv A outer s H E xe;unfold Ze
 repeat' (walk_at "ts")
theorem Nk:TrT P w K mg base "settled_by" ["question","part","counted"] (top 24) Qu:=by
 intro f cdv A outer s H E xe;unfold Qu
 repeat' (walk_at "ts")
theorem Np:TrT P w K mg base "counted_in" ["question","part","answers","row"] (top 25) Qw:=by
 intro f cdv A outer s H E xe;unfold Qw
 repeat' (walk_at "ts")
theorem Kv:TrT P w K mg base "all_open" ["question"] (top 26) U4:=by
 intro f cdv A outer s H E xe;unfold U4
 repeat' (walk_at "ts")
theorem Wa:TrT P w K mg base "numbers_within" ["whole_part","question","number_unsettled","numbers","part","settled"] (top 28) Jb:=by
 intro f cdv A outer s H E xe;unfold Jb
 repeat' (walk_at "ts")
theorem Oq:TrT P w K mg base "round_table" ["question","at_once"] (top 32) Qm:=by
 intro f cdv A outer s H E xe;unfold Qm
 repeat' (walk_at "ts")
theorem Mt:TrT P w K mg base "round_to_ask" ["question","part","at_once","spots","spot"] (top 33) vh:=by
 intro f cdv A outer s H E xe;unfold vh
 repeat' (walk_at "ts")
theorem M8 (hl:V5 K "round_numbers" = Fv (jy (top 34))):TrT P w K mg base "round_numbers" ["whole_part","question","at_once"] (top 34) Jt:=by
 intro f cdv A outer s H E xe;unfold Jt
 repeat' (walk_at "ts")
theorem Nq:TrT P w K mg base "best_round" ["numbers","part","at_once","spots"] (top 35) Qx:=by
 intro f cdv A outer s H E xe;unfold Qx
 repeat' (walk_at "ts")
theorem W9:TrT P w K mg base "greatest_behind" ["numbers","part","spots","parts_behind","spot","told","behind"] (top 36) J9:=by
 intro f cdv A outer s H E xe;unfold J9
 repeat' (walk_at "ts")
theorem Lw:TrT P w K mg base "rounds_at" ["part","at_once","chosen","spot","told","spots"] (top 37) Zc:=by
 intro f cdv A outer s H E xe;unfold Zc
 repeat' (walk_at "ts")
theorem U0:TrT P w K mg base "refuse_wrong_round" ["at_once"] (top 38) zj:=by
 intro f cdv A outer s H E xe;unfold zj
 repeat' (walk_at "ts")
theorem j6q:TrT P w K mg base "_law_cell" ["_law_script","_law_k","_law_spare"] (top 40) Vs:=by
 intro f cdv A outer s H E xe;unfold Vs
 repeat' (walk_at "ts")
theorem j45:TrT P w K mg base "_law_words" ["_law_cell_here","_law_many","_law_letters","_law_long","_law_k","_law_start","_law_size","_law_stem","_law_at"] (top 41) Zw:=by
 intro f cdv A outer s H E xe;unfold Zw
 repeat' (walk_at "ts")
theorem ja7:TrT P w K mg base "_law_bit" ["_law_row","_law_kind","_law_cell_here","_law_some","_law_k","_law_kept","_law_by_row","_law_one","_law_mixed"] (top 42) Ud:=by
 intro f cdv A outer s H E xe;unfold Ud
 repeat' (walk_at "ts")
theorem Kw:TrT P w K mg base "_law_question" ["_law_script","_law_at","_law_most","_law_many","_law_places","_law_kind","_law_answers","_law_number","_law_row","_law_k"] (top 43) Jv:=by
 intro f cdv A outer s H E xe;unfold Jv
 repeat' (walk_at "ts")
theorem j48:TrT P w K mg base "_law_kinds" ["_law_e","_law_some"] (top 44) Yj:=by
 intro f cdv A outer s H E xe;unfold Yj
 repeat' (walk_at "ts")
theorem j49:TrH P w K mg base "_law_kinds" ["_law_e","_law_some"] (top 44) Yj:=by
 intro f cdv A outer s H;unfold Yj
 repeat' (walk_at "ts")
theorem j2r:TrT P w K mg base "_law_threes" ["_law_many","_law_power","_law_k"] (top 45) Yv:=by
 intro f cdv A outer s H E xe;unfold Yv
 repeat' (walk_at "ts")
theorem j2t:TrT P w K mg base "_law_digits" ["_law_many","_law_index","_law_digits_here","_law_k"] (top 46) Yx:=by
 intro f cdv A outer s H E xe;unfold Yx
 repeat' (walk_at "ts")
theorem j46:TrT P w K mg base "_law_steps" ["_law_many","_law_index","_law_digits_here","_law_steps_here","_law_k","_law_power"] (top 47) W0:=by
 intro f cdv A outer s H E xe;unfold W0
 repeat' (walk_at "ts")
theorem j6p:TrT P w K mg base "_law_ones" ["_law_question_here","_law_many","_law_found","_law_index","_law_steps_here","_law_number","_law_digit","_law_if_no","_law_if_yes"] (top 48) M7:=by
 intro f cdv A outer s H E xe;unfold M7
 repeat' (walk_at "ts")
theorem j0x:TrT P w K mg base "_law_is_open" ["_law_counts"] (top 49) Vq:=by
 intro f cdv A outer s H E xe;unfold Vq
 repeat' (walk_at "ts")
theorem j2u:TrT P w K mg base "_law_behind" ["_law_many","_law_index","_law_at_once","_law_found","_law_spot","_law_one","_law_two","_law_power","_law_more","_law_spots","_law_some","_law_parts","_law_here"] (top 50) Yy:=by
 intro f cdv A outer s H E xe;unfold Yy
 repeat' (walk_at "ts")
theorem j2s:TrT P w K mg base "_law_rounds" ["_law_question_here","_law_at_once","_law_many","_law_table","_law_index","_law_counts","_law_number","_law_some","_law_spots","_law_parts","_law_one"] (top 51) Yw:=by
 intro f cdv A outer s H E xe;unfold Yw
 repeat' (walk_at "ts")
theorem j0w:TrT P w K mg base "_law_refused" ["_law_question_here","_law_part","_law_at_once","_law_way","_law_kinds_here","_law_e"] (top 52) Vp:=by
 intro f cdv A outer s H E xe;unfold Vp
 repeat' (walk_at "ts")
theorem j47:TrT P w K mg base "_law_right" ["_law_question_here","_law_table","_law_ones_here","_law_index","_law_at_once","_law_many","_law_found","_law_parts","_law_k","_law_place","_law_spot","_law_power","_law_here","_law_one"] (top 53) W2:=by
 intro f cdv A outer s H E xe;unfold W2
 repeat' (walk_at "ts")
theorem j99:TrT P w K mg base "law" ["_law_script","_law_question_here","_law_many","_law_cell_here","_law_at_once","_law_table","_law_ones_here","_law_size","_law_some","_law_one","_law_other","_law_second","_law_k","_law_index","_law_part","_law_wrong","_law_way"] (top 54) j3u:=by
 intro f cdv A outer s H E xe;unfold j3u
 repeat' (walk_at "ts")
theorem M9:TrL P w K mg base "round_numbers" ["at_once","numbers","part"] (lamT (top 34)) Jr:=by
 intro a c cl A outer s H;unfold Jr
 repeat' (walk_at "ts")
end
set_option maxHeartbeats 0 in
theorem head {l:d6} {w:aA} {K:k90} {h:aD} {mg:k93} {fa:aa} (X:K.In h) (Gn:h.Ns ak mg) (hfa:mg "law" = a3 (.ref fa))
  (h0:Lf K "row_number" (top 17))
  (h1:Lf K "rows_in" (top 18))
  (h2:Lf K "parts_in" (top 19))
  (h3:Lf K "all_choices" (top 20))
  (h4:Lf K "number_of" (top 21))
  (h5:Lf K "answer_to" (top 23))
  (h6:Lf K "settled_by" (top 24))
  (h7:Lf K "counted_in" (top 25))
  (h8:Lf K "all_open" (top 26))
  (h9:Lf K "numbers_within" (top 28))
  (h10:Lf K "round_table" (top 32))
  (h11:Lf K "round_to_ask" (top 33))
  (h12:Lf K "round_numbers" (top 34))
  (h13:Lf K "best_round" (top 35))
  (h14:Lf K "greatest_behind" (top 36))
  (h15:Lf K "rounds_at" (top 37))
  (h16:Lf K "refuse_wrong_round" (top 38))
  (h17:Lf K "_law_cell" (top 40))
  (h18:Lf K "_law_words" (top 41))
  (h19:Lf K "_law_bit" (top 42))
  (h20:Lf K "_law_question" (top 43))
  (h21:Lf K "_law_kinds" (top 44))
  (h22:Lf K "_law_threes" (top 45))
  (h23:Lf K "_law_digits" (top 46))
  (h24:Lf K "_law_steps" (top 47))
  (h25:Lf K "_law_ones" (top 48))
  (h26:Lf K "_law_is_open" (top 49))
  (h27:Lf K "_law_behind" (top 50))
  (h28:Lf K "_law_rounds" (top 51))
  (h29:Lf K "_law_refused" (top 52))
  (h30:Lf K "_law_right" (top 53))
  (h31:Lf K "law" (top 54))
  (bz:bOk K=a5) {ts:List aa} (tz:tOk K ts=a5)
  {gt1:gH} {gt2:gH} {ga0:aa} {ga0n:Nat} {ga0s:Array (Option a9)} {gt3:gH} {gt5:gH} {gt6:gH} {gt7:gH} {ga4:aa} {ga4n:Nat} {ga4s:Array (Option a9)} {gt8:gH} {gt9:gH}
  (ga0l:K.lookup ga0=a3 ⟨.type "tuple",a6,.seq #[.int 0 gt1,.int 1 gt2] ga0n,ga0s⟩) (gn0:cY K ak "ANSWERS" = a3 (a3 (.ref ga0))) (gn1:cY K ak "NOT_TOLD" = a3 (a3 (.int 2 gt3))) (ga4l:K.lookup ga4=a3 ⟨.type "tuple",a6,.seq #[.int 0 gt5,.int 1 gt6,.int 2 gt7] ga4n,ga4s⟩) (gn2:cY K ak "TELLINGS" = a3 (a3 (.ref ga4))) (gn3:cY K ak "FEWEST_AT_ONCE" = a3 (a3 (.int 1 gt8))) (gn4:cY K ak "MOST_AT_ONCE" = a3 (a3 (.int 6 gt9)))
  (exa:Qi K=a5)
  (xz:xOk K=a5)
  {fu n:Nat} (hlaw:∀ns:List Int,ns.length<=63->evP fu G T (n+1) "law" [.lst (ns.map D.int)]=.val (.bl a5)) :
  ∃fd:aN,(∀(s:ae)(v:a9),fV s fd ⟨[v],[]⟩ [("_law_script",v)])/\∀base:aD,K.In base->base.Ns ak mg->FnOk l.prog w K mg base CX0 (lv (n+1)) fa fd ["_law_script"] (K8 K):=by
 have hL:=h31;obtain⟨f,oc,od,kV,dc,pm,an,cd,ct,sl,a,lk,c,k⟩:=hL;have e:=hfa.symm.trans (cq X Gn a);cases e;refine⟨PySem.W.fnOf "law" "law" (J0 (top 54)) (jy (top 54)) (j9 (top 54)) .none kV dc pm an cd ct,λs v=>.of_eq rfl,λbase hKb hNb=>?_⟩;have hT:∀x F,T x=a3 F->LkF l.prog w K mg base x F:=λx F hx=>by
  have all:∀p∈tbl,LkF l.prog w K mg base p.1 p.2:=by
   intro p hp;simp only[tbl,xn,bO,or_false]at hp;rcases hp with rfl|rfl|rfl|rfl|rfl|rfl|rfl|rfl|rfl|rfl|rfl|rfl|rfl|rfl|rfl|rfl|rfl|rfl|rfl|rfl|rfl|rfl|rfl|rfl|rfl|rfl|rfl|rfl|rfl|rfl|rfl|rfl|rfl
   .refine lkF (qg h0 X Gn Nm ["row"] ?_ rfl rfl ?_ ?_) rfl ?_<;>walk_at "lk"
   .refine lkF (qg h1 X Gn j0v ["part"] ?_ rfl rfl ?_ ?_) rfl ?_<;>walk_at "lk"
   .refine lkF (qg h2 X Gn Ku ["part"] ?_ rfl rfl ?_ ?_) rfl ?_<;>walk_at "lk"
   .refine lkF (qg h3 X Gn Ot ["figures_by_spot"] ?_ rfl rfl ?_ ?_) rfl ?_<;>walk_at "lk"
   .refine lkF (qg h4 X Gn Lx ["figures","base"] ?_ rfl rfl ?_ ?_) rfl ?_<;>walk_at "lk"
   .refine lkF (qg h5 X Gn Ly ["question","row"] ?_ rfl rfl ?_ ?_) rfl ?_<;>walk_at "lk"
   .refine lkF (qg h6 X Gn Nk ["question","part"] ?_ rfl rfl ?_ ?_) rfl ?_<;>walk_at "lk"
   .refine lkF (qg h7 X Gn Np ["question","part"] ?_ rfl rfl ?_ ?_) rfl ?_<;>walk_at "lk"
   .refine lkF (qg h8 X Gn Kv ["question"] ?_ rfl rfl ?_ ?_) rfl ?_<;>walk_at "lk"
   .refine lkF (qg h9 X Gn Wa ["whole_part","question","number_unsettled"] ?_ rfl rfl ?_ ?_) rfl ?_<;>walk_at "lk"
   .refine lkF (qg h10 X Gn Oq ["question","at_once"] ?_ rfl rfl ?_ ?_) rfl ?_<;>walk_at "lk"
   .refine lkF (qg h11 X Gn Mt ["question","part","at_once"] ?_ rfl rfl ?_ ?_) rfl ?_<;>walk_at "lk"
   .refine lkF (qg h12 X Gn (M8 (Ey h12)) ["whole_part","question","at_once"] ?_ rfl rfl ?_ ?_) rfl ?_<;>walk_at "lk"
   .refine lkF (qg h13 X Gn Nq ["numbers","part","at_once"] ?_ rfl rfl ?_ ?_) rfl ?_<;>walk_at "lk"
   .refine lkF (qg h14 X Gn W9 ["numbers","part","spots"] ?_ rfl rfl ?_ ?_) rfl ?_<;>walk_at "lk"
   .refine lkF (qg h15 X Gn Lw ["part","at_once"] ?_ rfl rfl ?_ ?_) rfl ?_<;>walk_at "lk"
   .refine lkF (qg h16 X Gn U0 ["at_once"] ?_ rfl rfl ?_ ?_) rfl ?_<;>walk_at "lk"
   .refine lkF (qg h17 X Gn j6q ["_law_script","_law_k"] ?_ rfl rfl ?_ ?_) rfl ?_<;>walk_at "lk"
   .refine lkF (qg h18 X Gn j45 ["_law_cell_here","_law_many"] ?_ rfl rfl ?_ ?_) rfl ?_<;>walk_at "lk"
   .refine lkF (qg h19 X Gn ja7 ["_law_row","_law_kind","_law_cell_here"] ?_ rfl rfl ?_ ?_) rfl ?_<;>walk_at "lk"
   .refine lkF (qg h20 X Gn Kw ["_law_script","_law_at","_law_most"] ?_ rfl rfl ?_ ?_) rfl ?_<;>walk_at "lk"
   .refine lkF (qg h21 X Gn j48 ["_law_e"] ?_ rfl rfl ?_ ?_) rfl ?_<;>walk_at "lk"
   .refine lkF (qg h22 X Gn j2r ["_law_many"] ?_ rfl rfl ?_ ?_) rfl ?_<;>walk_at "lk"
   .refine lkF (qg h23 X Gn j2t ["_law_many","_law_index"] ?_ rfl rfl ?_ ?_) rfl ?_<;>walk_at "lk"
   .refine lkF (qg h24 X Gn j46 ["_law_many","_law_index"] ?_ rfl rfl ?_ ?_) rfl ?_<;>walk_at "lk"
   .refine lkF (qg h25 X Gn j6p ["_law_question_here"] ?_ rfl rfl ?_ ?_) rfl ?_<;>walk_at "lk"
   .refine lkF (qg h26 X Gn j0x ["_law_counts"] ?_ rfl rfl ?_ ?_) rfl ?_<;>walk_at "lk"
   .refine lkF (qg h27 X Gn j2u ["_law_many","_law_index","_law_at_once"] ?_ rfl rfl ?_ ?_) rfl ?_<;>walk_at "lk"
   .refine lkF (qg h28 X Gn j2s ["_law_question_here","_law_at_once"] ?_ rfl rfl ?_ ?_) rfl ?_<;>walk_at "lk"
   .refine lkF (qg h29 X Gn j0w ["_law_question_here","_law_part","_law_at_once","_law_way"] ?_ rfl rfl ?_ ?_) rfl ?_<;>walk_at "lk"
   .refine lkF (qg h30 X Gn j47 ["_law_question_here","_law_table","_law_ones_here","_law_index","_law_at_once"] ?_ rfl rfl ?_ ?_) rfl ?_<;>walk_at "lk"
   .refine lkF (qg h31 X Gn j99 ["_law_script"] ?_ rfl rfl ?_ ?_) rfl ?_<;>walk_at "lk"
   .exact jep (by decide +kernel) (Ey h12) rfl M9 ["numbers","part"] (by walk_at "scl") rfl rfl rfl rfl (by walk_at "bndl")
  exact all (x,F) (lookup_mem hx)
 have bt:=jit X Gn bz;have gl:∀x d,gs.lookup x=a3 d->∃u v,mg x=a3 u/\RelV v u/\∀H,Enc K H d v:=by
  intro x d hx;have hm:=lookup_mem hx;simp only[gs,xn,bO,or_false,Prod.mk.injEq]at hm;rcases hm with ⟨e1,e2⟩|⟨e1,e2⟩|⟨e1,e2⟩|⟨e1,e2⟩|⟨e1,e2⟩
  .subst e1 e2;exact⟨.ref ga0,.ref ga0,cq X Gn gn0,rfl,λH=>⟨ga0,[.int 0,.int 1],rfl,.inr ⟨_,_,_,ga0l,rfl,rfl,rfl,(by show 2<=aj;decide),(.cons ⟨_,rfl⟩ (.cons ⟨_,rfl⟩ .nil))⟩,⟨_,_,rfl,rfl,⟨_,_,rfl,rfl,rfl⟩⟩⟩⟩
  .subst e1 e2;exact⟨.int 2 gt3,.int 2,cq X Gn gn1,⟨_,rfl⟩,λ_=>rfl⟩
  .subst e1 e2;exact⟨.ref ga4,.ref ga4,cq X Gn gn2,rfl,λH=>⟨ga4,[.int 0,.int 1,.int 2],rfl,.inr ⟨_,_,_,ga4l,rfl,rfl,rfl,(by show 3<=aj;decide),(.cons ⟨_,rfl⟩ (.cons ⟨_,rfl⟩ (.cons ⟨_,rfl⟩ .nil)))⟩,⟨_,_,rfl,rfl,⟨_,_,rfl,rfl,⟨_,_,rfl,rfl,rfl⟩⟩⟩⟩⟩
  .subst e1 e2;exact⟨.int 1 gt8,.int 1,cq X Gn gn3,⟨_,rfl⟩,λ_=>rfl⟩
  .subst e1 e2;exact⟨.int 6 gt9,.int 6,cq X Gn gn4,⟨_,rfl⟩,λ_=>rfl⟩
 have qn:∀f∈qs,∃fa,mg f=a3 (.ref fa)/\PySem.W.keepIn K (.ref fa)=a5:=by exact λf hf=>nomatch hf
 have el:=jiq xz;have L:LkH l.prog w K mg base "_law_kinds" j08:=jeq h21 X Gn j49 (by walk_at "sc") (by decide) rfl (by walk_at "bnd");have tb:Tb l.prog w K mg base G:=jhb bt gl exa (λp hp=>by
  have hp:p.1∈jt:=by
   simp only[xs,xn,bO,or_false]at hp
   rcases hp with rfl|rfl|rfl|rfl|rfl|rfl|rfl|rfl|rfl|rfl|rfl<;>decide
  exact⟨hp,el _ hp⟩
  ) (λ_=>el) hKb hNb qn (λp hp=>by
  simp only[xs,xn,bO,or_false]at hp
  rcases hp with rfl|rfl|rfl|rfl|rfl|rfl|rfl|rfl|rfl|rfl|rfl
  all_goals exact j13 (fu:=0) L bt exa el hKb hNb (by rfl) (by rfl)) (ji4 tz X Gn)
 exact jer hT tb (F:=j3k) (by rfl) rfl hfa (Wo lk c k) _ (by walk_at "sc") rfl rfl (j99 _) hlaw
end K41
end
open PySem (Str sizeLine argBest)
open L2
namespace K41
open KL KW KV
theorem j3j:T "_law_cell" = a3 KL.fL_cell:=by rfl
theorem O9:T "all_choices" = a3 KL.fP_all_choices:=by rfl
theorem jbs:T "rows_in" = a3 KL.fP_rows_in:=by rfl
theorem jfc:T "_law_words" = a3 KW.fL_words:=by rfl
theorem jfd:T "_law_bit" = a3 KW.fL_bit:=by rfl
theorem j5l:T "_law_question" = a3 KW.fL_question:=by rfl
theorem gN:G "NOT_TOLD" = a3 (.int 2):=by rfl
theorem gA:G "ANSWERS" = a3 (.tup [.int 0,.int 1]):=by rfl
theorem gT:G "TELLINGS" = a3 (.tup [.int 0,.int 1,.int 2]):=by rfl
theorem Qa{b:Int}:∀{m i:Nat}{z:Int},i<m->(j4 b m z)[i]?=a3 (z/b^(m-1-i)%b)
 |m+1,0,z,_=>by rw[j4,dk];simp
 |m+1,i+1,z,h=>by rw[j4,Tp,Qa nofun];congr 3;congr 1;omega
theorem j10 {fu n m:Nat} {z b:Int} (hm:m<=6) (hb:b=2\/b=3) (hz:0<=z/\z<b^m):evP fu G T (n+1) "number_of" [.tup ((j4 b m z).map .int),.int b]=.val (.int z):=by
 rw[jx (F:=Y9) (by rfl) rfl];simp only[Y9,Zd,enter];ext;have z0:z/b^m=0:=Tw hz.1 hz.2;refine Jm (λi ρ=>∃s3,ρ=[.val (.tup ((j4 b m z).map .int)),.val (.int b),.val (.int (z/b^(m-i))),s3]) ⟨.un,by rw[i3,z0]⟩ ?_ ?_
 .rintro i d ρ hi ⟨s3,rfl⟩;obtain⟨v,hv,rfl⟩:=Uq hi;have hlt:i<m:=by have:=(X3.mp hv).1;rw[jw]at this;exact this
  rw[Qa hlt]at hv;cases hv;simp only[Jh];ext;refine⟨_,rfl,?_⟩;have e1:m-i=(m-1-i)+1:=by omega
  have e2:m-(i+1)=m-1-i:=by omega
  have e3:z/b^(m-i)*b+z/b^(m-1-i)%b=z/b^(m-(i+1)):=by rw[e1,e2,<-Oh z b nofun,dA];exact iv _ _
  rw[e3];exact⟨_,rfl⟩
 .rintro ρ' ⟨s3,rfl⟩;ext;simp[jw]
theorem j4k {n m:Nat} {z:Int} (h:1<=m/\m<=6) (hz:0<=z/\z<2^m):evP 1000 G T (n+2) "row_number" [q9 (j4 2 m z)]=.val (.int z):=by
 rw[jx (F:=Vg) (by rfl) rfl];simp only[Vg,Qv,enter];ext;simp only[gA];ext;have e:evP 1000 G T (n+1) "number_of" [q9 (j4 2 m z),.int 2]=.val (.int z):=j10 h.2 (.inl rfl) hz;have e2:(((0+1+1:Nat):Int))=2:=rfl
 first|rw[e]|(rw[e2,e])
 ext
noncomputable def qD(ws:List af)(a:List Int):D:=.tup [.tup (ws.map D.str),.tup (a.map D.int)]
theorem j86{p:List Int}{k:Nat}(h:k<p.length):atI (p.map D.int) (k:Int)=a3 (.int (p.getD k 0)):=by
 have:=j1z h
 rwa [bS]at this
theorem j1d {n m k:Nat} {ws:List af} {a:List Int} (hm:1<=m/\m<=6) (ha:a.length=2^m) (hk:k<2^m):evP 1000 G T (n+3) "answer_to" [qD ws a,q9 (j4 2 m (k:Int))]=.val (.int (a.getD k 0)):=by
 rw[jx (F:=Yb) (by rfl) rfl];simp only[Yb,Ze,enter,qD];have pc:((2^m:Nat):Int)=(2:Int)^m:=by simp
 have i1:atI [D.tup (ws.map D.str),.tup (a.map D.int)] 1=a3 (.tup (a.map D.int)):=rfl;ext;erw[i1,j4k (n:=n) hm nofun,j86 nofun]
theorem j5v{l:List D}{k:Nat}(h:k<=l.length):cutD l a6 (a3 (k:Int))=l.take k:=by unfold cutD;rw[HT.sIx_none,HT.sIx_nat,cR,i3,ke h]
theorem j5u{l:List D}{k:Nat}(h:k<=l.length):cutD l (a3 (k:Int)) a6=l.drop k:=by unfold cutD;rw[HT.sIx_none,HT.sIx_nat,ke h,Tv (by rw[Pq];omega)]
noncomputable def inL(p:List Int)(m:Nat):List Nat:=(ar (2^m)).filter λ(k:Nat)=>fits p (j4 2 m (k:Int))
noncomputable def cnt(a p:List Int)(m:Nat)(v:Int):Nat:=(inL p m).countP λ(k:Nat)=>a.getD k 0==v
theorem Uo{p:List Int}{m:Nat}(hp:p.length=m)(hp3:∀t∈p,0<=t/\t<3):qx (p.map Z2)=(inL p m).map λ(k:Nat)=>j4 2 m (k:Int):=by rw[Js,<-Wq hp3,hp,<-Iz,k6];rfl
theorem jbr{p:List Int}{m:Nat}(hp:p.length=m)(hp3:∀t∈p,0<=t/\t<3):1<=(inL p m).length/\(inL p m).length<=2^m:=by
 have h1:=congrArg c7 (Uo hp hp3);rw[Js,Vz,kj]at h1;constructor
 .rw[<-h1];exact Nat.one_le_two_pow
 .unfold inL;exact Xk (Xz _ _) (by rw[Xh];exact X5 _)
theorem j2a{a:List Int}(h01:∀x∈a,x=0\/x=1):∀L:List Nat,(L.countP λ(k:Nat)=>a.getD k 0==0)+(L.countP λ(k:Nat)=>a.getD k 0==1)=L.length
 |[]=>rfl
 |k::L=>by
  have ih:=j2a h01 L;rw[Xx,Xx,xq]
  try dsimp only
  rcases Kh h01 k with e|e
  .rw[e,if_pos (by decide),if_neg (by decide)];omega
  .rw[e,if_neg (by decide),if_pos (by decide)];omega
theorem j0g {n m:Nat} {ws:List af} {a p:List Int} (hm:1<=m/\m<=6) (ha:a.length=2^m) (hp:p.length=m) (hp3:∀t∈p,0<=t/\t<3):evP 1000 G T (n+4) "counted_in" [qD ws a,q9 p]=.val (.tup [.int (cnt a p m 0),.int (cnt a p m 1)]):=by
 rw[jx (F:=Vh) (by rfl) rfl];simp only[Vh,Qw,enter];have ri:evP 1000 G T (n+3) "rows_in" [q9 p]=.fresh (qj (qx (p.map Z2))):=j0y (n:=n+1) jbs O9 gN gA nofun
 have as1:∀k:Nat,k<2^m->evP 1000 G T (n+3) "answer_to" [qD ws a,q9 (j4 2 m (k:Int))]=.val (.int (a.getD k 0)):=λk hk=>j1d hm ha hk;have l:=jbr hp hp3;have p2:=jdy hm.2;have pc:((2^m:Nat):Int)=(2:Int)^m:=by simp
 have cn:∀v:Int,(((inL p m).map λ(k:Nat)=>D.int (a.getD k 0)).countP λe=>deq e (.int v))=cnt a p m v:=λv=>by rw[k7];rfl
 have dp:D.depL ((inL p m).map λ(k:Nat)=>D.int (a.getD k 0))<=90:=by
  have:=D.depL_of (ds:=(inL p m).map λ(k:Nat)=>D.int (a.getD k 0)) (n:=0) λd hd=>by obtain⟨x,_,rfl⟩:=X8.mp hd;simp[D.dep]
  omega
 ext;rw[ri,Uo hp hp3];ext;rw[jz (l:=(inL p m).map λ(k:Nat)=>D.int (a.getD k 0)) (by rfl) (by simp only[qj,kj];omega) ?_ (.inl rfl)];rotate_left
 .rw[qj,Xa];refine ju λk hk'=>qi (by ext) ?_;have hk:=Xp.mp (Xy.mp hk').1;ext;rw[ck,as1 k hk];ext
 ext;rw[j29 dp (by simp[D.dep]),j29 dp (by simp[D.dep]),cn,cn];ext
theorem Il {n m:Nat} {ws:List af} {a p:List Int} (hm:1<=m/\m<=6) (ha:a.length=2^m) (hp:p.length=m) (hp3:∀t∈p,0<=t/\t<3):evP 1000 G T (n+5) "settled_by" [qD ws a,q9 p]=.val (if cnt a p m 1=0 then .int 0 else if cnt a p m 0=0 then .int 1 else .non):=by
 rw[jx (F:=Vf) (by rfl) rfl];simp only[Vf,Qu,enter];have i0:∀x y:D,atI [x,y] 0=a3 x:=λ_ _=>rfl;have i1:∀x y:D,atI [x,y] 1=a3 y:=λ_ _=>rfl;have c:=j0g (n:=n) (ws:=ws) hm ha hp hp3;ext;rw[c];ext;rw[i1];by_cases h1:cnt a p m 1=0
 .ext;rw[if_pos h1]
 .rw[if_neg h1];ext;rw[i0];by_cases h0:cnt a p m 0=0
  .ext;rw[if_pos h0]
  .ext;rw[if_neg h0]
noncomputable def j2w(c0 c1:Nat):D:=if c1=0 then .int 0 else if c0=0 then .int 1 else .non
theorem Wc {n m:Nat} {ws:List af} {a p:List Int} (hm:1<=m/\m<=6) (ha:a.length=2^m) (hp:p.length=m) (hp3:∀t∈p,0<=t/\t<3):evP 1000 G T (n+5) "settled_by" [.tup [.tup (ws.map D.str),.tup (a.map D.int)],q9 p]=.val (j2w (cnt a p m 0) (cnt a p m 1)):=Il hm ha hp hp3
theorem Eh{m:Nat}(h:m<=6):1<=3^m/\3^m<=729:=by
 have:m=0\/m=1\/m=2\/m=3\/m=4\/m=5\/m=6:=by omega
 rcases this with e|e|e|e|e|e|e<;>subst e<;>decide
theorem Cu(p:List Int):zb (p.map D.int)=(ar p.length).map λ(s:Nat)=>D.tup [.int (s:Int),.int (p.getD s 0)]:=by
 refine Sg λi=>?_;rw[Va,xx,xx];by_cases h:i<p.length
 .rw[Xw h,kh h];simp[h]
 .rw[ph nofun,ph (by simp;omega)];rfl
noncomputable def stD(a p:List Int)(m:Nat):D:=j2w (cnt a p m 0) (cnt a p m 1)
theorem Oc:∀{p r:List Int}{s:Nat}{x:Int},p.length=r.length->s<p.length->p.getD s 0=2->x≠2->fits (p.set s x) r=(fits p r&&decide (x=r.getD s 0))
 |[],_,s,x,_,hs,_,_=>by simp at hs
 |_::_,[],_,_,h,_,_,_=>by simp at h
 |t::ts,y::ys,0,x,h,_,h2,hx=>by
  have:t=2:=by simpa using h2
  subst this;simp only[t7,fits,eB];by_cases e:x=y
  .subst e;simp[hx]
  .simp[hx,e]
 |t::ts,y::ys,s+1,x,h,hs,h2,hx=>by have ih:=Oc (p:=ts) (r:=ys) (s:=s) (x:=x) (by simpa using h) (by simpa using hs) (by simpa using h2) hx;simp only[Pn,fits,bT,ih,Bool.and_assoc]
theorem Mp{f g h:Nat->Bool}:∀{L:List Nat},(∀k∈L,(f k=a5->g k=a4)/\(h k=(f k || g k)))->L.countP f+L.countP g=L.countP h
 |[],_=>rfl
 |k::L,q=>by
  have ih:=Mp (f:=f) (g:=g) (h:=h) (L:=L) λj hj=>q j (km _ hj);obtain⟨q1,q2⟩:=q k (xm ..);rw[Xx,Xx,Xx,q2];cases e1:f k with
  |true=>rw[q1 e1];simp;omega
  |false=>cases e2:g k<;>simp<;>omega
theorem j5w{a p:List Int}{m s:Nat}{v:Int}(hp:p.length=m)(hs:s<m)(h2:p.getD s 0=2):cnt a (p.set s 0) m v+cnt a (p.set s 1) m v=cnt a p m v:=by unfold cnt inL;rw[eM,eM,eM];refine Mp λk hk=>?_;have l:=jw 2 m (k:Int);have b:=Kh (j3p m (k:Int)) s;rw[Oc nofun nofun h2 (by decide),Oc nofun nofun h2 (by decide)];rcases b with e|e<;>rw[e]<;>cases(a.getD k 0==v)<;>cases fits p (j4 2 m (k:Int))<;>simp
theorem jd9{p:List Int}{m s:Nat}{v:Int}(hp:p.length=m)(hp3:∀t∈p,0<=t/\t<3)(hv:v=0\/v=1):(p.set s v).length=m/\∀t∈p.set s v,0<=t/\t<3:=by
 refine⟨by rw[tu];exact hp,λt ht=>?_⟩;rcases List.mem_or_eq_of_mem_set ht with h|h
 .exact hp3 t h
 .rw[h];omega
theorem j2b{a p:List Int}{m:Nat}(h01:∀x∈a,x=0\/x=1)(hp:p.length=m)(hp3:∀t∈p,0<=t/\t<3):cnt a p m 0+cnt a p m 1=2^(p.countP λt=>t==2):=by have h:=j2a h01 (inL p m);have h1:=congrArg c7 (Uo hp hp3);rw[Js,Vz,kj]at h1;unfold cnt;omega
theorem Dy:∀{p:List Int},(p.countP λt=>t==2)=0->zp (p.map Z2)=[p]
 |[],_=>rfl
 |t::ts,h=>by
  rw[Xx]at h;have h1:(ts.countP λt=>t==2)=0:=by omega
  have h2:t≠2:=λz=>by subst z;simp at h
  rw[xr,zp,Dy h1];simp[Z2,h2]
theorem j6r{p:List Int}{m:Nat}(hp:p.length=m)(hp3:∀t∈p,0<=t/\t<3)(h0:(p.countP λt=>t==2)=0):∃k:Nat,k<2^m/\p=j4 2 m (k:Int)/\inL p m=[k]:=by
 have h:=Uo hp hp3;rw[Js,Dy h0]at h;cases e:inL p m with
 |nil=>rw[e]at h;cases h
 |cons k r =>
  rw[e]at h;cases r with
  |cons j r=>simp at h
  |nil =>
   simp only[xr,Pr,List.cons.injEq,and_true]at h;have hk:k∈inL p m:=by rw[e];exact xm ..
   exact⟨k,Xp.mp (Xy.mp hk).1,h,rfl⟩
theorem Cy{p:List Int}{s:Nat}{v:Int}(hs:s<p.length)(h2:p.getD s 0=2)(hv:v=0\/v=1):((p.set s v).countP λt=>t==2)+1=p.countP λt=>t==2:=by
 have g:p[s]=2:=by rw[xf,kh hs]at h2;exact h2
 have e:p=p.take s++2::p.drop (s+1):=by have:=i5 s p;rw[Tc hs,g]at this;exact this.symm
 rw[List.set_eq_take_append_cons_drop,if_pos hs]
 conv=>rhs;rw[e]
 rw[iU,iU,Xx,Xx];have hv2:(v==2)=a4:=by rcases hv with h|h<;>subst h<;>rfl
 simp[hv2]
 try omega
noncomputable def jh(p:List Int)(m:Nat):List Nat:=(ar m).filter λ(k:Nat)=>decide (p.getD k 0=2)
theorem El:∀(p:List Int),(jh p p.length).length=p.countP λt=>t==2:=by
 intro p;unfold jh;rw[<-List.countP_eq_length_filter];have:∀(p:List Int),(ar p.length).countP (λ(k:Nat)=>decide (p.getD k 0=2))=p.countP λt=>t==2:=by
  intro p;induction p with
  |nil=>rfl
  |cons t ts ih =>
   rw[xq,cj,Xx,k7,Xx,<-ih];congr 1
   try simp only[eB]
   try (by_cases h:t=2<;>simp[h])
 exact this p
noncomputable def Jq(t:Int):List Int:=if t=2 then[0,1,2] else[t]
theorem Ek {n:Nat} {p:List Int} (hp:p.length<=6):evP 1000 G T (n+2) "parts_in" [q9 p]=.fresh (qj (qx (p.map Jq))):=by
 rw[jx (F:=U3) (by rfl) rfl];simp only[U3,V7,enter];ext;rw[jz (l:=qj (p.map Jq)) (by rfl) ?_ ?_ (.inl rfl)]
 .ext;rw[Yg O9 (λf hf=>by obtain⟨t,_,rfl⟩:=X8.mp hf;unfold Jq;split<;>simp) (by rw[kj];exact hp)];ext
 .rw[kj];omega
 .rw[qj,Xa];refine ju λt _=>qi (by ext) ?_;by_cases h:t=2
  .ext;simp only[gN];ext;simp only[gT];ext;simp[Jq,h]
  .ext;simp only[gN];ext;simp[Jq,h]
theorem Uk:∀l:List Int,Jw (l.map D.int)=a5
 |[]=>rfl
 |_::l=>by rw[xr,Jw,Uk l];rfl
theorem Ep(ks:List (List Int))(ns:List Int):noFn (.dct ks (ns.map D.int))=a5:=by rw[noFn,Uk]
theorem j7l(l:List Int):noFn (.tup (l.map D.int))=a5:=by rw[noFn,Uk]
theorem at0(a b:D):atI [a,b] 0=a3 a:=rfl
theorem at1(a b:D):atI [a,b] 1=a3 b:=rfl
noncomputable def jd:List Int->Int
 |[]=>0
 |d::ds=>d*3^ds.length+jd ds
theorem Zi:∀{p:List Int},(∀t∈p,0<=t/\t<3)->0<=jd p/\jd p<3^p.length
 |[],_=>⟨by decide,by decide⟩
 |d::ds,h=>by
  obtain⟨h1,h2⟩:=Zi (p:=ds) λt ht=>h t (km _ ht);have hd:=h d xm;have hp:(0:Int)<3^ds.length:=cB (by decide);rw[jd,xq,i7];have:d=0\/d=1\/d=2:=by omega
  rcases this with e|e|e<;>subst e<;>exact⟨by omega,by omega⟩
theorem Uv:∀{p:List Int},(∀t∈p,0<=t/\t<3)->j4 3 p.length (jd p)=p
 |[],_=>rfl
 |d::ds,h=>by have h':∀t∈ds,0<=t/\t<3:=λt ht=>h t (km _ ht);obtain⟨h1,h2⟩:=Zi h';have hd:=h d xm;have hp:(3:Int)^ds.length≠0:=i8 (cB (by decide));rw[jd,xq,show d*3^ds.length+jd ds=jd ds+3^ds.length*d by rw[dA,ia],j4,Oi (by decide) _ _ (X5 _),Uv h'];congr 1;rw[dJ _ _ hp,Tw h1 h2,bS];omega
theorem Vu(i:Nat):∀m:Nat,jd (j4 3 m (i:Int))=((i%3^m:Nat):Int)
 |0=>by rw[Nat.pow_zero,Nat.mod_one];rfl
 |m+1=>by
  have pc:((3^m:Nat):Int)=(3:Int)^m:=by simp
  have e:((i/3^m%3:Nat):Int)=(i:Int)/3^m%3:=by rw[Int.natCast_emod,Int.natCast_ediv,pc];rfl
  rw[j4,jd,jw,Vu i m,T7,Nat.mod_mul,kg,cH,e,pc,dA,ia]
theorem Rh:∀{p:List Int}{s:Nat}{c:Int},s<p.length->jd (p.set s c)=jd p+(c-p.getD s 0)*3^(p.length-1-s)
 |d::ds,0,c,_=>by rw[t7,jd,jd,xq,eB,show ds.length+1-1-0=ds.length by omega,Int.sub_mul];omega
 |d::ds,s+1,c,h=>by have:=Rh (p:=ds) (s:=s) (c:=c) (by simpa using h);rw[Pn,jd,jd,tu,xq,bT,this,show ds.length+1-1-(s+1)=ds.length-1-s by omega];omega
theorem j1e{m i s:Nat}{c:Nat}(hi:i<3^m)(hs:s<m)(h2:(j4 3 m (i:Int)).getD s 0=2)(hc:c=0\/c=1):(2-c)*3^(m-1-s)<=i/\(j4 3 m (i:Int)).set s (c:Int)=j4 3 m ((i-(2-c)*3^(m-1-s):Nat):Int):=by
 have hl:(j4 3 m (i:Int)).length=m:=jw 3 m _;have h3:∀t∈(j4 3 m (i:Int)).set s (c:Int),0<=t/\t<3:=(jd9 hl (λt ht=>Qj (by decide) ht) nofun).2;have l2:((j4 3 m (i:Int)).set s (c:Int)).length=m:=by rw[tu];exact hl
 have v:=Rh (p:=j4 3 m (i:Int)) (c:=(c:Int)) (hl▸hs);rw[Vu,dr hi,h2,hl]at v;obtain⟨b1,b2⟩:=Zi h3;have d:=Uv h3;rw[l2]at d;have pc:((3^(m-1-s):Nat):Int)=(3:Int)^(m-1-s):=by simp
 have le:(2-c)*3^(m-1-s)<=i:=by
  have:(((2-c)*3^(m-1-s):Nat):Int)=(2-(c:Int))*3^(m-1-s):=by rw[cH,pc];congr 1;omega
  have e2:((c:Int)-2)*3^(m-1-s) = -((2-(c:Int))*3^(m-1-s)):=by rw[<-lQ];congr 1;omega
  omega
 refine⟨le,?_⟩;rw[<-d,v];congr 1;rw[Int.natCast_sub le,cH,pc];have e2:((c:Int)-2)*3^(m-1-s) = -((2-(c:Int))*3^(m-1-s)):=by rw[<-lQ];congr 1;omega
 have e3:((2-c:Nat):Int)=2-(c:Int):=by omega
 rw[e2,e3];omega
noncomputable def opB(a:List Int)(m:Nat)(p:List Int):Bool:=(stD a p m).isNon
theorem Fg{a p:List Int}{m:Nat}(h01:∀x∈a,x=0\/x=1)(hp:p.length=m)(hp3:∀t∈p,0<=t/\t<3)(h:opB a m p=a5):jh p m≠[]:=λe=>by
 subst hp;have o:=El p;rw[e]at o;have c:=j2b (a:=a) h01 rfl hp3;rw[<-o]at c;unfold opB stD j2w at h;have c:cnt a p p.length 0+cnt a p p.length 1=1:=c;split at h
 .cases h
 .split at h
  .cases h
  .omega
noncomputable def PK(p:List Int):List (List Int):=zp (p.map Jq)
theorem U8{t:Int}{p q:List Int}:q∈PK (t::p) ↔ ∃x∈Jq t,∃r∈PK p,q=x::r:=by
 unfold PK;rw[xr,zp,jK];constructor
 .rintro⟨x,hx,h⟩;obtain⟨r,hr,e⟩:=X8.mp h;exact⟨x,hx,r,hr,e.symm⟩
 .rintro⟨x,hx,r,hr,e⟩;exact⟨x,hx,X8.mpr ⟨r,hr,e.symm⟩⟩
theorem j21{t x:Int}(h:x∈Jq t):(t=2/\(x=0\/x=1\/x=2))\/(t≠2/\x=t):=by
 unfold Jq at h;split at h
 .rename_i e;simp only[xn,bO,or_false]at h;exact .inl ⟨e,h⟩
 .rename_i e;exact .inr ⟨e,xu.mp h⟩
theorem j34:∀{p q:List Int},(∀t∈p,0<=t/\t<3)->q∈PK p->q.length=p.length/\∀t∈q,0<=t/\t<3
 |[],q,_,h=>by have e:q=[]:=xu.mp h;rw[e];exact⟨rfl,λt ht=>nomatch ht⟩
 |t::p,q,h3,h=>by
  obtain⟨x,hx,r,hr,e⟩:=U8.mp h;obtain⟨h1,h2⟩:=j34 (λt ht=>h3 t (km _ ht)) hr;have ht:=h3 t xm;subst e;refine⟨by rw[xq,xq,h1],λy hy=>?_⟩;rcases xn.mp hy with q|q
  .subst q;rcases j21 hx with ⟨_,z⟩|⟨_,z⟩<;>omega
  .exact h2 y q
theorem j1l:∀{p:List Int},p∈PK p
 |[]=>xu.mpr rfl
 |t::p=>by
  refine U8.mpr ⟨t,?_,p,j1l,rfl⟩;unfold Jq;split
  .rename_i e;rw[e];simp
  .exact xu.mpr rfl
theorem Wj:∀{p:List Int},(∀t∈p,0<=t/\t<3)->(PK p).Pairwise λx y=>jd x<jd y
 |[],_=>List.pairwise_singleton _ _
 |t::p,h3=>by
  have h3':∀t∈p,0<=t/\t<3:=λt ht=>h3 t (km _ ht);have ih:=Wj h3';have bd:∀r∈PK p,0<=jd r/\jd r<3^p.length/\r.length=p.length:=λr hr=>by obtain⟨h1,h2⟩:=j34 h3' hr;obtain⟨b1,b2⟩:=Zi h2;rw[h1]at b2;exact⟨b1,b2,h1⟩
  have one:∀c:Int,((PK p).map (c :: ·)).Pairwise λx y=>jd x<jd y:=λc=>by rw[jC];refine ih.imp_of_mem λ{x y} hx hy h=>?_;rw[jd,jd,(bd x hx).2.2,(bd y hy).2.2];omega
  have two:∀{c d:Int},c<d->∀x∈(PK p).map (c :: ·),∀y∈(PK p).map (d :: ·),jd x<jd y:=λ{c d} hcd x hx y hy=>by
   obtain⟨r,hr,rfl⟩:=X8.mp hx;obtain⟨r',hr',rfl⟩:=X8.mp hy;obtain⟨b1,b2,b3⟩:=bd r hr;obtain⟨d1,d2,d3⟩:=bd r' hr';show c*3^r.length+jd r<d*3^r'.length+jd r';rw[b3,d3];have:c*3^p.length+3^p.length<=d*3^p.length:=by have h:=fJ (show c+1<=d by omega) (show(0:Int)<=3^p.length by exact i9 (cB (by decide)));rw[Int.add_mul,iG]at h;exact h
   omega
  by_cases e:t=2
  .have ek:PK (t::p)=(PK p).map (0 :: ·)++((PK p).map (1 :: ·)++(PK p).map (2 :: ·)):=by unfold PK;rw[xr,zp,e];simp[Jq]
   rw[ek];refine List.pairwise_append.mpr ⟨one 0,List.pairwise_append.mpr ⟨one 1,one 2,two (by decide)⟩,λx hx y hy=>?_⟩;rcases Xn.mp hy with q|q
   .exact two (by decide) x hx y q
   .exact two (by decide) x hx y q
  .have ek:PK (t::p)=(PK p).map (t :: ·):=by unfold PK;rw[xr,zp];simp[Jq,e]
   rw[ek];exact one t
theorem j7c{p:List Int}(h3:∀t∈p,0<=t/\t<3):(PK p).Nodup:=(Wj h3).imp λh e=>by rw[e]at h;omega
theorem j7d{p r:List Int}{i:Nat}(h3:∀t∈p,0<=t/\t<3)(hi:i<(PK p).length)(hr:r∈PK p)(hv:jd r<jd (PK p)[i]):r∈(PK p).take i:=by
 obtain⟨j,hj,rfl⟩:=Pj.mp hr;have hs:=List.pairwise_iff_getElem.mp (Wj h3);have:j<i:=by
  rcases i4 j i with q|q
  .exact q
  .rcases Nat.eq_or_lt_of_le q with q|q
   .subst q;omega
   .have:=hs i j hi hj q;omega
 exact Pj.mpr ⟨j,by rw[Xi];omega,fe⟩
theorem Oj{f:List Int->D}:∀{ks:List (List Int)} {q:List Int},q∈ks->Qt ks (ks.map f) q=a3 (f q)
 |k::ks,q,h=>by
  rw[xr,Qt];by_cases e:k=q
  .rw[if_pos e,e]
  .rw[if_neg e];exact Oj ((xn.mp h).resolve_left λz=>e z.symm)
theorem j4o:∀{p:List Int},(PK p).length<=3^p.length
 |[]=>X5 _
 |t::p=>by
  have ih:=j4o (p:=p);by_cases e:t=2
  .have ek:PK (t::p)=(PK p).map (0 :: ·)++((PK p).map (1 :: ·)++(PK p).map (2 :: ·)):=by unfold PK;rw[xr,zp,e];simp[Jq]
   rw[ek,Xe,Xe,kj,kj,kj,xq,T7];omega
  .have ek:PK (t::p)=(PK p).map (t :: ·):=by unfold PK;rw[xr,zp];simp[Jq,e]
   rw[ek,kj,xq,T7];omega
theorem j52{f1 f2:En->Option D}{A B C:D}{L:List (List Int)}{W:List Int->Int}{op:List Int->Bool}(hm:L.length<=1000000)(nd:L.Nodup)
  (h1:∀(q:List Int)(s5:Sv),q∈L->f1 [.val A,.val B,.val C,.un,.val (.tup (q.map D.int)),s5]=a3 (.bl (!op q)))
  (h2:∀(i:Nat)(hi:i<L.length),f2 [.val A,.val B,.val C,.val (.dct (L.take i) (((L.take i).map W).map D.int)),.val (.tup (L[i].map D.int)),.val (.bl (!op L[i]))]=a3 (.int (W L[i]))) :
  ∀(r i:Nat)(s4 s5:Sv),i+r=L.length->V4 f1 f2 3 4 5 (qj (L.drop i)) [.val A,.val B,.val C,.un,s4,s5] (L.take i) ((L.take i).map W)=a3 (L,L.map W):=by
 intro r;induction r with
 |zero =>intro i s4 s5 e;rw[Nat.add_zero]at e;rw[List.drop_of_length_le nofun,Tv nofun];rfl
 |succ r ih =>
  intro i s4 s5 e;have hi:i<L.length:=by omega
  have ed:L.drop i=L[i]::L.drop (i+1):=Tc hi;have et:L.take (i+1)=L.take i++[L[i]]:=by rw[Tj,kh hi];rfl
  have nc:(L.take i).contains L[i]=a4:=by
   have nd:=nd;rw[<-i5 i L,ed]at nd;have:=(List.nodup_append.mp nd).2.2;cases z:(L.take i).contains L[i] with
   |false=>rfl
   |true=>exact absurd rfl (this _ (by simpa using z) _ xm)
  have ll:(L.take i).length<aj:=lt_size (by rw[Xi];omega);have g:=ih (i+1) (.val (.tup (L[i].map D.int))) (.val (.bl (!op L[i]))) nofun
  rw[et,Xf,xr,Pr]at g;rw[ed,qj,xr,<-qj,V4];simp only[q9,Jp,t7,Pn,h1 _ _ (Xr hi),h2 i hi];rw[if_pos ⟨nc,ll⟩];exact g
theorem Qs {n k:Nat} (hk:k<=6):evP 1000 G T (n+1) "_law_threes" [.int k]=.val (.int ((3^k:Nat):Int)):=by
 rw[jx (F:=Wr) (by rfl) rfl];simp only[Wr,Yv,enter];ext;rw[O8 (λi=>[.val (.int k),.val (.int ((3^i:Nat):Int)),if i=0 then .un else .val (.int ((i:Int)-1))]) (by simp)]
 .ext;rw[za];simp
 .intro i d hi;obtain⟨h1,rfl⟩:=Vv hi;simp only[Jh];ext;have e:(3:Int)*((3^i:Nat):Int)=((3^(i+1):Nat):Int):=by rw[T7,cH,dA];rfl
  rw[e];simp
theorem V6 {n m:Nat} {z:Int} (hm:m<=6):evP 1000 G T (n+1) "_law_digits" [.int m,.int z]=.fresh ((j4 3 m z).map D.int):=by
 rw[jx (F:=Wt) (by rfl) rfl];simp only[Wt,Yx,enter];ext;rw[O8 (λi=>[.val (.int m),.val (.int (z/3^i)),.own ((j4 3 i z).map .int),if i=0 then .un else .val (.int ((i:Int)-1))]) (by simp[j4])]
 .ext;rw[za];simp
 .intro i d hi;obtain⟨h1,rfl⟩:=Vv hi;have hl:(j4 3 i z).length=i:=jw 3 i z;simp only[Jh];ext;rw[Oh z 3 (by decide),j4];simp
noncomputable def stp(m i s:Nat):D:=.tup [.int (s:Int),.int ((i:Int)-2*((3^(m-1-s):Nat):Int)),.int ((i:Int)-((3^(m-1-s):Nat):Int))]
noncomputable def opU(p:List Int)(j:Nat):List Nat:=(ar j).filter λ(k:Nat)=>decide (p.getD k 0=2)
theorem j4z{p:List Int}{j:Nat}(h:p.getD j 0=2):opU p (j+1)=opU p j++[j]:=by rw[opU,opU,cD,sr];congr 1;exact c8 (decide_eq_true h)
theorem j1q{p:List Int}{j:Nat}(h:¬p.getD j 0=2):opU p (j+1)=opU p j:=by rw[opU,opU,cD,sr];have e:[j].filter (λ(k:Nat)=>decide (p.getD k 0=2))=[]:=c9 (λz=>h (of_decide_eq_true z));rw[e,Xv]
theorem jb7(p:List Int)(j:Nat):(opU p j).length<=j:=Xk (Xz _ _) (by rw[Xh];exact X5 _)
theorem Ov {n m i:Nat} (hm:m<=6):evP 1000 G T (n+2) "_law_steps" [.int m,.int i]=.fresh ((jh (j4 3 m (i:Int)) m).map (stp m i)):=by
 rw[jx (F:=Od) (by rfl) rfl];simp only[Od,W0,enter];ext;rw[V6 (n:=n) hm];ext;have hl:(j4 3 m (i:Int)).length=m:=jw 3 m _;refine Jm (λj ρ=>∃s4 s5,ρ=[.val (.int m),.val (.int i),.own ((j4 3 m (i:Int)).map D.int),.own ((opU (j4 3 m (i:Int)) j).map (stp m i)),s4,s5]) ⟨_,_,rfl⟩ ?_ ?_
 .rintro j d ρ hj ⟨s4,s5,rfl⟩;obtain⟨h1,rfl⟩:=Vv hj;have h1:j<m:=by omega
  have g:=j86 (p:=j4 3 m (i:Int)) (k:=j) nofun
  have ol:=jb7 (j4 3 m (i:Int)) j;simp only[Jh];ext;rw[bS,g];by_cases h2:(j4 3 m (i:Int)).getD j 0=2
  .have t:=Qs (n:=n) (k:=m-1-j) nofun
   have e:(m:Int)-1-(j:Int)=((m-1-j:Nat):Int):=by omega
   ext;rw[e,t];ext;refine⟨_,rfl,.val (.int (j:Int)),.val (.int ((3^(m-1-j):Nat):Int)),?_⟩;rw[j4z h2,Xf];rfl
  .ext;refine⟨_,rfl,.val (.int (j:Int)),s5,?_⟩;rw[j1q h2]
 .rintro ρ ⟨s4,s5,rfl⟩;ext;rw[za];simp[opU,jh]
noncomputable def Z6(p:List Int):Nat:=p.countP λt=>t==2
noncomputable def onD(a:List Int)(m j:Nat):D:=.tup [.int (cnt a (j4 3 m (j:Int)) m 1:Nat),.int ((2^Z6 (j4 3 m (j:Int)):Nat):Int)]
theorem j06{a:List Int}{m i j:Nat}(h:j<i):atI ((ar i).map (onD a m)) (j:Int)=a3 (onD a m j):=Jl (by rw[xx,Xw h];rfl)
theorem jkg(x y z:D):atI [x,y,z] 1=a3 y:=rfl
theorem jkf(x y z:D):atI [x,y,z] 2=a3 z:=rfl
theorem jgn(x:D)(l:List D):atI (x::l) 0=a3 x:=by have:=Jl (xs:=x::l) (n:=0) rfl;exact this
theorem Ci {n m:Nat} {ws:List af} {a:List Int} (hw:ws.length=m) (hm:1<=m/\m<=6) (ha:a.length=2^m) (h01:∀x∈a,x=0\/x=1):evP 1000 G T (n+3) "_law_ones" [qD ws a]=.fresh ((ar (3^m)).map (onD a m)):=by
 rw[jx (F:=Df) (by rfl) rfl];simp only[Df,M7,enter,qD];ext;erw[at0,hw];rw[Qs (n:=n+1) hm.2];have p3:=Eh hm.2;ext;refine Jm (λi ρ=>∃s3 s4 s5 s6 s7 s8,ρ=[.val (.tup [.tup (ws.map D.str),.tup (a.map D.int)]),.val (.int m),.own ((ar i).map (onD a m)),s3,s4,s5,s6,s7,s8]) ⟨_,_,_,_,_,_,rfl⟩ ?_ ?_
 .rintro i d ρ hi ⟨s3,s4,s5,s6,s7,s8,rfl⟩;obtain⟨h1,rfl⟩:=Vv hi;have hi:i<3^m:=by rw[Xm]at h1;exact h1
  have hl:(j4 3 m (i:Int)).length=m:=jw 3 m _;have h3:∀t∈j4 3 m (i:Int),0<=t/\t<3:=λt ht=>Qj (by decide) ht;have ol:(jh (j4 3 m (i:Int)) m).length=Z6 (j4 3 m (i:Int)):=by have:=El (j4 3 m (i:Int));rw[hl]at this;exact this
  have rl:(ar i).length=i:=Xh;simp only[Jh];ext;rw[bS,Ov (n:=n) hm.2];ext;cases z:jh (j4 3 m (i:Int)) m with
  |nil =>
   rw[z]at ol;obtain⟨k,hk,ek,ik⟩:=j6r hl h3 ol.symm;have dg:=V6 (n:=n+1) (z:=(i:Int)) hm.2;ext;rw[dg];ext;have k2:(k:Int)<2^m:=by
    have:((2^m:Nat):Int)=2^m:=by simp
    rw[<-this];omega
   have z0:(k:Int)/2^m=0:=Tw nofun k2;obtain⟨ρ',el,s6',hρ⟩:=V9 (f:=M5 [6] (run 1000 (evP 1000 G T (n+2)) G (.seq (.set 5 (.bin .add (.bin .mul (.lit (.int 2)) (.var 5)) (.var 6))) .nop)))
    (λj ρ=>∃s6,ρ=[.val (.tup [.tup (ws.map D.str),.tup (a.map D.int)]),.val (.int m),.own ((ar i).map (onD a m)),.val (.int (i:Int)),.own [],.val (.int ((k:Int)/2^(m-j))),s6,s7,s8]) (k:=0) (ds:=(j4 3 m (i:Int)).map D.int)
    (ρ:=[.val (.tup [.tup (ws.map D.str),.tup (a.map D.int)]),.val (.int m),.own ((ar i).map (onD a m)),.val (.int (i:Int)),.own [],.val (.int 0),s6,s7,s8]) ⟨s6,by rw[i3,z0]⟩ (by
    rintro j d ρ hj ⟨s6,rfl⟩
    rw[Th]
    obtain⟨v,hv,rfl⟩:=Uq hj
    rw[ek]at hv
    have hlt:j<m:=by
     have:=(X3.mp hv).1
     rw[jw]at this;exact this
    rw[Qa hlt]at hv
    cases hv
    simp only[Jh]
    ext
    refine⟨_,rfl,?_⟩
    have e1:m-j=(m-1-j)+1:=by omega
    have e2:m-(j+1)=m-1-j:=by omega
    have e3:2*((k:Int)/2^(m-j))+(k:Int)/2^(m-1-j)%2=(k:Int)/2^(m-(j+1)):=by
     rw[e1,e2,<-Oh (k:Int) 2 nofun]
     exact iv _ _
    rw[e3]
    exact⟨_,rfl⟩)
   have e:(k:Int)/2^(m-(0+((j4 3 m (i:Int)).map D.int).length))=(k:Int):=by rw[kj,hl,Th,Nat.sub_self];simp
   rw[e]at hρ;subst hρ;have g:=j86 (p:=a) (k:=k) nofun
   erw[el,at1,g];refine⟨_,rfl,.val (.int (i:Int)),.own [],.val (.int (k:Int)),s6',s7,s8,?_⟩;have c1:((cnt a (j4 3 m (i:Int)) m 1:Nat):Int)=a.getD k 0:=by
    unfold cnt;rw[ik];have:a.getD k 0=0\/a.getD k 0=1:=by rw[xf,kh nofun];exact h01 _ (Xr _)
    rw[Xx,List.countP_nil];rcases this with q|q<;>rw[q]<;>rfl
   have t0:Z6 (j4 3 m (i:Int))=0:=ol.symm;rw[cD,Xf];show _=[_,_,Sv.own (_++[onD a m i]),_,_,_,_,_,_]
   rw[onD,c1,t0];rfl
  |cons s L =>
   have hs:s<m/\(j4 3 m (i:Int)).getD s 0=2:=by
    have:s∈jh (j4 3 m (i:Int)) m:=by rw[z];exact xm
    obtain⟨h1,h2⟩:=Xy.mp this;exact⟨Xp.mp h1,of_decide_eq_true h2⟩
   obtain⟨l0,e0⟩:=j1e (c:=0) hi hs.1 hs.2 (.inl rfl);obtain⟨l1,e1⟩:=j1e (c:=1) hi hs.1 hs.2 (.inr rfl);have w:0<3^(m-1-s):=Nat.pos_of_ne_zero (by simp);have i0:(i:Int)-2*((3^(m-1-s):Nat):Int)=((i-(2-0)*3^(m-1-s):Nat):Int):=by omega
   have i1:(i:Int)-((3^(m-1-s):Nat):Int)=((i-(2-1)*3^(m-1-s):Nat):Int):=by omega
   have g0:=j06 (a:=a) (m:=m) (i:=i) (j:=i-(2-0)*3^(m-1-s)) nofun
   have g1:=j06 (a:=a) (m:=m) (i:=i) (j:=i-(2-1)*3^(m-1-s)) nofun
   have cs:=j5w (a:=a) (v:=1) hl hs.1 hs.2;have c0:=Cy (v:=0) (by rw[hl];exact hs.1) hs.2 (.inl rfl);have c1:=Cy (v:=1) (by rw[hl];exact hs.1) hs.2 (.inr rfl);rw[show((0:Nat):Int)=0 from rfl]at e0;rw[show((1:Nat):Int)=1 from rfl]at e1;rw[e0,e1]at cs;rw[e0]at c0;rw[e1]at c1;have k1:((cnt a (j4 3 m ((i-(2-0)*3^(m-1-s):Nat):Int)) m 1:Nat):Int)+((cnt a (j4 3 m ((i-(2-1)*3^(m-1-s):Nat):Int)) m 1:Nat):Int)=((cnt a (j4 3 m (i:Int)) m 1:Nat):Int):=by omega
   have k2:((2^Z6 (j4 3 m ((i-(2-0)*3^(m-1-s):Nat):Int)):Nat):Int)+((2^Z6 (j4 3 m ((i-(2-1)*3^(m-1-s):Nat):Int)):Nat):Int)=((2^Z6 (j4 3 m (i:Int)):Nat):Int):=by have c0:Z6 (j4 3 m ((i-(2-0)*3^(m-1-s):Nat):Int))+1=Z6 (j4 3 m (i:Int)):=c0;have c1:Z6 (j4 3 m ((i-(2-1)*3^(m-1-s):Nat):Int))+1=Z6 (j4 3 m (i:Int)):=c1;rw[show Z6 (j4 3 m ((i-(2-1)*3^(m-1-s):Nat):Int))=Z6 (j4 3 m ((i-(2-0)*3^(m-1-s):Nat):Int))by omega,<-c0,T7];omega
   rw[onD]at g0 g1;have er:(ar (i+1)).map (onD a m)=(ar i).map (onD a m)++[onD a m i]:=by rw[cD,Xf];rfl
   rw[er,onD,<-k1,<-k2];ext;rw[stp,jgn];ext;rw[jkg];ext;rw[i0,g0];ext;erw[jgn,jkf];rw[i1,g1];ext;rw[at0,at0,at1,at1];ext;exact⟨_,rfl,_,_,_,_,_,_,rfl⟩
 .rintro ρ ⟨s3,s4,s5,s6,s7,s8,rfl⟩;ext;rw[za,Xm]
theorem Ml {n m i:Nat} {a:List Int} (h01:∀x∈a,x=0\/x=1):evP 1000 G T (n+1) "_law_is_open" [onD a m i]=.val (.bl (opB a m (j4 3 m (i:Int)))):=by
 have hl:(j4 3 m (i:Int)).length=m:=jw 3 m _;have c:=j2b (a:=a) h01 hl λt ht=>Qj (by decide) ht;have e:(decide ((0:Int)<(cnt a (j4 3 m (i:Int)) m 1:Nat))&&decide (((cnt a (j4 3 m (i:Int)) m 1:Nat):Int)<((2^Z6 (j4 3 m (i:Int)):Nat):Int)))=opB a m (j4 3 m (i:Int)):=by
  have c:cnt a (j4 3 m (i:Int)) m 0+cnt a (j4 3 m (i:Int)) m 1=2^Z6 (j4 3 m (i:Int)):=c;rw[<-c];unfold opB stD j2w;by_cases h1:cnt a (j4 3 m (i:Int)) m 1=0
  .rw[if_pos h1,h1];rfl
  .rw[if_neg h1,decide_eq_true nofun,eG];by_cases h0:cnt a (j4 3 m (i:Int)) m 0=0
   .rw[if_pos h0,h0,decide_eq_false nofun];rfl
   .rw[if_neg h0,decide_eq_true nofun];rfl
 rw[jx (F:=Us) (by rfl) rfl];simp only[Us,Vq,enter,onD];ext;rw[at0,at1];ext;rw[e]
theorem jc8{a:List Int}{m N:Nat}:zb ((ar N).map (onD a m))=(ar N).map λ(j:Nat)=>D.tup [.int (j:Int),onD a m j]:=by
 apply Sg;intro i;unfold zb;rw[xx,ir,xx,xx];by_cases h:i<N
 .rw[Xw h];simp
 .rw[ph (by rw[Xh];omega)];rfl
noncomputable def rsS(k:Nat)(c:List (List Nat))(s:Nat):List (List Nat):=c++(c.filter λS=>decide (S.length<k)).map (· ++ [s])
noncomputable def rsC(k:Nat)(os:List Nat):List (List Nat):=os.foldl (rsS k) [[]]
noncomputable def rsL(k:Nat)(os:List Nat):List (List Nat):=(rsC k os).drop 1
theorem Iu{k s:Nat}{os:List Nat}:rsC k (os++[s])=rsS k (rsC k os) s:=by unfold rsC;rw[jD];rfl
theorem jdj{k s:Nat}{c:List (List Nat)}{S:List Nat}(h:S∈rsS k c s):S∈c\/∃R∈c,R.length<k/\S=R++[s]:=by
 rcases Xn.mp h with h|h
 .exact .inl h
 .obtain⟨R,hR,e⟩:=X8.mp h;obtain⟨h1,h2⟩:=Xy.mp hR;exact .inr ⟨R,h1,of_decide_eq_true h2,e.symm⟩
theorem j1h{k:Nat}:∀{os:List Nat}{c:List (List Nat)},(∃r,c=[]::r/\∀S∈r,S≠[])->∃r,os.foldl (rsS k) c=[]::r/\∀S∈r,S≠[]
 |[],c,h=>h
 |s::os,c,⟨r,e,h⟩=>by
  refine j1h (os:=os) (c:=rsS k c s) ⟨r++(c.filter λS=>decide (S.length<k)).map (· ++ [s]),by rw[e];rfl,λS hS=>?_⟩;rcases Xn.mp hS with q|q
  .exact h S q
  .obtain⟨R,_,e⟩:=X8.mp q;rw[<-e];simp
theorem j4h{k:Nat}:∀{os pre:List Nat}{c:List (List Nat)},(∀S∈c,S.Sublist pre/\S.length<=k)->∀S∈os.foldl (rsS k) c,S.Sublist (pre++os)/\S.length<=k
 |[],pre,c,h,S,hS=>by rw[Xv];exact h S hS
 |s::os,pre,c,h,S,hS=>by
  have:=j4h (os:=os) (pre:=pre++[s]) (c:=rsS k c s) (λR hR=>by
   rcases jdj hR with q|⟨R',h1,h2,e⟩
   .exact⟨(h R q).1.trans (List.sublist_append_left ..),(h R q).2⟩
   .rw[e];exact⟨(h R' h1).1.append (cA _),by rw[Xe];exact h2⟩) S hS
  rwa [Ti]at this
theorem j4i{k:Nat}:∀{os:List Nat}{c:List (List Nat)},(os.foldl (rsS k) c).length<=c.length*2^os.length
 |[],c=>by simp
 |s::os,c=>by
  have h:=j4i (k:=k) (os:=os) (c:=rsS k c s);have l:(rsS k c s).length<=c.length*2:=by unfold rsS;rw[Xe,kj];have:=Xz (λS:List Nat=>decide (S.length<k)) c;omega
  have:=iE (2^os.length) l;rw[xq,T7,cN (2^os.length) 2,<-gD];exact Xk h this
theorem Ui{k:Nat}{os:List Nat}:rsC k os=[]::rsL k os/\∀S∈rsL k os,S≠[]:=by obtain⟨r,e,h⟩:=j1h (k:=k) (os:=os) (c:=[[]]) ⟨[],rfl,λS hS=>nomatch hS⟩;have e':rsC k os=[]::r:=e;unfold rsL;rw[e'];exact⟨rfl,h⟩
theorem Iv{k:Nat}{os S:List Nat}(h:S∈rsC k os):S.Sublist os/\S.length<=k :=
 j4h (k:=k) (os:=os) (pre:=[]) (c:=[[]]) (λS hS=>by rw[xu.mp hS];exact⟨cA _,T6 _⟩) S h
theorem Vx{k:Nat}{os S:List Nat}(h:S∈rsL k os):S.Sublist os/\S.length<=k/\S≠[]:=by obtain⟨e,h2⟩:=Ui (k:=k) (os:=os);have:=Iv (show S∈rsC k os by rw[e];exact km _ h);exact⟨this.1,this.2,h2 S h⟩
theorem jam{k:Nat}{os:List Nat}:(rsC k os).length<=2^os.length:=by have:=j4i (k:=k) (os:=os) (c:=[[]]);rw[T8,dU]at this;exact this
theorem j4j{k:Nat}{os:List Nat}(hk:1<=k)(ho:os≠[]):rsL k os≠[]:=λz=>by
 obtain⟨e,_⟩:=Ui (k:=k) (os:=os);have grow:∀{os:List Nat}{c:List (List Nat)},c.length<=(os.foldl (rsS k) c).length:=λ{os}=>by
  induction os with
  |nil=>intro c;exact X5 _
  |cons s os ih=>intro c;exact Xk (by unfold rsS;rw[Xe];omega) (ih (c:=rsS k c s))
 cases os with
 |nil=>exact ho rfl
 |cons s os =>
  have h:=grow (os:=os) (c:=rsS k [[]] s);have l:(rsS k [[]] s).length=2:=by simp[rsS,show 0<k from hk]
  have h':2<=(rsC k (s::os)).length:=by rw[<-l];exact h
  rw[e,z]at h';simp at h'
noncomputable def seF(qs:List (List Int))(s:Nat):List (List Int):=qs.map (·.set s 0)++qs.map (·.set s 1)
noncomputable def seL(p:List Int)(S:List Nat):List (List Int):=S.foldl seF [p]
theorem Ir{p:List Int}{S:List Nat}{s:Nat}:seL p (S++[s])=seF (seL p S) s:=by unfold seL;rw[jD];rfl
def Beh(p:List Int)(S:List Nat)(q:List Int):Prop:=q.length=p.length/\∀j,j<p.length->(j∈S->q.getD j 0=0\/q.getD j 0=1)/\(j∉S->q.getD j 0=p.getD j 0)
theorem Oa{p:List Int}{s j:Nat}{c:Int}(hs:s<p.length):(p.set s c).getD j 0=if s=j then c else p.getD j 0:=by
 rw[xf,d5];by_cases e:s=j
 .rw[if_pos e,if_pos e,if_pos hs];rfl
 .rw[if_neg e,if_neg e,xf]
theorem j8b{p q:List Int}(hl:q.length=p.length)(h:∀j,j<p.length->q.getD j 0=p.getD j 0):q=p:=by
 refine List.ext_getElem hl λj h1 h2=>?_;have:=h j h2
 rwa [xf,xf,kh h1,kh h2]at this
theorem j59{n:Nat}:∀{S:List Nat}{qs:List (List Int)} {q:List Int},(∀s∈S,s<n)->(∀p∈qs,p.length=n)->(q∈S.foldl seF qs ↔ ∃p∈qs,Beh p S q)
 |[],qs,q,_,hq=>by refine⟨λh=>⟨q,h,rfl,λj _=>⟨λz=>(nomatch z),λ_=>rfl⟩⟩,λ⟨p,hp,h1,h2⟩=>?_⟩;rw[j8b h1 λj hj=>(h2 j hj).2 (λz=>nomatch z)];exact hp
 |s::S,qs,q,hS,hq=>by
  have hs:=hS s xm;rw[Tf,j59 (n:=n) (S:=S) (qs:=seF qs s) (λt ht=>hS t (km _ ht)) (λp hp=>by
   rcases Xn.mp hp with h|h<;>(obtain⟨r,hr,e⟩:=X8.mp h;rw[<-e,tu];exact hq r hr))]
  constructor
  .rintro⟨p,hp,h1,h2⟩;have:∃r∈qs,∃c:Int,(c=0\/c=1)/\p=r.set s c:=by
    rcases Xn.mp hp with h|h<;>obtain⟨r,hr,e⟩:=X8.mp h
    .exact⟨r,hr,0,.inl rfl,e.symm⟩
    .exact⟨r,hr,1,.inr rfl,e.symm⟩
   obtain⟨r,hr,c,hc,rfl⟩:=this;rw[tu]at h1 h2;have hl:=hq r hr;refine⟨r,hr,h1,λj hj=>⟨λhm=>?_,λhm=>?_⟩⟩
   .by_cases e:j∈S
    .exact(h2 j hj).1 e
    .have ej:j=s:=(xn.mp hm).resolve_right e;rw[(h2 j hj).2 e,Oa nofun,if_pos ej.symm];exact hc
   .rw[(h2 j hj).2 λz=>hm (km _ z),Oa nofun,if_neg λz=>hm (by rw[z];exact xm)]
  .rintro⟨r,hr,h1,h2⟩;have hl:=hq r hr;have hc:=(h2 s nofun).1 xm;refine⟨r.set s (q.getD s 0),?_,by rw[tu];exact h1,λj hj=>?_⟩
   .rcases hc with e|e<;>rw[e]
    .exact P0 _ (X8.mpr ⟨r,hr,rfl⟩)
    .exact Xd _ (X8.mpr ⟨r,hr,rfl⟩)
   .rw[tu]at hj;refine⟨λhm=>(h2 j hj).1 (km _ hm),λhm=>?_⟩;rw[Oa nofun];by_cases e:s=j
    .rw[if_pos e,e]
    .rw[if_neg e];exact(h2 j hj).2 λz=>(xn.mp z).elim (λz=>e z.symm) hm
theorem Zn{p q:List Int}{S:List Nat}(hS:∀s∈S,s<p.length):q∈seL p S↔Beh p S q:=by unfold seL;rw[j59 (n:=p.length) hS λr hr=>by rw[xu.mp hr]];exact⟨λ⟨r,hr,h⟩=>by rwa [xu.mp hr]at h,λh=>⟨p,xu.mpr rfl,h⟩⟩
theorem Ba:∀{S:List Nat}{qs:List (List Int)},qs≠[]->S.foldl seF qs≠[]
 |[],_,h=>h
 |s::S,qs,h=>Ba (S:=S) λz=>h (by unfold seF at z;exact List.map_eq_nil_iff.mp (List.append_eq_nil_iff.mp z).1)
theorem We:∀{S:List Nat}{qs:List (List Int)},(S.foldl seF qs).length=qs.length*2^S.length
 |[],qs=>by simp
 |s::S,qs=>by rw[Tf,We (S:=S),seF,Xe,kj,kj,xq,T7,cN (2^S.length) 2,<-gD];congr 1;omega
theorem Dt:∀{p q:List Int},q.length=p.length->(∀j,j<p.length->q.getD j 0<=p.getD j 0)->jd q<=jd p/\((∃j,j<p.length/\q.getD j 0<p.getD j 0)->jd q<jd p)
 |[],[],_,_=>⟨cb _,λ⟨j,h,_⟩=>absurd h (fW _)⟩
 |[],_::_,h,_=>by cases h
 |_::_,[],h,_=>by cases h
 |x::p,y::q,hl,h=>by
  have hl':q.length=p.length:=by simpa using hl
  obtain⟨i1,i2⟩:=Dt hl' λj hj=>by have:=h (j+1) (by rw[xq];omega);simpa using this
  have h0:y<=x:=by have:=h 0 (by simp);simpa using this
  have w:(0:Int)<3^p.length:=cB (by decide);have e:jd (y::q)=y*3^q.length+jd q:=rfl;have e':jd (x::p)=x*3^p.length+jd p:=rfl;rw[e,e',hl'];have hm:y*3^p.length<=x*3^p.length:=fJ h0 (i9 w);refine⟨by omega,λ⟨j,hj,hlt⟩=>?_⟩;cases j with
  |zero =>
   have hlt:y<x:=by simpa using hlt
   have:=Int.mul_lt_mul_of_pos_right hlt w;omega
  |succ j =>have:=i2 ⟨j,by rw[xq]at hj;omega,by simpa using hlt⟩;omega
theorem O3{p:List Int}{m s:Nat}(h:s∈jh p m):s<m/\p.getD s 0=2:=by obtain⟨h1,h2⟩:=Xy.mp h;exact⟨Xp.mp h1,of_decide_eq_true h2⟩
theorem M6{p q:List Int}{S:List Nat}(h:Beh p S q)(hp3:∀t∈p,0<=t/\t<3):∀t∈q,0<=t/\t<3:=λt ht=>by
 obtain⟨j,hj,e⟩:=Pj.mp ht;have eq:q.getD j 0=t:=by rw[xf,kh hj,e];rfl
 have hj':j<p.length:=by rw[<-h.1];exact hj
 rw[<-eq];by_cases z:j∈S
 .have:=(h.2 j hj').1 z;omega
 .rw[(h.2 j hj').2 z];exact hp3 _ (by rw[xf,kh hj'];exact Xr hj')
theorem Uc{p q:List Int}{S:List Nat}(hne:S≠[])(hS:∀s∈S,s<p.length/\p.getD s 0=2)(h:Beh p S q):jd q<jd p:=by
 refine(Dt h.1 λj hj=>?_).2 ?_
 .by_cases z:j∈S
  .have:=(h.2 j hj).1 z;have:=(hS j z).2;omega
  .rw[(h.2 j hj).2 z];exact cb _
 .cases S with
  |nil=>exact absurd rfl hne
  |cons s S =>obtain⟨h1,h2⟩:=hS s xm;refine⟨s,h1,?_⟩;have:=(h.2 s h1).1 xm;omega
theorem j5a{l l':List Int}(hl:l≠[])(h:∀x,x∈l↔x∈l'):vo l=vo l':=by
 have hl':l'≠[]:=λz=>by
  cases l with
  |nil=>exact hl rfl
  |cons x l=>have:=(h x).mp xm;rw[z]at this;cases this
 obtain⟨a1,a2⟩:=O7 hl';exact j1v ((h _).mpr a1) λx hx=>a2 x ((h x).mp hx)
noncomputable def RpF(k:Nat)(a:List Int)(m:Nat):Nat->List Int->Int
 |0,_=>0
 |f+1,p=>if opB a m p=a5 then 1+Z7 ((rsL k (jh p m)).map λS=>vo ((seL p S).map (RpF k a m f)))else 0
noncomputable def Rp(k:Nat)(a:List Int)(m:Nat)(p:List Int):Int:=RpF k a m (3^m) p
theorem Q3{k m:Nat}{p:List Int}{S:List Nat}(hp:p.length=m)(h:S∈rsL k (jh p m)):∀s∈S,s<p.length/\p.getD s 0=2:=λs hs=>by rw[hp];exact O3 ((Vx h).1.subset hs)
theorem j6h{k m:Nat}{a:List Int}:∀{f f':Nat}{p:List Int},p.length=m->(∀t∈p,0<=t/\t<3)->jd p<f->f<=f'->RpF k a m f p=RpF k a m f' p
 |0,f',p,_,h3,hv,_=>by have:=(Zi h3).1;omega
 |f+1,0,p,_,_,_,h=>by omega
 |f+1,f'+1,p,hp,h3,hv,h=>by rw[RpF,RpF];congr 3;refine Ph λS hS=>?_;congr 1;have ok:=Q3 hp hS;refine Ph λq hq=>?_;have b:=(Zn λs hs=>(ok s hs).1).mp hq;have:=Uc (Vx hS).2.2 ok b;exact j6h (by rw[b.1];exact hp) (M6 b h3) nofun nofun
theorem Lp{k m:Nat}{a p:List Int}(h:opB a m p=a4):Rp k a m p=0:=by
 unfold Rp;obtain⟨f,e⟩:∃f,3^m=f+1:=⟨3^m-1,by have:0<3^m:=lO (by decide);omega⟩
 rw[e,RpF,h];rfl
theorem Dr{k m:Nat}{a p:List Int}(hp:p.length=m)(h3:∀t∈p,0<=t/\t<3)(h:opB a m p=a5):Rp k a m p=1+Z7 ((rsL k (jh p m)).map λS=>vo ((seL p S).map (Rp k a m))):=by
 obtain⟨f,e⟩:∃f,3^m=f+1:=⟨3^m-1,by have:0<3^m:=lO (by decide);omega⟩
 have hb:=(Zi h3).2;rw[hp]at hb;have hb:jd p<((3^m:Nat):Int):=by simpa using hb
 show RpF k a m (3^m) p=_;have step:RpF k a m (3^m) p=1+Z7 ((rsL k (jh p m)).map λS=>vo ((seL p S).map (RpF k a m f))):=by rw[e,RpF,if_pos h]
 rw[step];congr 2;refine Ph λS hS=>?_;congr 1;have ok:=Q3 hp hS;refine Ph λq hq=>?_;have b:=(Zn λs hs=>(ok s hs).1).mp hq;have:=Uc (Vx hS).2.2 ok b;exact j6h (by rw[b.1];exact hp) (M6 b h3) nofun nofun
noncomputable def spI(S:List Nat):List Int:=S.map λ(s:Nat)=>(s:Int)
theorem j1u{S:List Nat}{j:Nat}:(j:Int)∈spI S↔j∈S:=by unfold spI;rw[X8];exact⟨λ⟨s,h,e⟩=>by rwa [<-Int.ofNat.inj e],λh=>⟨j,h,rfl⟩⟩
theorem j2i{i:Int}:∀{l:List Int},((l.map D.int).any λe=>deq e (.int i))=decide (i∈l)
 |[]=>by simp
 |x::l=>by
  rw[xr,S7,j2i,j0d];by_cases e:x=i
  .simp[e]
  .simp[e,bJ e]
theorem j8l{i:Int}{l:List Int}:Qd .isin (.int i) (.tup (l.map D.int))=a3 (decide (i∈l)):=by rw[<-j2i];simp[Qd,D.sqv,D.dep,j5s]
noncomputable def Ve(p:List Int)(S:List Nat)(j:Nat):List Int:=if (j:Int)∈spI S then[0,1] else[p.getD j 0]
theorem O6:∀{l:List (List Int)} {q:List Int},q∈zp l↔q.length=l.length/\∀j,j<l.length->q.getD j 0∈l.getD j []
 |[],q=>by rw[zp,xu];exact⟨λe=>by rw[e];exact⟨rfl,λj h=>absurd h (fW _)⟩,λh=>List.length_eq_zero_iff.mp h.1⟩
 |f::l,q=>by
  rw[zp,jK];constructor
  .rintro⟨x,hx,h⟩;obtain⟨r,hr,rfl⟩:=X8.mp h;obtain⟨h1,h2⟩:=O6.mp hr;refine⟨by rw[xq,xq,h1],λj hj=>?_⟩;cases j with
   |zero=>simpa using hx
   |succ j=>have:=h2 j (by rw[xq]at hj;omega);simpa using this
  .rintro⟨h1,h2⟩;cases q with
   |nil=>cases h1
   |cons x r =>refine⟨x,by have:=h2 0 (by simp);simpa using this,X8.mpr ⟨r,O6.mpr ⟨by simpa using h1,λj hj=>?_⟩,rfl⟩⟩;have:=h2 (j+1) (by rw[xq];omega);simpa using this
theorem Eu{p q:List Int}{S:List Nat}:q∈zp ((ar p.length).map (Ve p S))↔Beh p S q:=by
 rw[O6,kj,Xh];refine and_congr_right λhl=>forall_congr' λj=>forall_congr' λhj=>?_;have e:((ar p.length).map (Ve p S)).getD j []=Ve p S j:=by rw[xf,xx,Xw hj];rfl
 rw[e,Ve];by_cases z:j∈S
 .rw[if_pos (j1u.mpr z)];simp[z]
 .rw[if_neg λh=>z (j1u.mp h)];simp[z]
theorem K5{n:Nat}{p:List Int}{S:List Nat}{ks:List (List Int)}{ns:List Int}{R:List Int->Int}(hl:p.length<=6)(hS:∀s∈S,s<p.length)(hx:∀q,Beh p S q->Qt ks (ns.map D.int) q=a3 (.int (R q))) :
  evP 1000 G T (n+2) "greatest_behind" [.dct ks (ns.map D.int),q9 p,q9 (spI S)]=.val (.int (vo ((seL p S).map R))):=by
 rw[jx (F:=Q9) (by rfl) rfl];simp only[Q9,J9,enter,q9];ext;rw[jz (l:=qj ((ar p.length).map (Ve p S))) (by rfl) (by unfold zb;rw[kj,bY,kj];omega) ?_ (.inl rfl)];rotate_left
 .rw[Cu,qj,Xa];refine ju λj hj=>Ni (by ext) ?_;ext;rw[j8l];ext;by_cases z:(j:Int)∈spI S
  .rw[decide_eq_true z];ext;simp only[gA];ext;simp[Ve,z,q9]
  .rw[decide_eq_false z];ext;simp[Ve,z,q9]
 ext;rw[Yg O9 (λf hf=>by obtain⟨j,_,rfl⟩:=X8.mp hf;unfold Ve;split<;>simp) (by rw[kj,Xh];exact hl),Js];ext;have ne:seL p S≠[]:=Ba (by simp);have pe:∀q,q∈zp ((ar p.length).map (Ve p S))↔q∈seL p S:=λq=>by rw[Eu,Zn hS]
 rw[jz (l:=((zp ((ar p.length).map (Ve p S))).map R).map D.int) (by rfl) ?_ ?_ (.inr (vy _))]
 .ext;rw[j3d (λz=>?_)]
  .ext;rw[j5a (l':=(seL p S).map R) (λz=>?_) λx=>?_]
   .exact ne (List.eq_nil_iff_forall_not_mem.mpr λq hq=>by
     rw[List.map_eq_nil_iff.mp z]at pe
     exact nomatch(pe q).mpr hq)
   .rw[X8,X8];exact⟨λ⟨q,h,e⟩=>⟨q,(pe q).mp h,e⟩,λ⟨q,h,e⟩=>⟨q,(pe q).mpr h,e⟩⟩
  .exact ne (List.eq_nil_iff_forall_not_mem.mpr λq hq=>by
    rw[List.map_eq_nil_iff.mp z]at pe
    exact nomatch(pe q).mpr hq)
 .rw[qj,kj,<-Js];have h:=Ms (fs:=(ar p.length).map (Ve p S)) (k:=2) (λf hf=>by obtain⟨j,_,rfl⟩:=X8.mp hf;unfold Ve;split<;>simp);rw[kj,Xh]at h;have h2:=t8 (show 0<2 by decide) hl;omega
 .rw[qj,Xa];refine ju λq hq=>qi (by ext) ?_;ext;simp only[q9];rw[jcd (hx q (Eu.mp hq))];rfl
noncomputable def spD(S:List Nat):D:=q9 (spI S)
theorem j51(l:List (List Nat)):jn (l.map spD)=a5:=by
 have:=Mi (l.map spI)
 rwa [qj,Xa]at this
theorem Nv{S:List Nat}:(spI S).length=S.length:=kj ..
theorem Ie{S:List Nat}{s:Nat}:spI (S++[s])=spI S++[(s:Int)]:=by unfold spI;rw[Xf];rfl
theorem j7i{p:List Int}{j:Nat}(h:p.getD j 0=2):jh p (j+1)=jh p j++[j]:=j4z h
theorem j4v{p:List Int}{j:Nat}(h:¬p.getD j 0=2):jh p (j+1)=jh p j:=j1q h
theorem Qz(p:List Int)(j:Nat):(jh p j).length<=j:=Xk (Xz _ _) (by rw[Xh];exact X5 _)
theorem Uh{k m:Nat}{os:List Nat}(h:os.length<=m)(hm:m<=6):(rsC k os).length<=64:=by have h1:=jam (k:=k) (os:=os);have h2:=t8 (show 0<2 by decide) (show os.length<=6 by omega);omega
theorem j0z {n k:Nat} {p:List Int} (hl:p.length<=6):evP 1000 G T (n+1) "rounds_at" [q9 p,.int k]=.fresh ((rsL k (jh p p.length)).map spD):=by
 rw[jx (F:=Y8) (by rfl) rfl];simp only[Y8,Zc,enter,q9];ext;rw[Cu];refine Jm (λi ρ=>∃s3 s4,ρ=[.val (.tup (p.map D.int)),.val (.int k),.own ((rsC k (jh p i)).map spD),s3,s4,.un]) ⟨_,_,rfl⟩ ?_ ?_
 .rintro i d ρ hi ⟨s3,s4,rfl⟩;have hi':i<p.length:=by have:=(X3.mp hi).1;rw[kj,Xh]at this;exact this
  rw[xx,Xw hi']at hi;cases hi;have sm:=Uh (k:=k) (m:=i) (Qz p i) nofun
  simp only[M4];ext;simp only[gN];by_cases h2:p.getD i 0=2
  .ext;rw[jz (l:=(((rsC k (jh p i)).filter λS=>decide (S.length<k)).map (· ++ [i])).map spD) (by rfl) (by rw[kj];omega) ?_ (.inr (j51 _))];rotate_left
   .rw[Xa];refine W8 λS hS=>?_;have sl:=(Iv hS).1.length_le;have ol:=Qz p i;have il:=Nv (S:=S);refine Ko ?_ λhb=>?_
    .simp only[spD,q9];ext;rw[il,show cmpI .lt (S.length:Int) (k:Int)=a3 (decide (S.length<k))from by simp[cmpI]];ext
    .simp only[spD,q9];ext;simp only[ck,spD,q9,Ie,Xf];rfl
   have fl:=Xz (λS:List Nat=>decide (S.length<k)) (rsC k (jh p i));ext;exact⟨_,rfl,_,_,by rw[j7i h2,Iu,rsS,Xf]⟩
  .ext;exact⟨_,rfl,.val (.int (i:Int)),.val (.int (p.getD i 0)),by rw[j4v h2]⟩
 .rintro ρ ⟨s3,s4,rfl⟩;ext;rw[Xh,rsL,gw];congr 1;exact j5u (k:=1) (by rw[kj,(Ui (k:=k) (os:=jh p p.length)).1,xq];omega)
theorem j7q{p q:Int×List Int}:(j3g p q=a5->p.1<=q.1)/\(j3g p q=a4->q.1<=p.1):=by
 unfold j3g;split
 .rename_i e;rw[e];exact⟨λ_=>cb _,λ_=>cb _⟩
 .exact⟨λh=>by have:=of_decide_eq_true h;omega,λh=>by have:=of_decide_eq_false h;omega⟩
theorem N7(l:List (Int×List Int)):∀k,k<l.length->aW (Z0 l) k<=k/\∀j,j<=k->(l.getD (aW (Z0 l) k) (0,[])).1<=(l.getD j (0,[])).1
 |0,_=>⟨X5 _,λj hj=>by rw[show j=0 by omega];exact cb _⟩
 |k+1,hk=>by
  obtain⟨h1,h2⟩:=N7 l k nofun
  have f:=j7q (p:=l.getD (k+1) (0,[])) (q:=l.getD (aW (Z0 l) k) (0,[]));rw[aW];cases e:Z0 l (k+1) (aW (Z0 l) k) with
  |true =>
   rw[if_pos rfl];refine⟨X5 _,λj hj=>?_⟩;have g:=f.1 e;by_cases z:j=k+1
   .rw[z];exact cb _
   .exact Int.le_trans g (h2 j nofun)
  |false =>
   rw[if_neg (by simp)];refine⟨by omega,λj hj=>?_⟩;by_cases z:j=k+1
   .rw[z];exact f.2 e
   .exact h2 j nofun
theorem Ln{n k:Nat}{p:List Int}{ks:List (List Int)}{ns:List Int}{R:List Int->Int}(hk:1<=k)(hl:p.length<=6)(ho:jh p p.length≠[])
  (hx:∀S,S∈rsL k (jh p p.length)->∀q,Beh p S q->Qt ks (ns.map D.int) q=a3 (.int (R q))) :
  ∃S∈rsL k (jh p p.length),vo ((seL p S).map R)=Z7 ((rsL k (jh p p.length)).map λS=>vo ((seL p S).map R)) /\
   evP 1000 G T (n+3) "best_round" [.dct ks (ns.map D.int),q9 p,.int k]=.val (.tup [.int (vo ((seL p S).map R)),spD S]):=by
 have ne:=j4j hk ho;obtain⟨S0,rest,er⟩:∃S0 rest,rsL k (jh p p.length)=S0::rest:=by
  cases h:rsL k (jh p p.length) with
  |nil=>exact absurd h ne
  |cons x l=>exact⟨x,l,rfl⟩
 let pr:List Nat->Int×List Int:=λS=>(vo ((seL p S).map R),spI S)
 have sm:=Uh (k:=k) (Qz p p.length) hl;have ll:(rsL k (jh p p.length)).length<=64:=by unfold rsL;rw[Pq];omega
 obtain⟨b1,b2⟩:=N7 ((rsL k (jh p p.length)).map pr) rest.length (by rw[kj,er,xq];omega);have hi:aW (Z0 ((rsL k (jh p p.length)).map pr)) rest.length<(rsL k (jh p p.length)).length:=by rw[er,xq];rw[er]at b1;omega
 obtain⟨S,eS⟩:∃S,(rsL k (jh p p.length))[aW (Z0 ((rsL k (jh p p.length)).map pr)) rest.length]?=a3 S:=⟨_,kh hi⟩
 have hS:=Xl eS;have gS:((rsL k (jh p p.length)).map pr)[aW (Z0 ((rsL k (jh p p.length)).map pr)) rest.length]?=a3 (pr S):=by rw[xx,eS];rfl
 refine⟨S,hS,?_,?_⟩
 .refine(j1t (X8.mpr ⟨S,hS,(rfl:(λS=>vo ((seL p S).map R)) S=vo ((seL p S).map R))⟩) λc hc=>?_).symm;obtain⟨S',hS',rfl⟩:=X8.mp hc;obtain⟨j,hj,ej⟩:=Pj.mp hS';have q:=b2 j (by rw[er,xq]at hj;omega);rw[xf,gS,xf,xx,kh hj,ej]at q;exact q
 .rw[jx (F:=Vi) (by rfl) rfl];simp only[Vi,Qx,enter];have rs:=j0z (n:=n+1) (k:=k) hl;ext;rw[rs];ext;rw[jz (l:=((rsL k (jh p p.length)).map pr).map pairD) (by rfl) (by rw[kj];omega) ?_ (.inl rfl)];rotate_left
  .rw[Xa];refine ju λS hS=>qi (by ext) ?_;have g:=K5 (n:=n) (R:=R) hl (λs hs=>(Q3 rfl hS s hs).1) (hx S hS);ext;simp only[spD];rw[g];ext;rfl
  ext;rw[er,xr,jbc (by rw[<-xr,<-er,kj];exact gS)];ext;rfl
theorem j7u{n k:Nat}{p:List Int}{ks:List (List Int)}{ns:List Int}{R:List Int->Int}(hk:1<=k)(hl:p.length<=6)(ho:jh p p.length≠[])
  (hx:∀S,S∈rsL k (jh p p.length)->∀q,Beh p S q->Qt ks (ns.map D.int) q=a3 (.int (R q))) :
  evP 1000 G T (n+5) (q8 "round_numbers") [.int k,.dct ks (ns.map D.int),q9 p]=.lval (.int (1+Z7 ((rsL k (jh p p.length)).map λS=>vo ((seL p S).map R)))):=by
 obtain⟨S,_,e0,e⟩:=Ln (n:=n+1) hk hl ho hx;rw[jc7 (F:=Z1) (by rfl) rfl];simp only[Z1,Jr,enter];ext;rw[e];ext;rw[at0,e0];ext
theorem Ei:∀{p q r:List Int}{S:List Nat},q∈PK p->(∀s∈S,s<q.length/\q.getD s 0=2)->Beh q S r->r∈PK p
 |[],q,r,S,h,_,hb=>by have e:q=[]:=xu.mp h;rw[e]at hb;rw[List.length_eq_zero_iff.mp hb.1];exact xu.mpr rfl
 |t::p,q,r,S,h,hS,hb=>by
  obtain⟨x,hx,q',hq,e⟩:=U8.mp h;subst e;cases r with
  |nil=>cases hb.1
  |cons y r =>
   have hl:r.length=q'.length:=by simpa using hb.1
   refine U8.mpr ⟨y,?_,r,Ei (S:=(S.filter λs=>decide (0<s)).map (· - 1)) hq (λs hs=>?_) ⟨hl,λj hj=>?_⟩,rfl⟩
   .have b:=hb.2 0 (by simp);by_cases z:0∈S
    .have h2:x=2:=by simpa using(hS 0 z).2
     have hy:y=0\/y=1:=by simpa using b.1 z
     have ht:t=2:=by rcases j21 hx with ⟨z,_⟩|⟨z,w⟩<;>omega
     rw[ht];unfold Jq;rw[if_pos rfl];rcases hy with e|e<;>rw[e]<;>simp
    .have hy:y=x:=by simpa using b.2 z
     rw[hy];exact hx
   .obtain⟨u,hu,rfl⟩:=X8.mp hs;obtain⟨h1,h2⟩:=Xy.mp hu;have h2:=of_decide_eq_true h2;have h3:=hS u h1;obtain⟨v,rfl⟩:∃v,u=v+1:=⟨u-1,by omega⟩
    rw[xq,bT]at h3;exact⟨by show v+1-1<_;omega,by show q'.getD (v+1-1) 0=2;rw[jA];exact h3.2⟩
   .have b:=hb.2 (j+1) (by rw[xq];omega);rw[bT,bT]at b;have e:j+1∈S↔j∈(S.filter λs=>decide (0<s)).map (· - 1):=by
     rw[X8];exact⟨λh=>⟨j+1,Xy.mpr ⟨h,decide_eq_true nofun⟩,rfl⟩,λ⟨u,hu,e⟩=>by
      obtain⟨h1,h2⟩:=Xy.mp hu
      have h2:=of_decide_eq_true h2
      have e:u-1=j:=e
      rw[show j+1=u by omega];exact h1⟩
    rw[e]at b;exact b
theorem j2m{n m k:Nat}{ws:List af}{a p:List Int}(hk:1<=k)(hw:ws.length=m)(hm:1<=m/\m<=6)(ha:a.length=2^m)(h01:∀x∈a,x=0\/x=1)(hp:p.length=m)(hp3:∀t∈p,0<=t/\t<3) :
  evP 1000 G T (n+6) "numbers_within" [q9 p,qD ws a,.fn "round_numbers" [.int k]]=.val (.dct (PK p) (((PK p).map (Rp k a m)).map D.int)):=by
 rw[jx (F:=Qo) (by rfl) rfl];simp only[Qo,Jb,enter];have pk:evP 1000 G T (n+5) "parts_in" [q9 p]=.fresh (qj (PK p)):=by rw[Ek (n:=n+3) nofun,Js];rfl
 have p3:=Eh hm.2;have pl:=j4o (p:=p);rw[hp]at pl;have pok:∀q∈PK p,q.length=m/\∀t∈q,0<=t/\t<3:=λq hq=>by rw[<-hp];exact j34 hp3 hq
 have hd:=j52 (f1:=λρ=>stOf (ev (evP 1000 G T (n+5)) G (.not (.isN (.call "settled_by" (.cons (.var 1) (.cons (.var 4) .nil))))) ρ))
  (f2:=λρ=>stOf (ev (evP 1000 G T (n+5)) G (.ite (.var 5) (.lit (.int 0)) (.callV 2 (.cons (.var 3) (.cons (.var 4) .nil)))) ρ))
  (A:=q9 p) (B:=qD ws a) (C:=.fn "round_numbers" [.int k]) (L:=PK p) (W:=Rp k a m) (op:=opB a m) nofun (j7c hp3)
  (λq s5 hq=>by
   have sp:evP 1000 G T (n+5) "settled_by" [.tup [.tup (ws.map D.str),.tup (a.map D.int)],q9 q]=.val (stD a q m):=Wc (n:=n) hm ha (pok q hq).1 (pok q hq).2
   simp only[q9]at sp
   simp only[qD]
   ext
   rw[sp]
   ext
   simp only[opB])
  (λi hi=>by
   have hq:=Xr hi
   obtain⟨q1,q2⟩:=pok _ hq
   cases z:opB a m (PK p)[i] with
   |false =>
    simp only[Bool.not_false]
    ext
    rw[Lp z]
   |true =>
    simp only[Bool.not_true]
    have L:=j7u (n:=n) (k:=k) (p:=(PK p)[i]) (ks:=(PK p).take i) (ns:=((PK p).take i).map (Rp k a m)) (R:=Rp k a m) hk nofun (by rw[q1];exact Fg h01 q1 q2 z) (λS hS q hb=>by
     rw[q1]at hS
     have ok:=Q3 q1 hS
     rw[Xa]
     exact Oj (f:=λq=>D.int (Rp k a m q)) (j7d hp3 hi (Ei hq ok hb) (Uc (Vx hS).2.2 ok hb)))
    rw[q1,<-Dr q1 q2 z]at L
    simp only[q9]at L
    ext
    rw[j8q (by rw[Jw,Ep,Jw,j7l];rfl)]
    simp only[fv,dz]
    rw[L]
    ext)
  (PK p).length 0 .un .un (Th _)
 have hi:ev (evP 1000 G T (n+5)) G (.seq (.call "parts_in" (.cons (.var 0) .nil))) [.val (q9 p),.val (qD ws a),.val (.fn "round_numbers" [.int k]),.un,.un,.un]=a3 (.i (qj (PK p))):=by ext;rw[pk];ext
 have ru:=j4g (fu:=1000) (Γ:=evP 1000 G T (n+5)) (G:=G) (ρ:=[.val (q9 p),.val (qD ws a),.val (.fn "round_numbers" [.int k]),.un,.un,.un]) (x:=3) (t:=4) (y:=5) ⟨by simp,by simp,by simp,by decide,by decide,by decide⟩ hi hd;exact congrArg fin ru
theorem K1{n m k:Nat}{ws:List af}{a p:List Int}(hk:1<=k)(hw:ws.length=m)(hm:1<=m/\m<=6)(ha:a.length=2^m)(h01:∀x∈a,x=0\/x=1)(hp:p.length=m)(hp3:∀t∈p,0<=t/\t<3) :
  evP 1000 G T (n+7) "round_numbers" [q9 p,qD ws a,.int k]=.val (.dct (PK p) (((PK p).map (Rp k a m)).map D.int)):=by
 rw[jx (F:=Z3) (by rfl) rfl];simp only[Z3,Jt,enter];ext;rw[j2m (n:=n) hk hw hm ha h01 hp hp3,jaq (Ep ..)];ext
theorem gFw:G "FEWEST_AT_ONCE" = a3 (.int 1):=by rfl
theorem gMo:G "MOST_AT_ONCE" = a3 (.int 6):=by rfl
theorem Ea {n k:Nat} (hk:1<=k/\k<=6):evP 1000 G T (n+1) "refuse_wrong_round" [.int k]=.val .non:=by rw[jx (F:=zg) (by rfl) rfl];simp only[zg,zj,enter];ext;simp only[gFw];ext;simp only[gMo];ext
noncomputable def bhD(p:List Int)(S:List Nat):D:=.tup [.lst ((spI S).map D.int),.lst (((seL p S).map jd).map D.int)]
theorem Zv{f:D->Option (Option D)}{L:List (List Int)}{u w:List Int->Int}(h:∀q∈L,f (.int (u q))=a3 (a3 (.int (w q)))):Jy f ((L.map u).map D.int)=a3 ((L.map w).map D.int):=by rw[Xa,Xa];exact ju h
theorem ja4{l l':List D}:Zj (a3 (.a [.o l,.o l']))=a3 (.v (.e (.tup [.lst l,.lst l']))):=(rfl)
theorem ja5{l:List D}{d:D}:Zj (a3 (.a [.o l,.e d]))=a3 (.v (.e (.tup [.lst l,d]))):=(rfl)
theorem jck{i j k:Nat}{f:En->So}{a b c:D}{ρ:En}:M5 [i,j,k,k] f (.tup [a,b,c]) ρ=f (((ρ.set i (.val a)).set j (.val b)).set k (.val c)):=(rfl)
theorem j1b{n m i k:Nat}(hm:1<=m/\m<=6)(hi:i<3^m) :
  evP 1000 G T (n+3) "_law_behind" [.int m,.int i,.int k]=.fresh ((rsL k (jh (j4 3 m (i:Int)) m)).map (bhD (j4 3 m (i:Int)))):=by
 have hl:(j4 3 m (i:Int)).length=m:=jw 3 m _;have hv:jd (j4 3 m (i:Int))=(i:Int):=by rw[Vu,dr hi]
 have st:=Ov (n:=n) (i:=i) hm.2;rw[jx (F:=Wu) (by rfl) rfl];simp only[Wu,Yy,enter];ext;erw[ja4,st];generalize j4 3 m (i:Int)=p at *;have on:(jh p m).Nodup:=List.filter_sublist.nodup fm;have ol:=Qz p m;refine Jm (λj ρ=>∃s4 s5 s6 s7 s8 s9 s10 s11,ρ=[.val (.int m),.val (.int i),.val (.int k),.own ((rsC k ((jh p m).take j)).map (bhD p)),s4,s5,s6,s7,s8,s9,s10,s11,.un]) ⟨.un,.un,.un,.un,.un,.un,.un,.un,?_⟩ ?_ ?_
 .rw[<-hv];rfl
 .rintro j d ρ hj ⟨s4,s5,s6,s7,s8,s9,s10,s11,rfl⟩;have hj':j<(jh p m).length:=by have:=(X3.mp hj).1;rw[kj]at this;exact this
  rw[xx,kh hj']at hj;cases hj;obtain⟨sm,s2⟩:=O3 (Xr hj');have tk:(jh p m).take (j+1)=(jh p m).take j++[(jh p m)[j]]:=by rw[Tj,kh hj'];rfl
  generalize es:(jh p m)[j]=s at *;have ns:s∉(jh p m).take j:=λz=>by obtain⟨x,hx,ex⟩:=Pj.mp z;rw[Xi]at hx;rw[fe,<-es]at ex;have:=(cy on).mp ex;omega
  have hos:∀t∈(jh p m).take j,t<m:=λt ht=>(O3 (bL ht)).1;have tl:((jh p m).take j).length<=m:=by rw[Xi];omega
  generalize (jh p m).take j=os at *;have rl:=Uh (k:=k) tl hm.2;have p3:=Qs (n:=n+1) (k:=m-1-s) nofun
  simp only[jck,stp];ext;rw[show((m:Int)-1-(s:Int))=((m-1-s:Nat):Int)by omega,p3];ext;refine Wd (λt ρ=>∃s9 s10 s11,ρ=[.val (.int m),.val (.int i),.val (.int k),.val (.lst ((rsC k os).map (bhD p))),.val (.int s),.val (.int (i-2*((3^(m-1-s):Nat):Int))),.val (.int (i-((3^(m-1-s):Nat):Int))),.val (.int ((3^(m-1-s):Nat):Int)),
   .own (((((rsC k os).take t).filter λS=>decide (S.length<k)).map (· ++ [s])).map (bhD p)),s9,s10,s11,.un]) ⟨_,_,_,rfl⟩ ?_ ?_
  .rintro t d ρ ht ⟨s9,s10,s11,rfl⟩;have ht':t<(rsC k os).length:=by have:=(X3.mp ht).1;rw[kj]at this;exact this
   rw[xx,kh ht']at ht;cases ht;have hS:=Xr ht';have tk':(rsC k os).take (t+1)=(rsC k os).take t++[(rsC k os)[t]]:=by rw[Tj,kh ht'];rfl
   rw[tk',sr,Xf,Xf];have fl:=Xz (λS:List Nat=>decide (S.length<k)) ((rsC k os).take t);rw[Xi]at fl;generalize (rsC k os)[t]=S at *;obtain⟨su,_⟩:=Iv hS;have sl:=su.length_le;have il:=Nv (S:=S);have ql:(seL p S).length<=64:=by have e:=We (S:=S) (qs:=[p]);rw[T8,dU]at e;have h2:=t8 (show 0<2 by decide) (show S.length<=6 by omega);rw[seL,e];exact h2
   have hb:∀q∈seL p S,q.length=m/\q.getD s 0=2:=λq hq=>by have b:=(Zn λt ht=>by rw[hl];exact(hos t (su.subset ht))).mp hq;exact⟨by rw[b.1,hl],by rw[(b.2 s nofun).2 λz=>ns (su.subset z),s2]⟩
   simp only[M4,bhD];ext;by_cases z:S.length<k
   .have pc:((3^(m-1-s):Nat):Int)=(3:Int)^(m-1-s):=by simp
    have v3:∀(c:Int),∀q∈seL p S,jd (q.set s c)=jd q+(c-2)*((3^(m-1-s):Nat):Int):=λc q hq=>by obtain⟨h1,h2⟩:=hb q hq;rw[Rh nofun,h2,h1,pc]
    clear pc;generalize ((3^(m-1-s):Nat):Int)=w at *;have e:(seL p (S++[s])).map jd=(seL p S).map (λq=>jd q-2*w)++(seL p S).map (λq=>jd q-w):=by
     rw[Ir,seF,Xf,Xa,Xa];have g0:(seL p S).map (jd ∘ λx=>x.set s 0)=(seL p S).map (λq=>jd q-2*w):=Ph λq hq=>(v3 0 q hq).trans nofun
     have g1:(seL p S).map (jd ∘ λx=>x.set s 1)=(seL p S).map (λq=>jd q-w):=Ph λq hq=>(v3 1 q hq).trans nofun
     rw[g0,g1]
    ext;rw[jz (l:=((seL p S).map (λq=>jd q-2*w)).map D.int) (by rfl) (by rw[kj,kj];omega) ?_ (.inl rfl)];rotate_left
    .refine Zv λq hq=>qi (by ext) ?_;ext
    rw[jz (l:=((seL p S).map (λq=>jd q-w)).map D.int) (by rfl) (by rw[kj,kj];omega) ?_ (.inl rfl)];rotate_left
    .refine Zv λq hq=>qi (by ext) ?_;ext
    ext;rw[ja5];ext;refine⟨_,rfl,.val (.lst ((spI S).map D.int)),.val (.lst (((seL p S).map jd).map D.int)),.val (.lst (((seL p (S++[s])).map jd).map D.int)),?_⟩;rw[c8 (by simpa using z)];simp only[jZ,Pr,xr,bhD,e,Ie,Xf]
   .ext;exact⟨_,rfl,.val (.lst ((spI S).map D.int)),.val (.lst (((seL p S).map jd).map D.int)),s11,by rw[c9 (by simpa using z)];simp only[jZ,Pr,Xv]⟩
  .rintro ρ ⟨s9,s10,s11,rfl⟩;rw[kj,Tu];have fl:=Xz (λS:List Nat=>decide (S.length<k)) (rsC k os);ext;exact⟨_,rfl,_,_,_,_,_,_,_,_,by rw[tk,Iu,rsS,Xf]⟩
 .rintro ρ ⟨s4,s5,s6,s7,s8,s9,s10,s11,rfl⟩;ext;rw[Tu,rsL,gw];refine congrArg Rc.fresh ?_;exact j5u (k:=1) (by rw[kj,(Ui (k:=k) (os:=jh p m)).1,xq];omega)
noncomputable def Jz(k:Nat)(a:List Int)(m i:Nat):List Int:=(ar i).map λ(j:Nat)=>Rp k a m (j4 3 m (j:Int))
theorem j6s{k m i:Nat}{a:List Int}:(Jz k a m i).length=i:=by unfold Jz;rw[kj,Xh]
theorem Du{k m i:Nat}{a:List Int}:Jz k a m (i+1)=Jz k a m i++[Rp k a m (j4 3 m (i:Int))]:=by unfold Jz;rw[cD,Xf];rfl
theorem j85{k m i:Nat}{a q:List Int}(hq:q.length=m)(h3:∀t∈q,0<=t/\t<3)(hv:jd q<i):atI ((Jz k a m i).map D.int) (jd q)=a3 (.int (Rp k a m q)):=by
 have hb:=(Zi h3).1;have e:jd q=((jd q).toNat:Int):=by omega
 rw[e];refine Jl ?_;rw[xx,Jz,xx,Xw nofun];show a3 (D.int (Rp k a m (j4 3 m ((jd q).toNat:Int))))=_;rw[<-e,<-hq,Uv h3]
theorem Ft{n m k:Nat}{ws:List af}{a:List Int}(hk:1<=k)(hw:ws.length=m)(hm:1<=m/\m<=6)(ha:a.length=2^m)(h01:∀x∈a,x=0\/x=1) :
  evP 1000 G T (n+4) "_law_rounds" [qD ws a,.int k]=.fresh ((Jz k a m (3^m)).map D.int):=by
 rw[jx (F:=Ws) (by rfl) rfl];simp only[Ws,Yw,enter];erw[show qD ws a=.tup [.tup (ws.map D.str),.tup (a.map D.int)]from rfl,at0];rw[hw];have on:=Ci (n:=n) hw hm ha h01;simp only[qD]at on;ext;rw[on];ext;rw[jc8];have p3:=Eh hm.2;refine Jm (λi ρ=>∃s4 s5 s6 s7,ρ=[.val (.tup [.tup (ws.map D.str),.tup (a.map D.int)]),.val (.int k),.val (.int m),.own ((Jz k a m i).map D.int),s4,s5,s6,s7,.un,.un,.un]) ⟨.un,.un,.un,.un,rfl⟩ ?_ ?_
 .rintro i d ρ hi ⟨s4,s5,s6,s7,rfl⟩;have hi':i<3^m:=by have:=(X3.mp hi).1;rw[kj,Xh]at this;exact this
  rw[xx,Xw hi']at hi;cases hi;have hl:(j4 3 m (i:Int)).length=m:=jw 3 m _;have hd:∀t∈j4 3 m (i:Int),0<=t/\t<3:=λt ht=>Qj (by decide) ht;have hv:jd (j4 3 m (i:Int))=(i:Int):=by rw[Vu,dr hi']
  have tl:=j6s (k:=k) (m:=m) (i:=i) (a:=a);have io:=Ml (n:=n+2) (m:=m) (i:=i) h01;have bs:=j1b (n:=n) (k:=k) hm hi';simp only[M4];ext;rw[io];cases z:opB a m (j4 3 m (i:Int)) with
  |false =>ext;refine⟨_,rfl,.val (.int (i:Int)),.val (onD a m i),.val (.int 0),s7,?_⟩;rw[Du,Lp z,Xf];rfl
  |true =>
   have ne:=j4j hk (Fg h01 hl hd z);have ro:=Dr (k:=k) hl hd z;have rl:=Uh (k:=k) (Qz (j4 3 m (i:Int)) m) hm.2;have ll:(rsL k (jh (j4 3 m (i:Int)) m)).length<=64:=by unfold rsL;rw[Pq];omega
   ext;rw[bs];ext;rw[jz (l:=((rsL k (jh (j4 3 m (i:Int)) m)).map λS=>vo ((seL (j4 3 m (i:Int)) S).map (Rp k a m))).map D.int) (by rfl) (by rw[kj];omega) ?_ (.inr (vy _))];rotate_left
   .rw[Xa];refine ju λS hS=>?_;have ok:=Q3 hl hS;obtain⟨so,sk,sn⟩:=Vx hS;have ol:=Qz (j4 3 m (i:Int)) m;have sl:=so.length_le;have ql:(seL (j4 3 m (i:Int)) S).length<=64:=by have e:=We (S:=S) (qs:=[j4 3 m (i:Int)]);rw[T8,dU]at e;have h2:=t8 (show 0<2 by decide) (show S.length<=6 by omega);rw[seL,e];exact h2
    rw[bhD];refine Ni (by ext) ?_;ext;rw[jz (l:=((seL (j4 3 m (i:Int)) S).map (Rp k a m)).map D.int) (by rfl) (by rw[kj,kj];omega) (Zv λq hq=>qi (by ext) ?_) (.inl rfl)]
    .ext;rw[j3d λz=>(show seL (j4 3 m (i:Int)) S≠[]from Ba (by simp)) (List.map_eq_nil_iff.mp z)];rfl
    .have b:=(Zn λs hs=>(ok s hs).1).mp hq;have g:=j85 (k:=k) (a:=a) (i:=i) (by rw[b.1,hl]) (M6 b hd) (by rw[<-hv];exact Uc sn ok b);ext;rw[g];rfl
   ext;rw[ji0 (by simpa using ne)];ext;refine⟨_,rfl,.val (.int (i:Int)),.val (onD a m i),.val (.int (Rp k a m (j4 3 m (i:Int)))),.own ((rsL k (jh (j4 3 m (i:Int)) m)).map (bhD (j4 3 m (i:Int)))),?_⟩;rw[Du,Xf,ro];rfl
 .rintro ρ ⟨s4,s5,s6,s7,rfl⟩;ext;rw[Xh]
theorem Wx(a:List af):D.depL (a.map D.str)<=90:=by
 induction a with
 |nil=>simp[D.depL]
 |cons x a ih=>rw[xr,D.depL];simp[D.dep];exact ih
theorem j5g:∀{ws:List af}{p:af},p∈ws->ixD (.str p) (ws.map D.str)=a3 (ws.idxOf p)
 |[],p,h=>by cases h
 |w::ws,p,h=>by
  unfold ixD;rw[xr];dsimp only;rw[j0b];by_cases z:w=p
  .subst z;simp
  .have z':(w==p)=a4:=by simpa using z
   rw[z',if_neg (by simp),j5g (by simpa [bJ z]using h),List.idxOf_cons,z'];rfl
theorem jfb{ws:List af}{s:Nat}(nd:ws.Nodup)(h:s<ws.length):ws.idxOf ws[s]=s:=(cy nd).mp (List.getElem_idxOf (List.idxOf_lt_length_iff.mpr (Xr h)))
theorem j8k{q:List Int}{m s:Nat}(hq:q.length=m)(h3:∀t∈q,0<=t/\t<3)(hs:s<m):jd q/3^(m-1-s)%3=q.getD s 0:=by have e:=Uv h3;rw[hq]at e;have g:=Qa (b:=3) (m:=m) (z:=jd q) hs;rw[e]at g;rw[xf,g];rfl
theorem jjf{ws:List af}{p:af}(hp:p∈ws):Nr (a3 (.v (.o (ws.map D.str)))) (a3 (.v (.e (.str p))))=a3 (.v (.e (.int ((ws.idxOf p:Nat):Int)))):=by
 have hdl:D.depL (ws.map D.str)<=90/\(D.str p).dep<=90:=⟨Wx ws,by simp[D.dep]⟩
 simp only[Nr,Rk.d,if_pos hdl,j5g hp];rfl
theorem gtw {ws:List af} {k:Nat} (h:k<ws.length):atI (ws.map D.str) (k:Int)=a3 (.str (ws.getD k "")):=Jl (by rw[xx,xf,kh h];rfl)
noncomputable def plD(ws:List af)(s:Nat):D:=.str (ws.getD s "")
theorem j92{n m k:Nat}{ws:List af}{a p:List Int}(hk:1<=k/\k<=6)(hw:ws.length=m)(hm:1<=m/\m<=6)(ha:a.length=2^m)(h01:∀x∈a,x=0\/x=1)(hp:p.length=m)(hp3:∀t∈p,0<=t/\t<3)(ho:opB a m p=a5) :
  ∃S∈rsL k (jh p m),Rp k a m p=1+vo ((seL p S).map (Rp k a m))/\evP 1000 G T (n+8) "round_to_ask" [qD ws a,q9 p,.int k]=.fresh (S.map (plD ws)):=by
 have nm:=K1 (n:=n) hk.1 hw hm ha h01 hp hp3;obtain⟨S,hS,e0,bs⟩:=Ln (n:=n+4) (k:=k) (p:=p) (ks:=PK p) (ns:=(PK p).map (Rp k a m)) (R:=Rp k a m) hk.1 nofun (by rw[hp];exact Fg h01 hp hp3 ho) (λS hS q hb=>by
  rw[hp]at hS
  rw[Xa]
  exact Oj (f:=λq=>D.int (Rp k a m q)) (Ei j1l (Q3 hp hS) hb))
 rw[hp]at hS e0;have ok:=Q3 hp hS;obtain⟨so,sk,sn⟩:=Vx hS;refine⟨S,hS,by rw[e0,Dr hp hp3 ho],?_⟩;have sp:evP 1000 G T (n+7) "settled_by" [qD ws a,q9 p]=.val (stD a p m):=Wc (n:=n+2) hm ha hp hp3;rw[jx (F:=zr) (by rfl) rfl];simp only[zr,vh,enter];ext;erw[Ea (n:=n+6) hk,sp,show(stD a p m).isNon=a5 from ho,nm,bs];rw[at1];simp only[spD,q9];ext;rw[jz (l:=S.map (plD ws)) (by rfl) (by rw[kj,Nv];omega) ?_ (.inl rfl)]
 .ext
 .rw[spI,Xa];refine ju λs hs=>qi (by ext) ?_;have g:=gtw (ws:=ws) (k:=s) (by have:=(ok s hs).1;omega);simp only[qD];ext;rw[at0];simp only[ck];ext;rw[g];rfl
theorem j3v{n m k:Nat}{ws:List af}{a p:List Int}(hk:1<=k/\k<=6)(hm:1<=m/\m<=6)(ha:a.length=2^m)(hp:p.length=m)(hp3:∀t∈p,0<=t/\t<3)(ho:opB a m p=a4) :
  evP 1000 G T (n+8) "round_to_ask" [qD ws a,q9 p,.int k]=.fresh []:=by
 have sp:evP 1000 G T (n+7) "settled_by" [qD ws a,q9 p]=.val (stD a p m):=Wc (n:=n+2) hm ha hp hp3;rw[jx (F:=zr) (by rfl) rfl];simp only[zr,vh,enter];ext;erw[Ea (n:=n+6) hk,sp,show(stD a p m).isNon=a4 from ho]
section
variable{fu:Nat}{Γ:af->List D->Rc}{G:af->Option D}{ρ:En}{Q:En->Prop}
theorem j22{c:Ex}{r:Sx}(h:truth (ev Γ G c ρ)=a3 a4)(k:∃ρ',zm Γ G r ρ=a3 ρ'/\Q ρ'):∃ρ',zm Γ G (.seq (.ife c .fail .nop) r) ρ=a3 ρ'/\Q ρ':=by rw[j78 h j77];exact k
theorem Di{i:Nat}{e:Ex}{b:Sx}{d:D}(h:stOf (ev Γ G e ρ)=a3 d)(k:∃ρ',zm Γ G b (ρ.set i (.val d))=a3 ρ'/\Q ρ'):∃ρ',zm Γ G (.seq (.set i e) b) ρ=a3 ρ'/\Q ρ':=by rw[j76 h];exact k
theorem jbw(h:Q ρ):∃ρ',zm Γ G .nop ρ=a3 ρ'/\Q ρ':=⟨ρ,rfl,h⟩
theorem jcl{i j:Nat}{m:En->Option En}{a b:D}:bindM [i,j] m (.tup [a,b]) ρ=m ((ρ.set i (.val a)).set j (.val b)):=(rfl)
theorem j7r{k p f:Nat}{is:List Nat}{l:List D}{m:D->En->Option En}{r:En->So}{x:Rc}(W:Nat->En->Prop)(hc:jn l=a5/\f∉is/\f≠k/\f≠p)(h0:W 0 ρ)
  (hs:∀i d ρ,(zb l)[i]?=a3 d->W i ρ->∃ρ',m d ρ=a3 ρ'/\W (i+1) ρ') (hk:∀ρ',W l.length ρ'->fin (r (ρ'.set f (.own [])))=x):fin (Um k p f is (a3 (.own l)) ρ m r)=x:=by
 obtain⟨ρ',e,w⟩:=j5c (m:=m) (ds:=zb l) W h0 hs;rw[jbg hc e];exact hk ρ' (by rw[show(zb l).length=l.length by unfold zb;rw[kj,bY]]at w;exact w)
end
theorem j0q{ws:List af}{w:af}:((ws.map D.str).any λe=>deq e (.str w))=ws.contains w:=by
 induction ws with
 |nil=>rfl
 |cons x ws ih =>rw[xr,S7,ih,j0b,iV];congr 1;exact Bool.eq_iff_iff.mpr (by rw[beq_iff_eq,beq_iff_eq];exact eq_comm)
theorem j3a{ws:List af}{w:af}:Qd .notin (.str w) (.tup (ws.map D.str))=a3 (!ws.contains w):=by rw[<-j0q];simp[Qd,D.sqv,D.dep,Wx]
theorem jbq{ws:List af}{w:af}:Qd .isin (.str w) (.lst (ws.map D.str))=a3 (ws.contains w):=by rw[<-j0q];simp[Qd,D.sqv,D.dep,Wx]
theorem Mh:∀{ws:List af},jn (ws.map D.str)=a5
 |[]=>rfl
 |_::ws=>by rw[xr,jn,Mh (ws:=ws)];rfl
theorem j30{n m k i:Nat}{ws:List af}{a:List Int}(nd:ws.Nodup)(hk:1<=k/\k<=6)(hw:ws.length=m)(hm:1<=m/\m<=6)(ha:a.length=2^m)(h01:∀x∈a,x=0\/x=1)(hi:i<3^m) :
  evP 1000 G T (n+9) "_law_right" [qD ws a,.lst ((Jz k a m (3^m)).map D.int),.lst ((ar (3^m)).map (onD a m)),.int i,.int k]=.val (.bl a5):=by
 have hl:(j4 3 m (i:Int)).length=m:=jw 3 m _;have hd:∀t∈j4 3 m (i:Int),0<=t/\t<3:=λt ht=>Qj (by decide) ht;have hv:jd (j4 3 m (i:Int))=(i:Int):=by rw[Vu,dr hi]
 have dg:=V6 (n:=n+7) (m:=m) (z:=(i:Int)) hm.2;have io:=Ml (n:=n+7) (m:=m) (i:=i) h01;have g:=j06 (a:=a) (m:=m) hi;have gi:=j85 (k:=k) (a:=a) (i:=3^m) hl hd (by rw[hv];omega);rw[hv]at gi;rw[jx (F:=Oe) (by rfl) rfl];simp only[Oe,W2,enter,qD];ext;rw[at0];ext;rw[hw,dg];generalize j4 3 m (i:Int)=p at *;ext;cases z:opB a m p with
 |false =>have as:=j3v (n:=n) (ws:=ws) hk hm ha hl hd z;simp only[qD,q9]at as;erw[as,g];rw[io,z];ext
 |true =>
  obtain⟨S,hS,eR,as⟩:=j92 (n:=n) hk hw hm ha h01 hl hd z;simp only[qD,q9]at as;have ok:=Q3 hl hS;obtain⟨so,sk,sn⟩:=Vx hS;have sd:S.Nodup:=so.nodup (List.filter_sublist.nodup fm);have s1:1<=S.length:=by cases S with
   |nil=>exact absurd rfl sn
   |cons _ _=>simp
  have s6:S.length<=6:=by have:=so.length_le;have:=Qz p m;omega
  erw[as,g];rw[io,z];ext;rw[j73];have nl:jn (S.map (plD ws))=a5:=by
   have e:S.map (plD ws)=(S.map λs=>ws.getD s "").map D.str:=by rw[Xa];rfl
   rw[e];exact Mh
  simp only[dk,Tp];refine j7r (λj ρ=>∃s8 s9 s10 s11,ρ=[.val (.tup [.tup (ws.map D.str),.tup (a.map D.int)]),.val (.lst ((Jz k a m (3^m)).map D.int)),.val (.lst ((ar (3^m)).map (onD a m))),.val (.int i),.val (.int k),.val (.int m),.own (S.map (plD ws)),
   .val (.lst (((seL p (S.take j)).map jd).map D.int)),s8,s9,s10,s11,.un,.un]) ⟨nl,by decide,by decide,by decide⟩ ⟨.un,.un,.un,.un,by rw[<-hv];rfl⟩ ?_ ?_
  .rintro j d ρ hj ⟨s8,s9,s10,s11,rfl⟩;rw[Va]at hj;have hj':j<S.length:=by
    cases q:(S.map (plD ws))[j]? with
    |none=>rw[q]at hj;cases hj
    |some _=>have:=(X3.mp q).1;rw[kj]at this;exact this
   rw[xx,kh hj']at hj;cases hj;have tk:S.take (j+1)=S.take j++[S[j]]:=by rw[Tj,kh hj'];rfl
   obtain⟨s1',s2⟩:=ok _ (Xr hj');have ns:S[j]∉S.take j:=λz=>by obtain⟨x,hx,ex⟩:=Pj.mp z;rw[Xi]at hx;rw[fe]at ex;have:=(cy sd).mp ex;omega
   have tl:∀s∈S.take j,s<p.length:=λs hs=>(ok s (bL hs)).1;have ct:cutD (S.map (plD ws)) a6 (a3 (j:Int))=((S.take j).map λs=>ws.getD s "").map D.str:=by rw[j5v (by rw[kj];omega),<-gv,Xa];rfl
   have ql:(seL p (S.take j)).length<=64:=by have e:=We (S:=S.take j) (qs:=[p]);rw[T8,dU]at e;have h2:=t8 (show 0<2 by decide) (show(S.take j).length<=6 by rw[Xi];omega);rw[seL,e];exact h2
   have hb:∀q∈seL p (S.take j),q.length=m/\q.getD S[j] 0=2:=λq hq=>by have b:=(Zn tl).mp hq;exact⟨by rw[b.1,hl],by rw[(b.2 S[j] s1').2 ns,s2]⟩
   have gsl:∀s,s∈S->∃h:s<ws.length,ws.getD s "" = ws[s]:=λs hs=>by have:=(ok s hs).1;exact⟨by omega,by rw[xf,kh nofun];rfl⟩
   have ni:((S.take j).map λs=>ws.getD s "").contains (ws.getD S[j] "")=a4:=by
    cases q:((S.take j).map λs=>ws.getD s "").contains (ws.getD S[j] "") with
    |false=>rfl
    |true =>obtain⟨s,hs,e⟩:=X8.mp (S5.mp q);obtain⟨h1,e1⟩:=gsl s (bL hs);obtain⟨h2,e2⟩:=gsl S[j] (Xr hj');have e:ws.getD s "" = ws.getD S[j] "":=e;rw[e1,e2]at e;have:=(cy nd).mp e;exact absurd (this▸hs) ns
   obtain⟨h2,gs⟩:=gsl S[j] (Xr hj');have me:ws.getD S[j] "" ∈ ws:=by rw[gs];exact Xr _
   have hc:ws.contains (ws.getD S[j] "")=a5:=S5.mpr me;have ix:ws.idxOf (ws.getD S[j] "")=S[j]:=by rw[gs];exact jfb nd h2
   have tx:=jjf (ws:=ws) (p:=ws.getD S[j] "") me;rw[ix]at tx;rw[tk];generalize S[j]=s at *;have th2:=Qs (n:=n+7) (k:=m-1-s) nofun
   have dgt:=j8k hl hd (by omega:s<m);have pc:((3^(m-1-s):Nat):Int)=(3:Int)^(m-1-s):=by simp
   have p3':=Eh (m:=m-1-s) nofun
   have v3:∀(c:Int),∀q∈seL p (S.take j),jd (q.set s c)=jd q+(c-2)*((3^(m-1-s):Nat):Int):=λc q hq=>by obtain⟨h1,h2⟩:=hb q hq;rw[Rh nofun,h2,h1,pc]
   rw[s2,<-pc,hv]at dgt;clear pc;have wp:0<((3^(m-1-s):Nat):Int):=by omega
   have wb:((3^(m-1-s):Nat):Int)<18446744073709551616:=by omega
   generalize ((3^(m-1-s):Nat):Int)=w at *;have e:(seL p (S.take j++[s])).map jd=(seL p (S.take j)).map (λq=>jd q-2*w)++(seL p (S.take j)).map (λq=>jd q-w):=by
    rw[Ir,seF,Xf,Xa,Xa];have g0:(seL p (S.take j)).map (jd ∘ λx=>x.set s 0)=(seL p (S.take j)).map (λq=>jd q-2*w):=Ph λq hq=>(v3 0 q hq).trans nofun
    have g1:(seL p (S.take j)).map (jd ∘ λx=>x.set s 1)=(seL p (S.take j)).map (λq=>jd q-w):=Ph λq hq=>(v3 1 q hq).trans nofun
    rw[g0,g1]
   simp only[dq,plD,jcl];refine j22 ?_ (Di (d:=.int (s:Int)) ?_ (Di (d:=.int w) ?_ (j22 ?_ (Di (d:=.lst (((seL p (S.take j++[s])).map jd).map D.int)) ?_ (jbw ?_)))))
   .ext;rw[at0];ext;rw[j3a,hc];ext;rw[ct];ext;rw[jbq,ni];rfl
   .ext;rw[at0];ext;rw[tx];rfl
   .ext;rw[show((m:Int)-1-(s:Int))=((m-1-s:Nat):Int)by omega,th2];rfl
   .ext
   .ext;rw[jz (l:=((seL p (S.take j)).map (λq=>jd q-2*w)).map D.int) (by rfl) (by rw[kj,kj];omega) ?_ (.inl rfl)];rotate_left
    .refine Zv λq hq=>qi (by ext) ?_;ext
    rw[jz (l:=((seL p (S.take j)).map (λq=>jd q-w)).map D.int) (by rfl) (by rw[kj,kj];omega) ?_ (.inl rfl)];rotate_left
    .refine Zv λq hq=>qi (by ext) ?_;ext
    ext;rw[e,Xf];rfl
   .exact⟨_,_,_,_,rfl⟩
  .rintro ρ' ⟨s8,s9,s10,s11,rfl⟩;rw[kj,Tu];have ql:(seL p S).length<=64:=by have e:=We (S:=S) (qs:=[p]);rw[T8,dU]at e;have h2:=t8 (show 0<2 by decide) s6;rw[seL,e];exact h2
   simp only[t7,Pn];ext;rw[jz (l:=((seL p S).map (Rp k a m)).map D.int) (by rfl) (by rw[kj,kj];omega) (Zv λq hq=>qi (by ext) ?_) (.inl rfl)]
   .ext;erw[j3d λz=>(show seL p S≠[]from Ba (by simp)) (List.map_eq_nil_iff.mp z),gi]
   .have b:=(Zn λs hs=>(ok s hs).1).mp hq;have vl:=Uc sn ok b;have g:=j85 (k:=k) (a:=a) (i:=3^m) (by rw[b.1,hl]) (M6 b hd) (by rw[hv]at vl;omega);ext;rw[g];rfl
theorem gW:G (bang "WrongSize")=a3 (.lst [.str "WrongSize"]):=by rfl
theorem isW:(G (bang "WrongSize")).isSome=a5:=by rw[gW];rfl
theorem Dw {n:Nat} {z:Int} (h:z<1\/6<z) (hb:-10000000000<z/\z<10000000000):evP 1000 G T (n+1) "refuse_wrong_round" [.int z]=.err "WrongSize":=by
 rw[jx (F:=zg) (by rfl) rfl];simp only[zg,zj,enter];have rai:∀ρ:En,Ef "WrongSize" (Ob (a3 (.a [.e (.int 1),.e (.str " to "),.e (.int 6),.e (.str " places are asked at once, not "),.e (.int z)]))) (G (bang "WrongSize")) ρ=.err "WrongSize" ρ:=λρ=>by
  rw[gW,jfe (ys:=[aU (toString (1:Int))," to ",aU (toString (6:Int))," places are asked at once, not ",aU (toString z)]) (by simp only[xq,Te];omega) (by
   have e:vd (.int z)=a3 (aU (toString z)):=by unfold vd;exact if_pos nofun
   have e1:vd (.int 1)=a3 (aU (toString (1:Int))):=by unfold vd;exact if_pos (by decide)
   have e6:vd (.int 6)=a3 (aU (toString (6:Int))):=by unfold vd;exact if_pos (by decide)
   have s2:vd (.str " to ")=a3 (aU " to "):=by unfold vd;exact if_pos (by decide)
   have s3:vd (.str " places are asked at once, not ")=a3 (aU " places are asked at once, not "):=by unfold vd;exact if_pos (by decide)
   simp only[Jc,Rk.d,e,e1,e6,s2,s3])]
  rfl
 ext;rw[gFw];rcases h with h|h
 .ext;rw[gFw,gMo];ext;rw[rai];ext
 .have h1:¬z<1:=by omega
  ext;rw[gMo];ext;rw[gFw,gMo];ext;rw[rai];ext
theorem jdi {n:Nat} {q:D} {z:Int} (h:z<1\/6<z) (hb:-10000000000<z/\z<10000000000):evP 1000 G T (n+2) "round_table" [q,.int z]=.err "WrongSize":=by have e:=Dw (n:=n) h hb;rw[jx (F:=Zr) (by rfl) rfl];simp only[Zr,Qm,enter];ext;rw[e];ext;simp only[Rx,Rw,Bt,Bs,Yt];ext;simp only[Yt,Kg,Bu,xr,Pr,Rk.d];rw[e];simp only[Kf isW];ext
theorem jdn {n:Nat} {q p:D} {z:Int} (h:z<1\/6<z) (hb:-10000000000<z/\z<10000000000):evP 1000 G T (n+2) "round_to_ask" [q,p,.int z]=.err "WrongSize":=by have e:=Dw (n:=n) h hb;rw[jx (F:=zr) (by rfl) rfl];simp only[zr,vh,enter];ext;rw[e];ext;simp only[Rx,Rw,Bt,Bs,Yt];ext;simp only[Yt,Kg,Bu,xr,Pr,Rk.d];rw[e];simp only[Kf isW];ext
theorem Eb {n k:Nat} {q p:D} {z:Int} (hk:k<2) (h:z<1\/6<z) (hb:-10000000000<z/\z<10000000000):evP 1000 G T (n+3) "_law_refused" [q,p,.int z,.int (k:Int)]=.fresh [.str "WrongSize"]:=by
 rw[jx (F:=Ur) (by rfl) rfl];simp only[Ur,Vp,enter];have:k=0\/k=1:=by omega
 rcases this with e|e<;>subst e
 .have h:=jdi (n:=n) (q:=q) h hb;ext;rw[h];ext;simp only[Rx,Rw,Bt,Bs,Yt];ext;simp only[Yt,Kg,Bu,xr,Pr,Rk.d];rw[h];simp only[Kf isW];ext;rw[Ks gW];ext
 .have h:=jdn (n:=n) (q:=q) (p:=p) h hb;ext;rw[h];ext;simp only[Rx,Rw,Bt,Bs,Yt];ext;simp only[Yt,Kg,Bu,xr,Pr,Rk.d];rw[h];simp only[Kf isW];ext;rw[Ks gW];ext
theorem j2h(c:Int):∃k:Nat,(1<=k/\k<=6)/\1+c%6=(k:Int) :=
 ⟨(1+c%6).toNat,by have h1:=Py c (show(6:Int)≠0 by decide);have h2:=T9 c (show(0:Int)<6 by decide);omega⟩
noncomputable def depth:Nat:=11
theorem lawTrue:∀ns:List Int,ns.length<=63->evP 1000 G T (depth+1) "law" [.lst (ns.map D.int)]=.val (.bl a5):=by
 intro ns hns;rw[jx (F:=j3k) (by rfl) rfl];simp only[j3k,j3u,enter,depth];have hm:=Fo (ns:=ns) (a:=0) (most:=4) (by decide);have qs:evP 1000 G T 11 "_law_question" [.lst (ns.map D.int),.int 0,.int (4:Nat)]=_:=K3 (fu:=1000) (n:=9) (G:=G) j3j jfc jfd j5l (ns:=ns) (a:=0) (most:=4) (by decide) (by decide);have a01:=jcn (fu:=1000) (n:=9) (G:=G) jfd (ns:=ns) (a:=0) (most:=4) (by decide);obtain⟨m,em⟩:∃m:Nat,m=Vl ns 0 4:=⟨_,rfl⟩
 have al:(Yk 1000 G T 9 ns 0 4).length=2^m:=by simp[Yk,<-em]
 have wl:=W7 (qp ns (0+1)) m;rw[<-em]at hm qs;have nd:=Km (c:=qp ns (0+1)) (m:=m) nofun
 generalize Yk 1000 G T 9 ns 0 4=a at *;generalize J2 (qp ns (0+1)) m=ws at *;have hm6:1<=m/\m<=6:=by omega
 have c40:evP 1000 G T 11 "_law_cell" [.lst (ns.map D.int),.int 40]=.val (.int (qp ns 40)):=Vb j3j (k:=40) nofun
 have c3:evP 1000 G T 11 "_law_cell" [.lst (ns.map D.int),.int 3]=.val (.int (qp ns 3)):=Vb j3j (k:=3) nofun
 generalize qp ns 3=c at *;generalize qp ns 40=c4 at *;obtain⟨k,hk,ek⟩:=j2h c;obtain⟨k',hk',ek'⟩:=j2h (c+1+c/6%5);have lw:=λ(k:Nat) (hk:1<=k/\k<=6)=>Ft (n:=7) (k:=k) hk.1 wl hm6 al a01;have on:=Ci (n:=8) wl hm6 al a01;have th:=Qs (n:=10) (k:=m) hm6.2;have rs:=λ(k i:Nat) (hk:1<=k/\k<=6) (hi:i<3^m)=>j30 (n:=2) (k:=k) (i:=i) nd hk wl hm6 al a01 hi;have rf:=λ(z:Int) (p:D) (w:Nat) (hw:w<2) (h:z<1\/6<z) (hb:-10000000000<z/\z<10000000000)=>Eb (n:=8) (k:=w) (q:=qD ws a) (p:=p) hw h hb;have p3:=Eh hm6.2;have p3g:1<=3^m:=Nat.one_le_pow _ _ (by decide);have qs:evP 1000 G T 11 "_law_question" [.lst (ns.map D.int),.int 0,.int 4]=_:=qs;simp only[qD]at lw on rs rf;ext;erw[qs,at0];rw[wl,c3];ext;rw[ek,lw k hk];ext;erw[on,th];rw[c40];obtain⟨L,eL,lL⟩:∃L:List Int,cutD (ns.map D.int) (a3 41) (a3 48)=L.map D.int/\L.length<=63:=by unfold cutD;rw[<-gw,<-gv];exact⟨_,rfl,by rw[Xi,Pq];omega⟩
 ext;rw[eL];ext;rw[jz (l:=(L.map λz=>z%((3^m:Nat):Int)).map D.int) (by rfl) (by rw[kj];omega) (by
  rw[Xa]
  refine ju λz _=>qi (by ext) ?_
  ext
  rfl) (.inl rfl)]
 ext;obtain⟨sl,esl,asl,lsl⟩:∃sl:List Int,D.int (((3^m:Nat):Int)-1)::D.int (c4%((3^m:Nat):Int))::(L.map λz=>z%((3^m:Nat):Int)).map D.int=sl.map D.int/\(∀z∈sl,0<=z/\z<((3^m:Nat):Int))/\2<=sl.length/\sl.length<=70:=by
  refine⟨(((3^m:Nat):Int)-1)::(c4%((3^m:Nat):Int))::(L.map λz=>z%((3^m:Nat):Int)),rfl,?_,?_⟩
  .have me:∀z:Int,0<=z%((3^m:Nat):Int)/\z%((3^m:Nat):Int)<((3^m:Nat):Int):=λz=>⟨Py _ nofun,T9 _ nofun⟩
   intro z hz;rcases xn.mp hz with e|hz
   .omega
   .rcases xn.mp hz with e|hz
    .rw[e];exact me _
    .obtain⟨y,_,e⟩:=X8.mp hz;rw[<-e];exact me y
  .simp only[xq,kj];omega
 have g1:∃z:Int,atI (sl.map D.int) 1=a3 (.int z):=by refine⟨sl.getD 1 0,Jl (n:=1) ?_⟩;rw[xx,kh nofun,xf,kh nofun];rfl
 obtain⟨z1,g1⟩:=g1;rw[esl];clear esl;ext;rw[ek',lw k' hk'];have c1:cutD (sl.map D.int) a6 (a3 1)=(sl.take 1).map D.int:=by have:=j5v (l:=sl.map D.int) (k:=1) (by rw[kj];omega);rw[gv];exact this
 have cl:(cutD (sl.map D.int) a6 (a3 1)).length<=1:=by rw[c1,kj,Xi];omega
 ext;rw[c1];ext;have e2:sl.map D.int++(sl.take 1).map D.int=(sl++sl.take 1).map D.int:=by rw[Xf]
 rw[e2];have as2:∀z∈sl++sl.take 1,0<=z/\z<((3^m:Nat):Int):=λz hz=>(Xn.mp hz).elim (asl z) λh=>asl z (bL h);generalize sl++sl.take 1=sm at *;refine Jm (λt ρ=>∃s12 s13,ρ=[.val (.lst (ns.map D.int)),.val (.tup [.tup (ws.map D.str),.tup (a.map D.int)]),.val (.int m),.val (.int c),.val (.int k),.own ((Jz k a m (3^m)).map D.int),.own ((ar (3^m)).map (onD a m)),.val (.int ((3^m:Nat):Int)),
  .val (.lst (sl.map D.int)),.un,.val (.int k'),.own ((Jz k' a m (3^m)).map D.int),s12,s13,.un,.un,.un]) ⟨_,_,rfl⟩ ?_ ?_
 .rintro t d ρ ht ⟨s12,s13,rfl⟩;rw[Va]at ht;obtain⟨d',h1,h2⟩:=Xu.mp ht;rw[xx]at h1;obtain⟨z,hz,rfl⟩:=Xu.mp h1;subst h2;obtain⟨b1,b2⟩:=as2 z (Xl hz);obtain⟨i,rfl⟩:∃i:Nat,z=(i:Int):=⟨z.toNat,by omega⟩
  have hi:i<3^m:=by omega
  have r1:=rs k i hk hi;have r2:=rs k' i hk' hi;simp only[M4];ext;rw[Dl rfl];simp only[xr,Pr,Rk.d];rw[r1];ext;by_cases h3:(t:Int)<3
  .ext;rw[Dl rfl];simp only[xr,Pr,Rk.d];rw[r2];ext;exact⟨_,rfl,_,_,rfl⟩
  .ext;exact⟨_,rfl,_,_,rfl⟩
 .rintro ρ ⟨s12,s13,rfl⟩;have dg:=V6 (n:=10) (m:=m) (z:=z1) hm6.2;ext;erw[g1,dg];have q1:=Py (c/6) (show(1000000000:Int)≠0 by decide);have q2:=T9 (c/6) (show(0:Int)<1000000000 by decide);generalize c/6%1000000000=y at *;refine Jm (λt ρ=>∃s15 s16,ρ=[.val (.lst (ns.map D.int)),.val (.tup [.tup (ws.map D.str),.tup (a.map D.int)]),.val (.int m),.val (.int c),.val (.int k),.own ((Jz k a m (3^m)).map D.int),.own ((ar (3^m)).map (onD a m)),.val (.int ((3^m:Nat):Int)),
   .val (.lst (sl.map D.int)),.un,.val (.int k'),.own ((Jz k' a m (3^m)).map D.int),s12,s13,.val (.tup ((j4 3 m z1).map D.int)),s15,s16]) ⟨_,_,rfl⟩ ?_ ?_
  .rintro t d ρ ht ⟨s15,s16,rfl⟩;obtain⟨z,rfl,hz,hb⟩:∃z:Int,d=.int z/\(z<1\/6<z)/\(-10000000000<z/\z<10000000000):=by
    have hm:=Xl ht;simp only[xn,bO,or_false]at hm;rcases hm with e|e|e|e<;>subst e
    .exact⟨_,rfl,by omega,by omega⟩
    .exact⟨_,rfl,by omega,by omega⟩
    .exact⟨_,rfl,by omega,by omega⟩
    .exact⟨_,rfl,by omega,by omega⟩
   have r0:=λw hw=>rf z (.tup ((j4 3 m z1).map D.int)) w hw hz hb;simp only[Jh];ext;refine Wd (λw ρ=>∃s16,ρ=[.val (.lst (ns.map D.int)),.val (.tup [.tup (ws.map D.str),.tup (a.map D.int)]),.val (.int m),.val (.int c),.val (.int k),.own ((Jz k a m (3^m)).map D.int),.own ((ar (3^m)).map (onD a m)),.val (.int ((3^m:Nat):Int)),
    .val (.lst (sl.map D.int)),.un,.val (.int k'),.own ((Jz k' a m (3^m)).map D.int),s12,s13,.val (.tup ((j4 3 m z1).map D.int)),.val (.int z),s16]) ⟨_,rfl⟩ ?_ ?_
   .rintro w d ρ hw ⟨s16,rfl⟩;have hw':w<2:=by have:=(X3.mp hw).1;simpa [upto]using this
    have ed:d=.int (0+(w:Int)):=by rw[upto,xx,Xw (by simpa using hw')]at hw;exact(aw hw).symm
    subst ed;have r1:=r0 w hw';rw[bS];simp only[Jh];ext;rw[Ub rfl,r1];ext;rw[show Qd .ne (.lst [.str "WrongSize"]) (.lst [.str "WrongSize"])=a3 a4 from by decide +kernel];ext;exact⟨_,rfl,_,rfl⟩
   .rintro ρ ⟨s16,rfl⟩;ext;exact⟨_,rfl,_,_,rfl⟩
  .rintro ρ ⟨s15,s16,rfl⟩;ext
end K41
end
open PySem PySem.W PyProof.Rows
local macro_rules | `(tactic| walk_at "lf") => `(tactic| (refine' L2.lf_mk ?a ?l ?c ?k; (case a => k_is); (case l => k_is); (case c => k_is); (case k => k_is)))
set_option Elab.async false
namespace PySem.W.Fast
def tw15638286436300750978:=0
def tw14326229159583200915:=0
def tw7503609696577541628:=0
def tw5890386184946974697:=0
def tw11422060937874032111:=0
def tw12960071608957697542:=0
def tw12145800814130660826:=0
def tw3195328620184966492:=0
def tw696557219419248073:=0
def tw14176737564920447467:=0
def tw10590131275312722041:=0
def tw6993575001969548246:=0
def tw412298954584936432:=0
def tw9388914679459911464:=0
def tw12742232422029350535:=0
def tw15471886819072126399:=0
def tw729923954992163498:=0
def tw843894123287181546:=0
def tw15148427380955240103:=0
def tw16125085633361073486:=0
def tw5476479062020748915:=0
def tw1652123614195704574:=0
def tw11642046092437656674:=0
def tw18011284739288510143:=0
def tw12506296816855361396:=0
def tw12133096770172787837:=0
def tw5530987090071089395:=0
def tw11532573286917364815:=0
def tw1794549125044858271:=0
def tw5665175275984585987:=0
def tw8179381038837649624:=0
def tw13997211177680511661:=0
def tw12502548885654117770:=0
def tw13943394277405739508:=0
def tw3446347917543183501:=0
def tw7604929832409769526:=0
def tw5037441145964222481:=0
def tw2246105376765476871:=0
def tw2368067405992115146:=0
def tw11906003045635768165:=0
def tw6644629633345859767:=0
def tw12943010289748426570:=0
def tw13628929749098716964:=0
def tw5475028560045250039:=0
def tw1955090029569758916:=0
def tw10473574130435838350:=0
def tw5949831890010262507:=0
def tw2638971938844107840:=0
def tw6694686021542379259:=0
def tw16362566238884219120:=0
def tw8549580159620624304:=0
def tw370669489052220047:=0
def tw1335139116735384364:=0
def tw14894767604888541214:=0
def tw4077745413019560353:=0
def tw18444567832052167445:=0
def tw14265141451432760208:=0
def tw5647055006811149133:=0
def tw3475533750083956234:=0
def tw5622245973704272621:=0
def tw118414741774882902:=0
def tw8194509323777172510:=0
def tw10632208405063984187:=0
def tw802838196613132454:=0
def tw9233739585217809879:=0
def tw12549248567973401745:=0
def tw13825304127838677996:=0
def tw10001266637913714813:=0
def tw17335455826816068820:=0
def tw3249796369215495193:=0
def tw6995903488641185359:=0
def tw15510935142498663912:=0
def tw12249453233327897318:=0
def tw14089417153379072610:=0
def tw16099740123877792935:=0
def tw5624524153655089767:=0
def tw15213560347460226785:=0
def tw9401212327311447669:=0
def tw13602408898002162764:=0
def tw6404171923131458491:=0
def tw11962512772634723346:=0
def tw12516628655648358311:=0
def tw13006226676202232906:=0
def tw11344805142951247257:=0
def tw17990125120123302325:=0
def tw15262943549477437871:=0
def tw3330785359658029895:=0
def tw17857290586943798193:=0
def tw9918080855572930264:=0
def tw8512311417499025580:=0
def tw13328912423381711649:=0
def tw7858290706444798830:=0
def tw4010571702317582704:=0
def tw10523930229182624693:=0
def tw12716372170539962197:=0
def tw2255194820260340096:=0
def tw14339525666818690912:=0
def tw13188692792729146510:=0
end PySem.W.Fast
set_option maxRecDepth 100000 in
set_option maxHeartbeats 0 in
theorem PySem.Challenge.cw_leastasks_k41_rounds_to_ask_holds : PySem.Challenge.rw_leastasks_k41_rounds_to_ask.Holds := by
  w_on; o_law; k_head; (case hw => w_witness2)
  k_fill
  refine L2.walkL (l := PySem.Challenge.rw_leastasks_k41_rounds_to_ask) (k := L2.lv (K41.depth + 1)) (x := "_law_script") (by decide) rfl rfl (fun w h Y => ⟨PySem.W.km_in_of Y, PySem.W.km_tabs_of Y⟩) ?tz ?F
  case tz => intro w; kernel_rfl
  case F =>
    intro w mg fa h KX Gn hmg tz
    refine' K41.head KX Gn hmg ?h0 ?h1 ?h2 ?h3 ?h4 ?h5 ?h6 ?h7 ?h8 ?h9 ?h10 ?h11 ?h12 ?h13 ?h14 ?h15 ?h16 ?h17 ?h18 ?h19 ?h20 ?h21 ?h22 ?h23 ?h24 ?h25 ?h26 ?h27 ?h28 ?h29 ?h30 ?h31 ?bz tz ?ga0l ?gn0 ?gn1 ?ga4l ?gn2 ?gn3 ?gn4 ?exa ?xz K41.lawTrue
    (case h0 => walk_at "lf")
    (case h1 => walk_at "lf")
    (case h2 => walk_at "lf")
    (case h3 => walk_at "lf")
    (case h4 => walk_at "lf")
    (case h5 => walk_at "lf")
    (case h6 => walk_at "lf")
    (case h7 => walk_at "lf")
    (case h8 => walk_at "lf")
    (case h9 => walk_at "lf")
    (case h10 => walk_at "lf")
    (case h11 => walk_at "lf")
    (case h12 => walk_at "lf")
    (case h13 => walk_at "lf")
    (case h14 => walk_at "lf")
    (case h15 => walk_at "lf")
    (case h16 => walk_at "lf")
    (case h17 => walk_at "lf")
    (case h18 => walk_at "lf")
    (case h19 => walk_at "lf")
    (case h20 => walk_at "lf")
    (case h21 => walk_at "lf")
    (case h22 => walk_at "lf")
    (case h23 => walk_at "lf")
    (case h24 => walk_at "lf")
    (case h25 => walk_at "lf")
    (case h26 => walk_at "lf")
    (case h27 => walk_at "lf")
    (case h28 => walk_at "lf")
    (case h29 => walk_at "lf")
    (case h30 => walk_at "lf")
    (case h31 => walk_at "lf")
    (case gn0 => k_is)
    (case gn1 => k_is)
    (case gn2 => k_is)
    (case gn3 => k_is)
    (case gn4 => k_is)
    (case ga4l => k_is)
    (case ga0l => k_is)
    (case bz => kernel_rfl)
    (case exa => kernel_rfl)
    (case xz => kernel_rfl)
#print axioms PySem.Challenge.cw_leastasks_k41_rounds_to_ask_holds