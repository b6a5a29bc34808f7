import PyProof.Rows.All
import Wide.All
import OpenK.AllK
import Wide.FinOn
import Lean
import PyProof.EqAt
import PyProof.EqKinds
import PyProof.TupleCall
import PyProof.Rows.SetFrom
import KE.KDictList
import KE.KMinKey
import PyProof.ListRange
import KE.KRevIter
import PyProof.TupleOfGen
import PyProof.StrBlockL
import PySem.Challenge.RW_leastasks_k42_whole_rounds_against_asks
set_option Elab.async false
set_option linter.all false
set_option maxRecDepth 100000
set_option maxHeartbeats 4000000
set_option genSizeOf false
set_option genInjectivity false
open Option renaming some→a3,none→a6,getD_some→d9,isSome_some→eB,map_some→ff,join_some→iz,getD_none→iA,bind→jZ
open Bool renaming false→a4,true→a7,or_eq_true→bY,eq_iff_iff→dH,false_and→fO,and_false→fP,true_and→gn,not_eq_true'→iT,not_false→jS,or_false→k6,not_true→k7,false_or→k8,and_true→k9
open PySem renaming wpAny_bind→a5,Value→a8,starEach→a9,Addr→aa,Shared→af,Str→ah,wpAny_pure→ai,Expr→aj,sizeLine→ak,wpAny→ao,mainGlobals→aq,Program→au,model→aw,World→ax,eval→ay,Around→az,Heap→aA,foldedSetIterable→aD,argBest→aE,behindInMarks→aF,wpAny_newObj_type→aG,wpAny_Call_Name_kw→aH,cLine→aI,FuncData→aJ,Pos→aK,compareOp→aL,cellsFrom→aM,attributeBase→aN,backTo→aO,swapsWith→aQ,Keyword→aR,keywordEach→aT,wpAny_truthy_bool→aV,binaryOp→aW,Stmt→aX,Scope→aY,codeAny_builtin→b0,NameKind→ba,wpAny_pyIter_list→bc,codeAny_mono→bf,wpAny_mono→bg,call_meets→bj,wpAny_call_entry→bq,wpAny_callSpecial?_slot→br,backToKw→bu,wpAny_typeNameOfWhole_valiter→bB,assignEach→bC,wpAny_typeNameOf_valiter→cc,plainId_quiet→cf,codeAny→cj,wpAny_field→cy,wpAny_holding→cK,sliceBounds→cO,wpAny_passesOwn→cW,wpAny_loadPart'→cX,strKind→d0,Builtin→d4,BindsTo→d5,Arguments→d7,wpAny_seqItems→dj,closureFor→dk,builtinsNs→dm,Obj→dn,Env→dy,rawInt→dA,pyNext→dB,draw→dM,boot_len→dN,wpAny_pyNext_list_item→dW,sysModules→dX,bootBuiltins→dY,letOwnedTupleGo→eA,wpAny_isOneOf_valiter→eJ,wpAny_tryCatch→eM,wpAny_setField→eN,recursionLimit→eO,intItems→eP,firstArgMember→eQ,bindArgs→eT,assign→eU,JoinOk→eV,IsPart→eW,GenState→eX,tupleKind→f6,intKind→f7,codeAmong→f9,wpAny_pyIter_tuple→fm,wpAny_call→fq,typeIs_int→fv,isTrue→fw,defaultsOf→fA,Result→fB,wpAny_dictEntries→fJ,concat_meets→fK,callerA→fL,wpAny_forIn_list→fT,seqItems?→fU,scanBound→fV,noFill_tuple_add→fW,PassesOwn→fX,DictEntry→fY,wpAny_of_eq→gc,wpAny_letGo→gd,richCompare→gf,numAt→gh,CmpOp→gj,wpAny_updateSeq→gq,wpAny_execs_nil→gr,wpAny_dictEpoch→gu,Tok→gy,typeIs_str→gO,pyIter→gP,newFunctionEnv→gQ,wpAny_binaryOp_repeat_ref→i5,wpAny_standAt→ic,wpAny_comprehension_free→ie,seq_tuple_add→ig,call→ij,pushCells→iu,bindL→iv,bindC→iw,again→iy,spliced→iH,seqSlot_of→iI,richCompare_meets_room→iJ,holding→iK,getItem→iL,wpAny_pyNext_list_end→iX,wpAny_isTrue_Compare1→iY,sizeLine_eq→jA,lookup_relabel_local→jB,intItems_at→jC,atKey→jD,Operator→jE,Model→jF,Meets→jG,wpAny_Name→jV,tupleKind_room_in1→jW,entryOfKey→jX,wpAny_pyIter_enum→kg,wpAny_assign_Name→ki,wpAny_Return_some→kn,standAt→ko,call_sum_walkAnyS→kq,ItemsOf→kr,wpAny_execs_cons→kL,rule→kM,lastMarks→kN,pushCells_keeps→lr,codeAny_of_tree→lz,wpAny_runValue→lG,wpAny_fieldsOf→lH,newExc→lI,Sem→lJ,Params→lK,wpAny_handled→lN,wpAny_attempt→lO,intBits_le_64→lP,evalPart_none→lQ,call_list_seq→lR
open List renaming replicate→ae,range→ar,take_length→bM,drop_eq_getElem_cons→bQ,filterMap_cons→bT,nil_append→bX,length_zipIdx→bZ,filter_append→c7,filter_cons_of_pos→c9,range_succ_eq_map→ck,getElem?_set→cq,length_singleton→cB,cons_append→cC,length→cF,getD_cons_zero→cH,map_nil→cM,getElem?_append_right→cR,foldl→cS,any_cons→de,nodup_range→dq,getElem?_cons_succ→dr,filter_cons_of_neg→du,range_succ→dE,of_mem_zip→dF,nodup_nil→dR,drop_zero→dS,toList_toArray→eC,mem_map_of_mem→eD,countP_filter→eK,set_eq_take_append_cons_drop→eZ,not_mem_nil→fg,getElem_inj→fh,mem_or_eq_of_mem_set→fZ,all_cons→gm,getElem?_replicate→gv,getElem?_set_self→gz,take_append_drop→gY,mem_of_mem_take→i6,getLast?_append→i7,getElem?_set_ne→i8,getElem?_mapIdx→i9,zip_cons_cons→iB,countP_append→iC,reverse_cons→iO,pairwise_map→iP,getLast?_map→iQ,getElem_take→iR,foldl_append→iS,range'_succ→iZ,mem_flatMap→j3,drop_length→ja,any_toArray→js,mem_zipIdx→jI,find?_cons→jJ,filter_map→jK,countP_map→jL,map_drop→k5,all_map→kv,range'→kQ
open Option.some renaming inj→av
open PySem.Builtin.Str renaming strSliceIndices→aB,tooLong→cw,occurrences→fe,glued→lF
open PySem.Value renaming ref→aC,none→aP,int→b9,bool→bG,str→bH,type→dv,notImplemented→gD,isInt→kc
open PySem.Builtin.SmallTypes renaming nextOf→aS
open PySem.Builtin.Tuple renaming tupleExact→aU,tupleCompareSizes→dJ,tupleTooMany→eF,tupleItemsOf→kI
open PySem.NameKind renaming free→aZ,cell→bp
open False renaming elim→b7
open Or renaming inl→b8,inr→bF
open PyProof.Rows renaming envOfC→bo,IntsAre→cL,AllBare→dz,seqObj→eY,IsTup→gR,subscriptTail_builtinR→iM,boot_min→jH,slot_tuple_getitem→jY,get?_update_seq→lA,tail_any→lL,slicePart_none→lM,subscriptTail→lS,Constant_none→lT
open PySem.Builtin.Slice renaming slicePlaces→bx,sliceAdjust→cD,sliceApplied→eG,slicePartIndex→kJ,sliceFields→kK
open PyProof.Rows.F renaming plain_set_update_loop→bA,entry_set_update_loop→d8
open PySem.Txt renaming slice→bD,join→dU,mul→iF
open PySem.Builtin.List renaming listTooLong→bE,listExtendWith→lq
open Nat renaming zero_le→bI,lt_of_le_of_lt→c8,lt_succ_self→cE,le_of_lt→cP,mul_comm→dC,lt_or_ge→dD,pow_le_pow_right→dZ,not_lt_zero→fM,sub_zero→gW,mul_le_mul_right→ip,add_sub_cancel→iN,min_eq_left→jQ,mul_assoc→ku,succ_mul→kO,min_self→kP,pow_pos→lB
open Int renaming pow_pos→bJ,le_trans→bR,emod_lt_of_pos→cb,natCast_mul→cJ,zero_add→cQ,one_mul→df,mul_comm→dG,add_mul_ediv_left→dO,mul_le_mul_of_nonneg_right→fC,fdiv_eq_ediv_of_nonneg→g6,pow_succ→gZ,ne_of_gt→hJ,le_of_lt→hU,add_comm→hV,mul_ediv_add_emod→ia,mul_one→iq,toNat_of_nonneg→iD,natCast_add→jR,mul_assoc→kx,neg_mul→lC
open PySem.PassesOwn renaming never→bK,leaving→gx
open PySem.AutoSeq1 renaming wpAny_loadPart'→bL,sub_tuple_tuple→fE
open ForInStep renaming yield→bN
open Array renaming getElem?_eq_getElem→bO,length_toList→cG,append_inj_right→gw,getElem?_toList→gC,toList→ka
open PySem.F renaming slot_tuple_iterator_next→bP,plainAttrs_list→bU,args_tuple_add_2→cV,entry_tuple_add→cZ,slot_tuple_add→dh,entry_min_loop→di,slot_int_rmul→dQ,args_dict_valueiterator_next_1→fj,entry_dict_valueiterator_next→fD,plainAttrs_tuple→fG,args_tuple_lt_2→fN,entry_tuple_lt→fQ,args_tuple_iterator_next_1→fR,slot_tuple_lt→g9,entry_tuple_iterator_next→gb,slot_tuple_index→gG,slot_tuple_count→gH,slot_list_extend→gJ,slot_list_append→gK,slot_dict_values→gL,slot_list_index→hZ,slot_list_count→i3,slot_dict_values_iter→i4,slot_str_join→ir,args_object_init_2→iG,args_tuple_mul_2→jv,plain_tuple_new→jM,plain_list_iadd→jN,entry_tuple_mul→jO,args_int_rmul_2→jP,slot_tuple_mul→jT,entry_int_rmul→jU,fills_int_mul→ke
open List.Sublist renaming refl→bS
open PySem.Builtin.Dict_items renaming ownsTuple→bV,newIterator→iV,dictOf→iW
open PySem.W renaming nsIn→bW,OpenLaw→d6,KdlSrc→fi,WalkO→ib,CodeHd→iE,Frag→lD
open PySem.Heap renaming SameBut→cg,ExtBut→dP,get?_update_self→gE
open Function renaming comp→cu
open Ne renaming symm→cz
open PySem.SeqAt renaming EqAt→cA,RcAt→fF
open PySem.Str renaming ofString→cN,cps→ky,length→lE
open PySem.Obj renaming mapSeq→cT,data_mapFields→cU,mapFields→gp,isFreed_of_fields→hW,cls_mapFields→iU
open Classical renaming propDecidable→cY
open PySem.Calls renaming callWith_builtin→dw,spliced_cons→eE,spliced_nil→eL,Name_function_global→fH,evalArgs_plain→gM
open Sum renaming inr→fb,inl→fc
open PySem.EqMixed renaming ne_str_int→kz,ne_str_bool→kA,ne_int_str→kB,ne_bool_str→kC,eq_str_int→kD,eq_str_bool→kE,eq_int_str→kF,eq_bool_str→kH
open PySem.EqNone renaming ne_str_none→kR,ne_none_str→kS,ne_none_none→kT,ne_none_int→kU,ne_none_bool→kW,ne_int_none→kX,ne_bool_none→kY,eq_str_none→kZ,eq_none_str→l5,eq_none_none→l6,eq_none_int→l7,eq_none_bool→l9,eq_int_none→lh,eq_bool_none→lj
def kh:=@List.getElem?_eq_getElem
def kj:=@List.getD_eq_getElem?_getD
def km:=@List.mem_cons_of_mem
def xf:=@List.length_map
def xg:=@PySem.Heap.get?_push_of_some
def xj:=@Bool.false_ne_true
def xm:=@List.mem_singleton
def xn:=@List.mem_cons_self
def xq:=@List.length_cons
def xr:=@List.mem_cons
def xu:=@PySem.Heap.lt_size
def xx:=@List.getElem?_map
def X3:=@Nat.le_refl
def X4:=@List.map_cons
def X5:=@List.mem_map
def X6:=@PySem.Heap.get?_push_size
def X7:=@List.getElem?_eq_some_iff
def X8:=@List.size_toArray
def Xa:=@Nat.ne_of_lt
def Xb:=@List.length_append
def Xc:=@List.map_map
def Xd:=@List.mem_range
def Xe:=@List.mem_append_right
def Xf:=@Nat.lt_of_lt_of_le
def Xg:=@Nat.le_trans
def Xh:=@Int.toNat_natCast
def Xi:=@Bool.and_eq_true
def Xj:=@List.lookup_cons
def Xk:=@List.nodup_cons
def Xl:=@List.mem_filter
def Xm:=@List.length_range
def Xn:=@List.append_nil
def Xo:=@List.mem_of_getElem?
def Xp:=@List.length_take
def Xq:=@List.map_append
def Xr:=@List.getElem_mem
def Xu:=@List.countP_cons
def Xv:=@Option.map_eq_some_iff
def Xw:=@Option.isSome_iff_exists
def Xx:=@List.getElem?_eq_none
def Xy:=@List.length_set
def Xz:=@List.replicate_succ
def ph:=@Bool.false_eq_true
def pq:=@Nat.lt_irrefl
def P0:=@Nat.lt_trans
def Pa:=@Nat.zero_add
def Pb:=@List.getElem?_range
def Pg:=@List.length_replicate
def Ph:=@Int.le_refl
def Pj:=@List.mem_append
def Pk:=@List.mem_iff_getElem
def Pn:=@PySem.mem_of_lookup
def Pq:=@List.length_filter_le
def Pr:=@List.foldl_cons
def Pu:=@List.set_cons_succ
def Px:=@PySem.Around.under_plainId
def Py:=@Nat.le_succ
def Pz:=@PySem.F.plain_min_loop
def t6:=@List.append_assoc
def t7:=@List.getElem?_append_left
def t8:=@List.length_nil
def tu:=@PySem.F.slot_dict_valueiterator_next
def T3:=@Nat.ne_of_gt
def T4:=@List.length_drop
def T5:=@List.all_eq_true
def T6:=@List.set_cons_zero
def T7:=@List.mem_append_left
def T8:=@PySem.Heap.SameBut.update
def T9:=@Nat.pow_succ
def Tc:=@List.mem_filterMap
def Td:=@List.exists_mem_of_ne_nil
def Te:=@Int.emod_nonneg
def Tf:=@List.flatten_cons
def Tg:=@Array.toList_append
def Th:=@List.map_congr_left
def Ti:=@List.getD_cons_succ
def Tj:=@PySem.Heap.size_push
def Tn:=@List.take_of_length_le
def Tp:=@Int.ediv_eq_zero_of_lt
def Tv:=@PySem.W.mg_of
def Tw:=@List.ext_getElem?
def Tz:=@Nat.lt_succ_of_lt
def sr:=@Nat.lt_of_succ_le
def su:=@List.take_add_one
def k8n:=@And.intro
abbrev k8o:=lD
abbrev k8p:=a8→af→Prop
abbrev k8q:=List (aa×dn)
abbrev k8r:=ah→Option a8
abbrev k8s:=("__debug__":ah)
abbrev k8t:=("__classdict__":ah)
local macro_rules | `(tactic| omega)=>`(tactic| first | with_reducible assumption | with_reducible exact Nat.le_of_lt (by assumption) | with_reducible exact Nat.le_refl _ | lia)
local macro_rules | `(nofun)=>`(by omega)
section
namespace L2
open PySem PySem.Spec PyProof.Rows
noncomputable abbrev Key:=Sum Int ah
noncomputable def j9m:Key->a8->Bool
 |.inl k,v=>kc k v
 |.inr x,v=>Value.isStrOf x v
noncomputable def jjg(w:ax):Key->Int
 |.inl k=>hashInt k
 |.inr x=>hashStr w x
theorem zr:∀{k:Key}{v:a8},j9m k v=a7->(∃i t,k=fc i/\v=b9 i t)\/(∃x t,k=fb x/\v=bH x t)
 |.inl i,v,h=>by obtain⟨t,e⟩:=Value.isInt_shape (k:=i) (v:=v) h;exact .inl ⟨i,t,rfl,e⟩
 |.inr x,v,h=>by obtain⟨t,e⟩:=Value.isStrOf_shape (x:=x) (v:=v) h;exact .inr ⟨x,t,rfl,e⟩
theorem jej(a b:Int):decide ((fc a:Key)=fc b)=(a==b):=by
 by_cases e:a=b
 .subst e;simp
 .have h:¬(fc a:Key)=fc b:=λq=>e (Sum.inl.inj q);rw[decide_eq_false h];exact(beq_eq_false_iff_ne.mpr e).symm
theorem jeg(a b:ah):decide ((fb a:Key)=fb b)=decide (a=b):=by
 by_cases e:a=b
 .subst e;simp
 .have h:¬(fb a:Key)=fb b:=λq=>e (Sum.inr.inj q);rw[decide_eq_false h,decide_eq_false e]
theorem jei(a:Int)(b:ah):decide ((fc a:Key)=fb b)=a4:=decide_eq_false (λq=>nomatch q)
theorem jeh(a:ah)(b:Int):decide ((fb a:Key)=fc b)=a4:=decide_eq_false (λq=>nomatch q)
noncomputable def j25(prog:au)(w:ax):PySem.KeyKind prog w Key where
 is:=j9m
 hash:=jjg w
 inj:=λv a b ha hb=>by
  rcases zr ha with ⟨i,t,rfl,rfl⟩|⟨x,t,rfl,rfl⟩
  .rcases zr hb with ⟨j,u,rfl,e⟩|⟨y,u,rfl,e⟩
   .injection e with e1 _;rw[e1]
   .exact nomatch e
  .rcases zr hb with ⟨j,u,rfl,e⟩|⟨y,u,rfl,e⟩
   .exact nomatch e
   .injection e with e1 _;rw[e1]
 byValue:=λk v h=>by rcases zr h with ⟨i,t,rfl,rfl⟩|⟨x,t,rfl,rfl⟩<;>rfl
 pyHash:=λhv h=>by
  rcases zr hv with ⟨i,t,rfl,rfl⟩|⟨x,t,rfl,rfl⟩
  .exact wpAny_pyHash_int h
  .exact wpAny_pyHash_str h
 eqBool:=λhu hv h=>by
  rcases zr hu with ⟨i,t,rfl,rfl⟩|⟨x,t,rfl,rfl⟩
  .rcases zr hv with ⟨j,u,rfl,rfl⟩|⟨y,u,rfl,rfl⟩
   .rw[jej]at h;exact wpAny_eqBool_int h
   .rw[jei]at h;exact SeqAt.EqAt.int_str i t y u _ _ _ _ h
  .rcases zr hv with ⟨j,u,rfl,rfl⟩|⟨y,u,rfl,rfl⟩
   .rw[jeh]at h;exact SeqAt.EqAt.str_int x t j u _ _ _ _ h
   .rw[jeg]at h;exact wpAny_eqBool_str h
 «strs»:=λk x t v h=>by
  rcases zr h with ⟨i,u,rfl,e⟩|⟨y,u,rfl,e⟩
  .exact nomatch e
  .injection e with e1 _;subst e1;cases v<;>rfl
set_option genInjectivity true in
inductive V where
 |non|bl (b:Bool)|int (i:Int)|str (x:ah)|byt (b:Array UInt8)|flt (b:UInt64)|ref (a:aa)|ty (n:String)
 deriving DecidableEq
def RelV:V->a8->Prop
 |.non,u=>u=aP
 |.bl b,u=>u=bG b
 |.int i,u=>∃t,u=b9 i t
 |.str x,u=>∃t,u=bH x t
 |.byt b,u=>∃t,u=Value.bytes b t
 |.flt b,u=>∃t,u=Value.float b t
 |.ref a,u=>u=aC a
 |.ty n,u=>u=dv n
abbrev Vals:List V->List a8->Prop:=Paired RelV
theorem Vals.length{xs:List V}{us:List a8}(r:Vals xs us):xs.length=us.length:=Paired.length r
theorem Vals.get:∀{xs:List V}{us:List a8}{i:Nat}{x:V},Vals xs us->xs[i]?=a3 x->∃u,us[i]?=a3 u/\RelV x u
 |_,_,_,_,.nil,e=>by simp at e
 |_,_,0,_,.cons r _,e=>by simp at e;subst e;exact⟨_,rfl,r⟩
 |_,_,i+1,x,.cons _ t,e=>by obtain⟨u,h1,h2⟩:=Vals.get (i:=i) (x:=x) t (by simpa using e);exact⟨u,by simpa using h1,h2⟩
theorem Vals.append:∀{xs ys:List V}{us ws:List a8},Vals xs us->Vals ys ws->Vals (xs++ys) (us++ws)
 |_,_,_,_,.nil,s=>s
 |_,_,_,_,.cons r t,s=>.cons r (Vals.append t s)
theorem Vals.take:∀{xs:List V}{us:List a8}(n:Nat),Vals xs us->Vals (xs.take n) (us.take n)
 |_,_,0,_=>.nil
 |_,_,_+1,.nil=>.nil
 |_,_,n+1,.cons r t=>.cons r (Vals.take n t)
theorem Vals.drop:∀{xs:List V}{us:List a8}(n:Nat),Vals xs us->Vals (xs.drop n) (us.drop n)
 |_,_,0,r=>r
 |_,_,_+1,.nil=>.nil
 |_,_,n+1,.cons _ t=>Vals.drop n t
def jg3:Option V->Option a8->Prop
 |some v,a3 u=>RelV v u
 |none,a6=>True
 |_,_=>False
def KV{κ:Type}:List (κ×V)->List (κ×a8)->Prop:=Paired λ(p:κ×V) (q:κ×a8)=>p.1=q.1/\RelV p.2 q.2
noncomputable def kV:Key->V
 |.inl i=>.int i
 |.inr x=>.str x
inductive HO where
 |lst (xs:List V)
 |tup (xs:List V)
 |dK (kvs:List (Key×V))|dT (kvs:List (List Key×V))
 |dI (xs:List (List Int×aa×a8)) (ep:Nat)
 |set (S:Int->Bool) (n:Nat)
 |ins (C dx:aa) (fs:List (ah×V))
 |own (x:aa)
 |xd (fs:List (ah×V))
 |met (f x:aa)
 |rng (lo hi:Int)
 |frz (o:dn) (u:HO)
 |tbl (ps:Array a8)
 |cod (q:ah)
 |ext (φ:aA->Prop)
noncomputable abbrev Hp:=aa->Option HO
noncomputable def upd(H:Hp)(a:aa)(o:HO):Hp:=λb=>if b=a then a3 o else H b
theorem jc{H:Hp}{a:aa}{o:HO}:upd H a o a=a3 o:=by unfold upd;rw[if_pos rfl]
theorem ji{H:Hp}{a b:aa}{o:HO}(h:b≠a):upd H a o b=H b:=by unfold upd;rw[if_neg h]
theorem zq{H:Hp}{a b:aa}{o:HO}(h:H a=a3 o)(h':H b=a6):a≠b:=by intro e;subst e;rw[h]at h';cases h'
def Zx(h:aA)(a:aa):Prop:=∀o,h.get? a=a3 o->o.dict=a6
theorem Zx.new(h:aA)(xs:Array a8):Zx (h.push { cls:=.type "tuple",data:=.seq xs }) h.objs.size:=λo e=>by have z:(h.push { cls:=.type "tuple",data:=.seq xs }).get? h.objs.size=a3 { cls:=.type "tuple",data:=.seq xs }:=X6 _ rfl;rw[z]at e;cases e;rfl
theorem Zx.of{h:aA}{a:aa}{d:Data}{c:a8}(e:h.get? a=a3 { cls:=c,data:=d }):Zx h a:=λo e'=>by rw[e]at e';cases e';rfl
def O1(o:dn)(q:ah):Prop:=∃(vs:Array a8)(t:gy),o.data=.fields vs/\vs[1]?=a3 (.str q t)
section
variable(P:au)(w:ax)
def jg(H:Hp)(h:aA)(a:aa):HO->Prop
 |.lst xs=>xs.length<=ak/\∃(its:List a8)(n:Nat),Vals xs its/\h.get? a=a3 { cls:=.type "list",data:=.seq its.toArray n }
 |.tup xs=>xs.length<=ak/\∃its:List a8,Vals xs its/\gR h a its.toArray/\Zx h a
 |.dK kvs=>kvs.length<=ak/\(a==dX)=a4/\∃vs,KV kvs vs/\h.DictOf (j25 P w) a vs
 |.dT kvs=>kvs.length<=ak/\(a==dX)=a4/\∃xs:List (List Key×aa×a8),
   Paired (λ(p:List Key×V) (q:List Key×aa×a8)=>p.1=q.1/\H q.2.1=a3 (.tup (p.1.map kV))/\RelV p.2 q.2.2) kvs xs /\
   ∃o es ep,h.get? a=a3 o/\o.ExactDict/\o.data=.dict es ep/\es.toList=xs.map (jX (f6 (j25 P w)))/\(xs.map (·.1)).Nodup
 |.dI xs ep=>xs.length<=ak/\(a==dX)=a4/\(xs.map λx=>x.1).Nodup/\∃(o:dn)(es:Array fY),h.get? a=a3 o/\o.ExactDict/\o.data=.dict es ep/\es.toList=xs.map (jX (f6 (f7 P w)))
 |.set S n=>h.SetOf (f7 P w) a S n
 |.ins C dx fs=>H dx=a3 (.own a)/\fs.length<=1000/\dx≠a/\h.get? a=a3 (W.instObj C dx) /\
   ∃mA,h.Ns1 dx mA/\(∀f,jg3 (fs.lookup f) (mA f))/\PySem.Within mA (fs.map (·.1))
 |.own _=>∃o,h.get? a=a3 o
 |.xd fs=>∃mA,h.Ns1 a mA/\∀f,jg3 (fs.lookup f) (mA f)
 |.rng lo hi=>∃t u v,h.get? a=a3 { cls:=.type "range",data:=.fields #[.int lo t,.int hi u,.int 1 v] }
 |.frz o u=>h.get? a=a3 o/\jg H h a u
 |.tbl ps=>h.get? a=a3 { cls:=.none,data:=.fields ps }
 |.cod q=>∃ps:Array a8,h.get? a=a3 (W.tabObj ps)/\TriplesOk ps.toList/\∀pos cv,f9 pos ps.toList=a3 cv->∃(c:aa)(oc:dn),cv=.ref c/\H c=a3 (.frz oc (.own 0))/\O1 oc q
 |.met f x=>h.get? a=a3 (W.methodObj (.ref f) (.ref x))
 |.ext φ=>φ h/\(∃o,h.get? a=a3 o)/\∀h1 h2:aA,φ h1->(∀o,h1.get? a=a3 o->h2.get? a=a3 o)->φ h2
def HOk(H:Hp)(h:aA):Prop:=∀a o,H a=a3 o->jg P w H h a o
end
section
variable{P:au}{w:ax}{H H':Hp}{h h':aA}{a:aa}{o:HO}
theorem jg.lt(x:jg P w H h a o):a<h.objs.size:=by
 cases o with
 |lst xs=>obtain⟨_,_,_,_,e⟩:=x;exact xu e
 |tup xs=>obtain⟨_,_,_,p,_⟩:=x;exact p.lt
 |dK kvs=>obtain⟨_,_,_,_,o,_,_,e,_⟩:=x;exact xu e
 |dT kvs=>obtain⟨_,_,_,_,o,_,_,e,_⟩:=x;exact xu e
 |dI xs ep=>obtain⟨_,_,_,o,_,e,_⟩:=x;exact xu e
 |set S n=>obtain⟨o,_,_,_,e,_⟩:=x;exact xu e
 |ins C dx fs=>obtain⟨_,_,_,e,_⟩:=x;exact xu e
 |own y=>obtain⟨_,e⟩:=x;exact xu e
 |xd fs=>obtain⟨_,⟨_,_,_,e,_⟩,_⟩:=x;exact xu e
 |rng lo hi=>obtain⟨_,_,_,e⟩:=x;exact xu e
 |frz ob u=>obtain⟨e,_⟩:=x;exact xu e
 |tbl ps=>exact xu (show h.get? a=a3 _ from x)
 |cod q=>obtain⟨_,e,_⟩:=x;exact xu e
 |met f y=>exact xu (show h.get? a=a3 _ from x)
 |ext φ=>obtain⟨_,⟨_,e⟩,_⟩:=x;exact xu e
theorem Paired.mapP{α β:Type}{F G:α->β->Prop}:∀{l₁:List α}{l₂:List β},Paired F l₁ l₂->(∀a b,F a b->G a b)->Paired G l₁ l₂
 |_,_,.nil,_=>.nil
 |_,_,.cons r t,f=>.cons (f _ _ r) (Paired.mapP t f)
theorem jg.stay(x:jg P w H h a o)(k:∀b u,(b=a\/H b=a3 (.own a))->h.get? b=a3 u->h'.get? b=a3 u)
  (ho:∀b,H b=a3 (.own a)->H' b=a3 (.own a)) (ht:∀b xs,H b=a3 (.tup xs)->H' b=a3 (.tup xs)) (hz:∀b o,(∃vs,o.data=.fields vs)->H b=a3 (.frz o (.own 0))->H' b=a3 (.frz o (.own 0))):jg P w H' h' a o:=by
 induction o with
 |lst xs=>obtain⟨z,its,n,r,e⟩:=x;exact⟨z,its,n,r,k _ _ (.inl rfl) e⟩
 |tup xs =>obtain⟨z,its,r,⟨ob,e,c⟩,nd⟩:=x;refine⟨z,its,r,⟨ob,k _ _ (.inl rfl) e,c⟩,λo q=>?_⟩;rw[k _ _ (.inl rfl) e]at q;cases q;exact nd _ e
 |dK kvs=>obtain⟨z,y,vs,r,ob,es,ep,e,c⟩:=x;exact⟨z,y,vs,r,ob,es,ep,k _ _ (.inl rfl) e,c⟩
 |dT kvs =>obtain⟨z,y,xs,r,ob,es,ep,e,c⟩:=x;exact⟨z,y,xs,Paired.mapP r λp q z=>⟨z.1,ht _ _ z.2.1,z.2.2⟩,ob,es,ep,k _ _ (.inl rfl) e,c⟩
 |dI xs ep=>obtain⟨z,y,nd,ob,es,e,c⟩:=x;exact⟨z,y,nd,ob,es,k _ _ (.inl rfl) e,c⟩
 |set S n=>obtain⟨ob,es,ep,t,e,c⟩:=x;exact⟨ob,es,ep,t,k _ _ (.inl rfl) e,c⟩
 |ins C dx fs =>obtain⟨d,z,ne,e,mA,⟨od,es,ep,e2,c⟩,r⟩:=x;exact⟨ho _ d,z,ne,k _ _ (.inl rfl) e,mA,⟨od,es,ep,k _ _ (.inr d) e2,c⟩,r⟩
 |own y=>obtain⟨ob,e⟩:=x;exact⟨ob,k _ _ (.inl rfl) e⟩
 |xd fs=>obtain⟨mA,⟨od,es,ep,e,c⟩,r⟩:=x;exact⟨mA,⟨od,es,ep,k _ _ (.inl rfl) e,c⟩,r⟩
 |rng lo hi=>obtain⟨t,u,v,e⟩:=x;exact⟨t,u,v,k _ _ (.inl rfl) e⟩
 |frz ob u ih=>obtain⟨e,q⟩:=x;exact⟨k _ _ (.inl rfl) e,ih q⟩
 |tbl ps =>have e:h.get? a=a3 { cls:=.none,data:=.fields ps }:=x;show h'.get? a=a3 { cls:=.none,data:=.fields ps };exact k a _ (.inl rfl) e
 |cod q=>obtain⟨ps,e,t,c⟩:=x;exact⟨ps,k _ _ (.inl rfl) e,t,λpos cv z=>let ⟨c,oc,e1,e2,e3⟩:=c pos cv z;⟨c,oc,e1,hz _ _ (let ⟨vs,_,z,_⟩:=e3;⟨vs,z⟩) e2,e3⟩⟩
 |met f y =>have e:h.get? a=a3 (W.methodObj (.ref f) (.ref y)):=x;show h'.get? a=a3 (W.methodObj (.ref f) (.ref y));exact k a _ (.inl rfl) e
 |ext φ=>obtain⟨p,⟨o,e⟩,st⟩:=x;exact⟨st _ _ p λo q=>k _ _ (.inl rfl) q,⟨o,k _ _ (.inl rfl) e⟩,st⟩
theorem HOk.lt(x:HOk P w H h)(e:H a=a3 o):a<h.objs.size:=(x a o e).lt
theorem HOk.fresh(x:HOk P w H h)(e:h.objs.size<=a):H a=a6:=by
 cases q:H a with
 |none=>rfl
 |some u=>exact absurd (Xf (x.lt q) e) (pq _)
theorem HOk.kept(x:HOk P w H h)(k:∀b u,h.get? b=a3 u->h'.get? b=a3 u):HOk P w H h':=λa o e =>(x a o e).stay (λb u _ q=>k b u q) (λ_ q=>q) (λ_ _ q=>q) λ_ _ _ q=>q
theorem HOk.laid(x:HOk P w H h)(k:∀b u,h.get? b=a3 u->h'.get? b=a3 u)(hp:h.objs.size<=a)(new:jg P w (upd H a o) h' a o):HOk P w (upd H a o) h':=λb u e=>by
 have hn:=x.fresh hp;by_cases hb:b=a
 .subst hb;rw[jc]at e;cases e;exact new
 .rw[ji hb]at e;exact(x b u e).stay (λc v _ q=>k c v q) (λc q=>by rw[ji (zq q hn)];exact q) (λc xs q=>by rw[ji (zq q hn)];exact q) λc _ _ q=>by rw[ji (zq q hn)];exact q
end
def Rd(H:Hp)(a:aa)(u:HO):Prop:=H a=a3 u\/∃o,H a=a3 (.frz o u)
theorem Rd.ok{P:au}{w:ax}{H:Hp}{h:aA}{a:aa}{u:HO}(r:Rd H a u)(x:HOk P w H h):jg P w H h a u:=by
 rcases r with r|⟨o,r⟩
 .exact x a u r
 .obtain⟨_,q⟩:=x a _ r;exact q
def Mut:Option HO->Prop
 |some (.lst _)=>True
 |some (.dK _)=>True
 |some (.dT _)=>True
 |some (.dI _ _)=>True
 |some (.set _ _)=>True
 |some (.ins _ _ _)=>True
 |some (.ext _)=>True
 |some (.cod _)=>True
 |_=>False
section
variable{P:au}{w:ax}{H:Hp}{h h':aA}{x e:aa}{o':HO}
theorem HOk.write(ok:HOk P w H h)(mu:Mut (H x))(he:e=x\/H e=a3 (.own x))(k:∀b u,b≠e->h.get? b=a3 u->h'.get? b=a3 u)(heo:∃u,h'.get? e=a3 u)
  (new:jg P w (upd H x o') h' x o'):HOk P w (upd H x o') h':=λb u q=>by
 have nown:∀c y,H c=a3 (.own y)->c≠x:=λc y r z=>by subst z;rw[r]at mu;exact mu
 have ntup:∀c xs,H c=a3 (.tup xs)->c≠x:=λc xs r z=>by subst z;rw[r]at mu;exact mu
 have nfrz:∀c o u,H c=a3 (.frz o u)->c≠x:=λc o u r z=>by subst z;rw[r]at mu;exact mu
 by_cases hb:b=x
 .subst hb;rw[jc]at q;cases q;exact new
 .rw[ji hb]at q;by_cases hbe:b=e
  .have q':H b=a3 (.own x):=by
    rcases he with z|z
    .exact absurd (hbe.trans z) hb
    .rw[hbe];exact z
   rw[q]at q';cases q';obtain⟨v,hv⟩:=heo;exact⟨v,by rw[hbe];exact hv⟩
  .refine(ok b u q).stay (λc v hc r=>k c v ?_ r) (λc r=>by rw[ji (nown c b r)];exact r) (λc xs r=>by rw[ji (ntup c xs r)];exact r) λc o _ r=>by rw[ji (nfrz c o _ r)];exact r
   rcases hc with rfl|hc
   .exact hbe
   .rintro rfl;rcases he with z|z
    .exact nown c b hc z
    .rw[hc]at z;cases z;exact hb rfl
end
structure Un(fs ex:List aa)(H H':Hp)(h h':aA):Prop where
 keep:∀b o,h.get? b=a3 o->H b=a6->b∉fs->b∉ex->h'.get? b=a3 o
 slot:∀b o,h.get? b=a3 o->H b=a6->b∈fs->b∉ex->∃sl,h'.get? b=a3 { o with slots:=sl }
 free:∀b o,h.get? b=a3 o->H b=a6->b∉ex->H' b=a6
 there:∀b o,h.get? b=a3 o->b∉ex->∃o',h'.get? b=a3 o'
 tups:∀b xs,H b=a3 (.tup xs)->H' b=a3 (.tup xs)
 frzs:∀b o u,H b=a3 (.frz o u)->H' b=a3 (.frz o u)
 tbls:∀b ps,H b=a3 (.tbl ps)->∃more,H' b=a3 (.tbl (ps++more))
section
variable{fs fs' ex ex':List aa}{H H1 H2:Hp}{h h1 h2 h':aA}{a x e:aa}{o:HO}
theorem Un.any(u:Un fs ex H H1 h h1){b:aa}{ob:dn}(q:h.get? b=a3 ob)(n:H b=a6)(hx:b∉ex):∃sl,h1.get? b=a3 { ob with slots:=sl }:=by
 by_cases hb:b∈fs
 .exact u.slot b ob q n hb hx
 .exact⟨ob.slots,u.keep b ob q n hb hx⟩
theorem Un.kept(k:∀b u,h.get? b=a3 u->h'.get? b=a3 u):Un fs ex H H h h' :=
 ⟨λb ob q _ _ _=>k b ob q,λb ob q _ _ _=>⟨ob.slots,k b ob q⟩,λ_ _ _ n _=>n,λb ob q _=>⟨ob,k b ob q⟩,λ_ _ q=>q,λ_ _ _ q=>q,λ_ ps q=>⟨#[],by rw[q];simp⟩⟩
theorem Un.refl:Un fs ex H H h h:=Un.kept λ_ _ q=>q
theorem Un.laid(k:∀b u,h.get? b=a3 u->h'.get? b=a3 u)(hp:h.objs.size<=a)(hn:H a=a6):Un fs ex H (upd H a o) h h' where
 keep:=λb u q _ _ _=>k b u q
 slot:=λb u q _ _ _=>⟨u.slots,k b u q⟩
 free:=λb u q n _=>by rw[ji (Xa (Xf (xu q) hp))];exact n
 there:=λb u q _=>⟨u,k b u q⟩
 tups:=λb xs q=>by rw[ji (zq q hn)];exact q
 frzs:=λb u xs q=>by rw[ji (zq q hn)];exact q
 tbls:=λb ps q=>⟨#[],by rw[ji (zq q hn),q];simp⟩
theorem Un.write(mu:Mut (H x))(he:e=x\/H e=a3 (.own x))(k:∀b u,b≠e->h.get? b=a3 u->h'.get? b=a3 u)(heo:∃u,h'.get? e=a3 u):Un fs ex H (upd H x o) h h':=by
 have hx:∀b,H b=a6->b≠x:=λb n z=>by subst z;rw[n]at mu;exact mu
 have hb:∀b,H b=a6->b≠e:=λb n z=>by
  subst z;rcases he with r|r
  .exact hx b n r
  .rw[n]at r;cases r
 have hm:∀b u,H b=a3 u->¬Mut (a3 u)->b≠x:=λb u q nm z=>by subst z;rw[q]at mu;exact nm mu
 refine⟨λb u q n _ _=>k b u (hb b n) q,λb u q n _ _=>⟨u.slots,k b u (hb b n) q⟩,λb u q n _=>by rw[ji (hx b n)];exact n,λb u q _=>?_,
  λb xs q=>by rw[ji (hm b _ q λz=>z)];exact q,λb u xs q=>by rw[ji (hm b _ q λz=>z)];exact q,λb ps q=>⟨#[],by rw[ji (hm b _ q λz=>z),q];simp⟩⟩
 by_cases hbe:b=e
 .subst hbe;exact heo
 .exact⟨u,k b u hbe q⟩
end
noncomputable def trk(h:aA)(H:Hp):List aa:=(ar h.objs.size).filter λa=>(H a).isSome
noncomputable def W7(h:aA)(H:Hp):aA:=W.hideAll h (trk h H)
theorem j5k(h:aA)(H:Hp):(W7 h H).objs.size=h.objs.size:=W.hideAll_size _ _
theorem j84{h:aA}{H:Hp}{b:aa}{o:dn}(e:h.get? b=a3 o)(n:H b=a6):(W7 h H).get? b=a3 o :=
 W.hideAll_get _ e λhm=>by have q:(H b).isSome=a7:=(Xl.mp hm).2;rw[n]at q;simp at q
theorem jb5{h:aA}{H:Hp}{b:aa}{o:dn}(e:(W7 h H).get? b=a3 o):h.get? b=a3 o/\H b=a6:=by
 have e':h.get? b=a3 o:=W.of_hideAll (trk h H) e;refine⟨e',?_⟩;cases q:H b with
 |none=>rfl
 |some x =>have hm:b∈trk h H:=Xl.mpr ⟨Xd.mpr (xu e'),by simp[q]⟩;have z:(W7 h H).get? b=a6:=W.hideAll_none (trk h H) hm;rw[z]at e;cases e
noncomputable def jcc(g h:aA)(L:aa):List (aa×dn):=(ar h.objs.size).filterMap λa=>if a=L\/(g.get? a).isSome=a7 then a6 else(h.get? a).map λo=>(a,o)
noncomputable def rest(g h:aA)(L d:aa):List (aa×dn):=(jcc g h L).filter λp=>decide (p.1≠d)
structure Mod(K:k8o)(mg:k8r)(base:aA):Prop where
 kin:K.In base
 glob:base.Ns aq mg
 blt:∃mb,base.Ns dm mb/\∀x:ah,x ≠ "__name__"->mb x=dY x
 nolimit:base.NoLimit
 bm:∃bm ob,mg "__builtins__" = a3 (.ref bm)/\bm≠dm/\base.get? bm=a3 ob/\ob.cls=.type "module"/\ob.dict=a3 dm/\ob.data=.plain
structure Cx where
 prog:au
 w:ax
 K:k8o
 mg:ah->Option a8
 base:aA
 A:az
 N:List ah
 s₀:af
 H₀:Hp
 env:dy
 outer:List dy
 stack:List dy
 ex:List aa
 fn:ah->Bool
 calm:Bool
 pn:List (aa×dn)
 xe:a8->af->Prop
noncomputable def frs(l:List dy):List aa:=l.filterMap (·.frame)
noncomputable abbrev Cx.fs(X:Cx):List aa:=frs X.outer
def Vis(sc:aY)(x:ah):Prop:=sc.names.lookup x=a3 .local\/sc.names.lookup x=a3 .cell\/sc.names.lookup x=a3 .free
def Loc(sc:aY)(x:ah):Prop:=sc.names.lookup x=a3 .local\/sc.names.lookup x=a3 .cell
def Look(env:dy)(h:aA)(m:k8r)(x:ah)(u:a8):Prop :=
 (env.kindOf x=a3 .local/\m x=a3 u)\/((env.kindOf x=a3 .cell\/env.kindOf x=a3 .free)/\∃c,env.cells.lookup x=a3 c/\h.IsCell c (a3 u))
structure Cx.Ok(X:Cx):Prop where
 mod:Mod X.K X.mg X.base
 kind:X.env.scope.kind=.function
 glob:X.env.globals=aq
 blt:X.env.builtins=dm
 above:X.s₀.heap.objs.size<=X.env.locals
 inj:∀x y c,X.env.cells.lookup x=a3 c->X.env.cells.lookup y=a3 c->x=y
 has:∀x,(X.env.kindOf x=a3 .cell\/X.env.kindOf x=a3 .free)->∃c,X.env.cells.lookup x=a3 c
 cab:∀x c,X.fn x=a7->X.env.cells.lookup x=a3 c->X.s₀.heap.objs.size<=c
 hd:X.calm=a7->X.A.handled=a6
 frames:X.A.frames=a3 X.stack
 stk:X.stack=X.outer\/(X.stack=X.env::X.outer/\X.env.frame=a3 X.env.locals)
 exf:∀b∈X.ex,b≠X.env.locals/\∀x c,X.env.cells.lookup x=a3 c->c≠b
 bs:∀b o,X.base.get? b=a3 o->X.s₀.heap.get? b=a3 o/\X.H₀ b=a6
 bsz:X.base.objs.size<=X.s₀.heap.objs.size
 noex:∀b o,X.base.get? b=a3 o->b∉X.ex
 exfs:∀b∈X.ex,b∉X.fs
 funs:X.s₀.heap.FunFrames X.base X.outer
 frf:∀b∈X.fs,X.H₀ b=a6
structure Inv(X:Cx)(pins:k8q)(σ:List (Option V))(H:Hp)(s:af):Prop where
 ok:X.Ok
 os:s.os=X.s₀.os
 bare:dz s.gens
 base:Un X.fs X.ex X.H₀ H X.s₀.heap s.heap
 loc:∃m,s.heap.Ns X.env.locals m/\∀(i:Nat)(x:ah)(v:V),X.N[i]?=a3 x->σ[i]?=a3 (a3 v)->Vis X.env.scope x->∃u,RelV v u/\Look X.env s.heap m x u
 cell:∀x c,X.env.cells.lookup x=a3 c->∃v,s.heap.IsCell c v
 free:H X.env.locals=a6
 freeC:∀x c,X.env.cells.lookup x=a3 c->H c=a6
 pin:∀p∈X.pn++pins,s.heap.get? p.1=a3 p.2/\H p.1=a6/\p.1≠X.env.locals/\p.1∉X.fs/\∀v,p.2.data≠.cell v
 hok:HOk X.prog X.w H s.heap
 len:σ.length=X.N.length
section
variable{X:Cx}{pins:k8q}{σ:List (Option V)}{H H':Hp}{s:af}{h':aA}
theorem Cx.Ok.nofr(ok:X.Ok){b:aa}{o:dn}(e:X.base.get? b=a3 o):b∉X.fs:=λhb=>by have:=(ok.funs.mem hb).1;rw[e]at this;cases this
theorem Inv.bs(I:Inv X pins σ H s):∀b o,X.base.get? b=a3 o->s.heap.get? b=a3 o/\H b=a6:=λb o e =>⟨I.base.keep b o (I.ok.bs b o e).1 (I.ok.bs b o e).2 (I.ok.nofr e) (I.ok.noex b o e),I.base.free b o (I.ok.bs b o e).1 (I.ok.bs b o e).2 (I.ok.noex b o e)⟩
theorem Inv.bk(I:Inv X pins σ H s):∀b o,X.base.get? b=a3 o->s.heap.get? b=a3 o:=λb o e=>(I.bs b o e).1
theorem Inv.mod(I:Inv X pins σ H s):Mod X.K X.mg X.base:=I.ok.mod
theorem Inv.kIn(I:Inv X pins σ H s):X.K.In s.heap:=I.ok.mod.kin.keeps I.bk
theorem Inv.lt(I:Inv X pins σ H s):X.env.locals<s.heap.objs.size:=let ⟨_,hn,_⟩:=I.loc;hn.lt
theorem Inv.sz(I:Inv X pins σ H s):X.s₀.heap.objs.size<=s.heap.objs.size:=Xg I.ok.above (cP I.lt)
theorem Inv.nofs(I:Inv X pins σ H s){a:aa}(h:s.heap.objs.size<=a):a∉X.fs:=λhb=>by obtain⟨_,o,ho,_⟩:=I.ok.funs.mem hb;exact absurd (Xf (xu ho) (Xg I.sz h)) (pq _)
theorem Inv.cne(I:Inv X pins σ H s):∀x c,X.env.cells.lookup x=a3 c->c≠X.env.locals:=λx c e z=>by obtain⟨v,o,ho,hd⟩:=I.cell x c e;obtain⟨m,⟨o',es,ep,ho',hd',_⟩,_⟩:=I.loc;rw[z,ho']at ho;cases ho;rw[hd']at hd;cases hd
theorem Inv.funs(I:Inv X pins σ H s):s.heap.FunFrames X.base X.outer:=by
 have all:∀(l:List dy),(∀b∈frs l,b∈X.fs)->X.s₀.heap.FunFrames X.base l->s.heap.FunFrames X.base l:=by
  intro l;induction l with
  |nil=>intro _ _;trivial
  |cons env r ih =>intro hs hl;obtain⟨hk,⟨L,o,hf,hn,ho,hd⟩,hr⟩:=hl;have hL:L∈X.fs:=hs L (by unfold frs;rw[bT,hf];exact xn);obtain⟨sl,e⟩:=I.base.slot L o ho (I.ok.frf L hL) hL λz=>I.ok.exfs L z hL;exact⟨hk,⟨L,_,hf,hn,e,hd⟩,ih (λb hb=>hs b (by unfold frs;rw[bT,hf];exact km _ hb)) hr⟩
 exact all X.outer (λ_ hb=>hb) I.ok.funs
theorem Inv.stack(I:Inv X pins σ H s):s.heap.FunFrames X.base X.stack:=by
 rcases I.ok.stk with e|⟨e,hf⟩
 .rw[e];exact I.funs
 .rw[e];obtain⟨m,hn,_⟩:=I.loc;refine .cons (by rw[I.ok.kind];decide) hf hn ?_ I.funs;exact Heap.get?_none_of_le (Xg I.ok.bsz I.ok.above)
theorem Inv.stkSub(I:Inv X pins σ H s):∀b∈frs X.stack,b∈X.env.locals::X.fs:=λb hb=>by
 rcases I.ok.stk with e|⟨e,hf⟩
 .rw[e]at hb;exact km _ hb
 .rw[e]at hb;unfold frs at hb;rw[bT,hf]at hb;exact hb
theorem Inv.stkFree(I:Inv X pins σ H s):∀b∈frs X.stack,H b=a6:=λb hb=>by
 rcases xr.mp (I.stkSub b hb)with e|hb
 .rw[e];exact I.free
 .obtain⟨_,o,ho,_⟩:=I.ok.funs.mem hb;exact I.base.free b o ho (I.ok.frf b hb) λz=>I.ok.exfs b z hb
theorem Inv.step{g':Array eX}{t':Nat}{d':Drawn}{ch:List aa}(I:Inv X pins σ H s)
  (hch:∀b∈ch,(b∈X.ex\/X.s₀.heap.objs.size<=b)/\b≠X.env.locals/\(∀x c,X.env.cells.lookup x=a3 c->c≠b)/\∀p∈X.pn++pins,p.1≠b)
  (keep:∀b o,b≠X.env.locals->b∉X.fs->b∉ch->s.heap.get? b=a3 o->H b=a6->h'.get? b=a3 o)
  (slot:∀b o,b≠X.env.locals->b∈X.fs->b∉ch->s.heap.get? b=a3 o->H b=a6->∃sl,h'.get? b=a3 { o with slots:=sl }) (free:∀b o,b∉ch->s.heap.get? b=a3 o->H b=a6->H' b=a6)
  (there:∀b o,b∉ch->s.heap.get? b=a3 o->∃o',h'.get? b=a3 o')
  (tups:∀b xs,H b=a3 (.tup xs)->H' b=a3 (.tup xs)) (frzs:∀b o u,H b=a3 (.frz o u)->H' b=a3 (.frz o u)) (tbls:∀b ps,H b=a3 (.tbl ps)->∃more,H' b=a3 (.tbl (ps++more)))
  (ns:∀m,s.heap.Ns X.env.locals m->h'.Ns X.env.locals m) (hok:HOk X.prog X.w H' h') (hg:dz g') :
  Inv X pins σ H' { s with heap:=h',gens:=g',drawn:=d',toks:=t' }:=by
 have neL:∀b o,X.s₀.heap.get? b=a3 o->b≠X.env.locals:=λb o e=>Xa (Xf (xu e) I.ok.above);have neC:∀b o,X.s₀.heap.get? b=a3 o->b∉X.ex->b∉ch:=λb o e hx hb=>by
  rcases(hch b hb).1 with z|z
  .exact hx z
  .exact absurd (Xf (xu e) z) (pq _)
 have cellK:∀x c,X.env.cells.lookup x=a3 c->∀v,s.heap.IsCell c v->h'.IsCell c v:=λx c e v ⟨o,ho,hd⟩=>by
  have nch:c∉ch:=λz=>(hch c z).2.2.1 x c e rfl;by_cases hc:c∈X.fs
  .obtain⟨sl,q⟩:=slot c o (I.cne x c e) hc nch ho (I.freeC x c e);exact⟨_,q,hd⟩
  .exact⟨o,keep c o (I.cne x c e) hc nch ho (I.freeC x c e),hd⟩
 refine⟨I.ok,I.os,hg,⟨λb o e n hb hx=>?_,λb o e n hb hx=>?_,λb o e n hx=>?_,λb o e hx=>?_,λb xs e=>tups b xs (I.base.tups b xs e),λb o xs e=>frzs b o xs (I.base.frzs b o xs e),λb ps e=>?_⟩,?_,λx c e=>?_,?_,λx c e=>?_,λp hp=>?_,hok,I.len⟩
 .exact keep b o (neL b o e) hb (neC b o e hx) (I.base.keep b o e n hb hx) (I.base.free b o e n hx)
 .obtain⟨sl,e1⟩:=I.base.slot b o e n hb hx;obtain⟨sl',e2⟩:=slot b _ (neL b o e) hb (neC b o e hx) e1 (I.base.free b o e n hx);exact⟨sl',e2⟩
 .obtain⟨o',e1⟩:=I.base.there b o e hx;exact free b o' (neC b o e hx) e1 (I.base.free b o e n hx)
 .obtain⟨o',e1⟩:=I.base.there b o e hx;exact there b o' (neC b o e hx) e1
 .obtain⟨m1,e1⟩:=I.base.tbls b ps e;obtain⟨m2,e2⟩:=tbls b _ e1;exact⟨m1++m2,by rw[e2,Array.append_assoc]⟩
 .obtain⟨m,hn,hl⟩:=I.loc;refine⟨m,ns m hn,λi x v e1 e2 e3=>?_⟩;obtain⟨u,r,l⟩:=hl i x v e1 e2 e3;refine⟨u,r,?_⟩;rcases l with l|⟨k,c,e,z⟩
  .exact .inl l
  .exact .inr ⟨k,c,e,cellK x c e _ z⟩
 .obtain⟨v,z⟩:=I.cell x c e;exact⟨v,cellK x c e v z⟩
 .obtain⟨m,⟨o,_,_,ho,_⟩,_⟩:=I.loc;exact free _ o (λz=>(hch _ z).2.1 rfl) ho I.free
 .obtain⟨v,o,ho,hd⟩:=I.cell x c e;exact free c o (λz=>(hch c z).2.2.1 x c e rfl) ho (I.freeC x c e)
 .obtain⟨e,n,ne,nf,d⟩:=I.pin p hp;have nch:p.1∉ch:=λz=>(hch p.1 z).2.2.2 p hp rfl;exact⟨keep p.1 p.2 ne nf nch e n,free p.1 p.2 nch e n,ne,nf,d⟩
theorem Inv.un{t':Nat}(I:Inv X pins σ H s)(u:Un X.fs [] H H' s.heap h')(hok:HOk X.prog X.w H' h'):Inv X pins σ H' { s with heap:=h',toks:=t' }:=by
 obtain⟨m,⟨o,es,ep,ho,r⟩,_⟩:=id I.loc;obtain⟨sl,hL⟩:=u.any ho I.free (by simp);exact I.step (g':=s.gens) (d':=s.drawn) (ch:=[]) (λ_ z=>nomatch z) (λb o _ hb _ e n=>u.keep b o e n hb (by simp)) (λb o _ hb _ e n=>u.slot b o e n hb (by simp)) (λb o _ e n=>u.free b o e n (by simp)) (λb o _ e=>u.there b o e (by simp)) u.tups u.frzs u.tbls (λm' hm=>by
  obtain⟨o',es',ep',ho',r'⟩:=hm
  rw[ho]at ho';cases ho'
  exact⟨_,es',ep',hL,r'⟩) hok I.bare
theorem Inv.call{g':Array eX}{t':Nat}{d':Drawn}{ch:List aa}(I:Inv X pins σ H s)(u:Un (frs X.stack) ch H H' s.heap h')(hok:HOk X.prog X.w H' h')(hg:dz g')
  (hch:∀b∈ch,(b∈X.ex\/X.s₀.heap.objs.size<=b)/\b≠X.env.locals/\(∀x c,X.env.cells.lookup x=a3 c->c≠b)/\∀p∈X.pn++pins,p.1≠b) :
  Inv X pins σ H' { s with heap:=h',gens:=g',drawn:=d',toks:=t' }:=by
 obtain⟨m,⟨o,es,ep,ho,r⟩,_⟩:=id I.loc;obtain⟨sl,hL⟩:=u.any ho I.free λz=>(hch _ z).2.1 rfl;exact I.step (ch:=ch) hch (λb o hL hb hc e n=>u.keep b o e n (λz=>(xr.mp (I.stkSub b z)).elim hL hb) hc) (λb o _ _ hc e n=>u.any e n hc) (λb o hc e n=>u.free b o e n hc) (λb o hc e=>u.there b o e hc) u.tups u.frzs u.tbls (λm' hm=>by
  obtain⟨o',es',ep',ho',r'⟩:=hm
  rw[ho]at ho';cases ho'
  exact⟨_,es',ep',hL,r'⟩) hok hg
theorem Inv.turned{t':Nat}{it:aa}(I:Inv X pins σ H s)(k:∀b o,b≠it->s.heap.get? b=a3 o->h'.get? b=a3 o)(hn:H it=a6)(hL:it≠X.env.locals)
  (h1:it∈X.ex\/X.s₀.heap.objs.size<=it) (h2:∀x c,X.env.cells.lookup x=a3 c->c≠it) (h3:∀p∈X.pn++pins,p.1≠it):Inv X pins σ H { s with heap:=h',toks:=t' }:=by
 have nit:∀b u,H b=a3 u->b≠it:=λb u e z=>by rw[z,hn]at e;cases e
 refine I.step (g':=s.gens) (d':=s.drawn) (ch:=[it]) (λb hb=>?_) (λb o _ _ hc e _=>k b o (λz=>hc (by simp[z])) e) (λb o _ _ hc e _=>⟨o.slots,k b o (λz=>hc (by simp[z])) e⟩) (λ_ _ _ _ n=>n)
  (λb o hc e=>⟨o,k b o (λz=>hc (by simp[z])) e⟩) (λ_ _ e=>e) (λ_ _ _ e=>e) (λb ps e=>⟨#[],by rw[e];simp⟩) (λm hm=>?_) (λb u e=>?_) I.bare
 .have e:b=it:=by simpa using hb
  subst e;exact⟨h1,hL,h2,h3⟩
 .obtain⟨o,es,ep,ho,r⟩:=hm;exact⟨o,es,ep,k _ o (cz hL) ho,r⟩
 .refine(I.hok b u e).stay (λc v hc q=>k c v ?_ q) (λ_ q=>q) (λ_ _ q=>q) λ_ _ _ q=>q;rcases hc with z|z
  .rw[z];exact nit b u e
  .exact nit c _ z
theorem Inv.tok(I:Inv X pins σ H s)(t:Nat):Inv X pins σ H { s with toks:=t }:=I.un (h':=s.heap) (t':=t) Un.refl I.hok
theorem Inv.kept{t':Nat}(I:Inv X pins σ H s)(k:∀b u,s.heap.get? b=a3 u->h'.get? b=a3 u):Inv X pins σ H { s with heap:=h',toks:=t' }:=I.un (Un.kept k) (I.hok.kept k)
theorem Inv.laid{a:aa}{o:HO}{t':Nat}(I:Inv X pins σ H s)(k:∀b u,s.heap.get? b=a3 u->h'.get? b=a3 u)(hp:s.heap.objs.size<=a)(new:jg X.prog X.w (upd H a o) h' a o) :
  Inv X pins σ (upd H a o) { s with heap:=h',toks:=t' }:=I.un (Un.laid k hp (I.hok.fresh hp)) (I.hok.laid k hp new)
theorem Inv.write{x e:aa}{o:HO}{t':Nat}(I:Inv X pins σ H s)(mu:Mut (H x))(he:e=x\/H e=a3 (.own x))(k:∀b u,b≠e->s.heap.get? b=a3 u->h'.get? b=a3 u)(heo:∃u,h'.get? e=a3 u)
  (new:jg X.prog X.w (upd H x o) h' x o):Inv X pins σ (upd H x o) { s with heap:=h',toks:=t' }:=I.un (Un.write mu he k heo) (I.hok.write mu he k heo new)
theorem Inv.pins_of{pins':k8q}(I:Inv X pins σ H s)(h:∀p∈pins',s.heap.get? p.1=a3 p.2/\H p.1=a6/\p.1≠X.env.locals/\p.1∉X.fs/\∀v,p.2.data≠.cell v):Inv X pins' σ H s :=
 ⟨I.ok,I.os,I.bare,I.base,I.loc,I.cell,I.free,I.freeC,λp hp=>(Pj.mp hp).elim (λz=>I.pin p (T7 _ z)) (h p),I.hok,I.len⟩
theorem j04{N:List ah}(hN:N.Nodup){i j:Nat}{x:ah}(a:N[i]?=a3 x)(b:N[j]?=a3 x):i=j:=by obtain⟨h1,e1⟩:=X7.mp a;obtain⟨h2,e2⟩:=X7.mp b;exact(fh hN).mp (e1.trans e2.symm)
theorem Cv{M:jF}{A:az}{E:k8p}{i:Nat}{x:ah}{v:V}{u:a8}{Q:Unit->af->Prop}(I:Inv X pins σ H s)(hN:X.N.Nodup)(hi:X.N[i]?=a3 x)(hx:Loc X.env.scope x)(r:RelV v u)
  (h:∀s',Inv X pins (σ.set i (a3 v)) H s'->(∃a,cg a s.heap s'.heap/\(a=X.env.locals\/X.env.cells.lookup x=a3 a))->Q () s') (hf:X.fn x=a7\/X.env.scope.names.lookup x=a3 .local:=by first|exact .inl rfl|exact .inr rfl|assumption):ao M A (storeName X.env x u) Q E s:=by
 obtain⟨m,hn,hl⟩:=id I.loc;have hcls:(X.env.scope.kind==.class || (X.env.scope.kind==.module&&X.env.locals != X.env.globals))=a4:=by rw[I.ok.kind];rfl
 have hiσ:i<σ.length:=by rw[I.len];exact(X7.mp hi).1
 have cne:=I.cne;have tracked:∀{a:aa}{h':aA},(∃o,s.heap.get? a=a3 o/\H a=a6)->cg a s.heap h'->HOk X.prog X.w H h':=λ{a h'} ha hs b ob e=>by
  obtain⟨_,_,hfree⟩:=ha;refine(I.hok b ob e).stay (λc w' hc q=>(hs.2 c ?_).trans q) (λ_ q=>q) (λ_ _ q=>q) λ_ _ _ q=>q;rintro rfl;rcases hc with rfl|hc
  .rw[hfree]at e;cases e
  .rw[hfree]at hc;cases hc
 rcases hx with hk|hk
 .refine wpAny_storeName_local hk hn (λh' hn' hs=>?_) hcls;obtain⟨oL,_,_,hoL,_⟩:=id hn;refine h _ ⟨I.ok,I.os,I.bare,⟨λb o e n hb hx=>?_,λb o e n hb hx=>?_,I.base.free,λb o e hx=>?_,I.base.tups,I.base.frzs,I.base.tbls⟩,⟨_,hn',λj y v' e1 e2 e3=>?_⟩,λy c e=>?_,I.free,I.freeC,λp hp=>?_,tracked ⟨oL,hoL,I.free⟩ hs,by simpa using I.len⟩ ⟨_,hs,.inl rfl⟩
  .exact(hs.2 b (Xa (Xf (xu e) I.ok.above))).trans (I.base.keep b o e n hb hx)
  .obtain⟨sl,e1⟩:=I.base.slot b o e n hb hx;exact⟨sl,(hs.2 b (Xa (Xf (xu e) I.ok.above))).trans e1⟩
  .obtain⟨o',e1⟩:=I.base.there b o e hx;exact⟨o',(hs.2 b (Xa (Xf (xu e) I.ok.above))).trans e1⟩
  .by_cases hj:j=i
   .subst hj;rw[hi]at e1;cases e1;rw[gz hiσ]at e2;cases e2;exact⟨u,r,.inl ⟨hk,by simp⟩⟩
   .rw[i8 (cz hj)]at e2;obtain⟨u',r',q⟩:=hl j y v' e1 e2 e3;refine⟨u',r',?_⟩;rcases q with ⟨k,e⟩|⟨k,c,e,z⟩
    .refine .inl ⟨k,?_⟩;have:y≠x:=λe=>hj (j04 hN e1 (e▸hi));simp[this,e]
    .exact .inr ⟨k,c,e,z.sameBut hs (cne y c e)⟩
  .obtain⟨w',z⟩:=I.cell y c e;exact⟨w',z.sameBut hs (cne y c e)⟩
  .obtain⟨e,n,ne,nf,d⟩:=I.pin p hp;exact⟨(hs.2 p.1 ne).trans e,n,ne,nf,d⟩
 .have hfn:X.fn x=a7:=by
   rcases hf with z|z
   .exact z
   .rw[z]at hk;cases hk
  obtain⟨c,hc⟩:=I.ok.has x (.inl hk);obtain⟨w',z⟩:=I.cell x c hc;refine wpAny_storeName_cell I.ok.kind hk hc z (λh' hc' hs=>?_);obtain⟨oc,hoc,hocd⟩:=id z;refine h { s with heap:=h' } ⟨I.ok,I.os,I.bare,⟨λb o e n hb hx=>?_,λb o e n hb hx=>?_,I.base.free,λb o e hx=>?_,I.base.tups,I.base.frzs,I.base.tbls⟩,⟨m,hn.sameBut hs (cz (cne x c hc)),λj y v' e1 e2 e3=>?_⟩,λy c' e=>?_,I.free,I.freeC,λp hp=>?_,tracked ⟨oc,hoc,I.freeC x c hc⟩ hs,by simpa using I.len⟩ ⟨c,hs,.inr hc⟩
  .exact(hs.2 b (Xa (Xf (xu e) (I.ok.cab x c hfn hc)))).trans (I.base.keep b o e n hb hx)
  .obtain⟨sl,e1⟩:=I.base.slot b o e n hb hx;exact⟨sl,(hs.2 b (Xa (Xf (xu e) (I.ok.cab x c hfn hc)))).trans e1⟩
  .obtain⟨o',e1⟩:=I.base.there b o e hx;exact⟨o',(hs.2 b (Xa (Xf (xu e) (I.ok.cab x c hfn hc)))).trans e1⟩
  .by_cases hj:j=i
   .subst hj;rw[hi]at e1;cases e1;rw[gz hiσ]at e2;cases e2;exact⟨u,r,.inr ⟨.inl hk,c,hc,hc'⟩⟩
   .rw[i8 (cz hj)]at e2;obtain⟨u',r',q⟩:=hl j y v' e1 e2 e3;refine⟨u',r',?_⟩;rcases q with q|⟨k,c',e,z'⟩
    .exact .inl q
    .refine .inr ⟨k,c',e,z'.sameBut hs ?_⟩;rintro rfl;exact hj (j04 hN e1 (I.ok.inj _ _ _ e hc▸hi))
  .by_cases hcc:c'=c
   .subst hcc;exact⟨_,hc'⟩
   .obtain⟨w2,z2⟩:=I.cell y c' e;exact⟨w2,z2.sameBut hs hcc⟩
  .obtain⟨e,n,ne,nf,d⟩:=I.pin p hp;refine⟨(hs.2 p.1 ?_).trans e,n,ne,nf,d⟩;intro q;rw[q,hoc]at e;have q':oc=p.2:=av e;exact d w' (by rw[<-q'];exact hocd)
theorem Iv{M:jF}{A:az}{E:k8p}{i:Nat}{x:ah}{v:V}{u:a8}{Q:Unit->af->Prop}(I:Inv X pins σ H s)(hN:X.N.Nodup)(hi:X.N[i]?=a3 x)(hx:Loc X.env.scope x)(r:RelV v u)
  (h:∀s',Inv X pins (σ.set i (a3 v)) H s'->Q () s') (hf:X.fn x=a7\/X.env.scope.names.lookup x=a3 .local:=by first|exact .inl rfl|exact .inr rfl|assumption):ao M A (storeName X.env x u) Q E s :=
 Cv I hN hi hx r (λs' I' _=>h s' I') hf
theorem Inv.call'{s':af}{ch:List aa}(I:Inv X pins σ H s)(ho:s'.os=s.os)(u:Un (frs X.stack) ch H H' s.heap s'.heap)(hok:HOk X.prog X.w H' s'.heap)(hg:dz s'.gens)
  (hch:∀b∈ch,(b∈X.ex\/X.s₀.heap.objs.size<=b)/\b≠X.env.locals/\(∀x c,X.env.cells.lookup x=a3 c->c≠b)/\∀p∈X.pn++pins,p.1≠b):Inv X pins σ H' s':=by
 obtain⟨h',g',d',t',o'⟩:=s';have e:o'=s.os:=ho;subst e;exact I.call (g':=g') (t':=t') (d':=d') u hok hg hch
end
abbrev XK:=a8->Option aa->Hp->Prop
noncomputable abbrev St:=List (Option V)
abbrev VK:=V->Hp->Prop
abbrev TE:=St->Hp->VK->Prop
abbrev TT:=St->Hp->(Bool->Hp->Prop)->Prop
abbrev TA:=St->Hp->(List V->Hp->Prop)->Prop
structure Ends where
 nx:St->Hp->Prop
 rt:VK
 bk:St->Hp->Prop:=λ_ _=>False
 ct:St->Hp->Prop:=λ_ _=>False
abbrev TS:=Ends->St->Hp->Prop
def EP(X:Cx)(pins:k8q)(σ:St)(Q:VK)(u:a8)(s':af):Prop:=∃v H',Inv X pins σ H' s'/\RelV v u/\Q v H'
def TP(X:Cx)(pins:k8q)(σ:St)(Q:Bool->Hp->Prop)(b:Bool)(s':af):Prop:=∃H',Inv X pins σ H' s'/\Q b H'
def AP(X:Cx)(pins:k8q)(σ:St)(Q:List V->Hp->Prop)(us:List a8)(s':af):Prop:=∃vs H',Inv X pins σ H' s'/\Vals vs us/\Q vs H'
def Ext(X:Cx)(H1 H2:Hp)(s':af):Prop:=∀b,H2 b=H1 b\/∃x o v,X.env.cells.lookup x=a3 b/\X.fn x=a7/\H2 b=a3 (.frz o (.own 0))/\s'.heap.get? b=a3 o/\o.data=.cell v
theorem Ext.refl{X:Cx}{H:Hp}{s':af}:Ext X H H s':=λ_=>.inl rfl
def SP(X:Cx)(pins:k8q)(D:Ends)(f:Flow)(s':af):Prop :=
 match f with
 |.next=>∃σ' H',Inv X pins σ' H' s'/\D.nx σ' H'
 |.brk=>∃σ' H',Inv X pins σ' H' s'/\D.bk σ' H'
 |.cont=>∃σ' H',Inv X pins σ' H' s'/\D.ct σ' H'
 |.ret u=>∃v σ' H' H2,Inv X pins σ' H' s'/\RelV v u/\Ext X H' H2 s'/\D.rt v H2
def PE(X:Cx)(e:aj)(t:TE):Prop :=
 ∀(pins:k8q) (s:af) (σ:St) (H:Hp) (Q:VK),Inv X pins σ H s->t σ H Q->ao (aw X.prog X.w) X.A (ay e X.env) (EP X pins σ Q) X.xe s
def PT(X:Cx)(e:aj)(t:TT):Prop :=
 ∀(pins:k8q) (s:af) (σ:St) (H:Hp) (Q:Bool->Hp->Prop),Inv X pins σ H s->t σ H Q->ao (aw X.prog X.w) X.A (fw e X.env (ay e X.env)) (TP X pins σ Q) X.xe s
def PW(X:Cx)(e:aj)(t:TT):Prop :=
 ∀(whole:lJ a8)(pins:k8q) (s:af) (σ:St) (H:Hp) (Q:Bool->Hp->Prop),Inv X pins σ H s->t σ H Q->ao (aw X.prog X.w) X.A (fw e X.env whole) (TP X pins σ Q) X.xe s
def PA(X:Cx)(es:List aj)(t:TA):Prop :=
 ∀(pos:aK)(pins:k8q) (s:af) (σ:St) (H:Hp) (Q:List V->Hp->Prop),Inv X pins σ H s->t σ H Q->ao (aw X.prog X.w) X.A (iH (aO pos (a9 es X.env))) (AP X pins σ Q) X.xe s
def PS(X:Cx)(st:aX)(t:TS):Prop :=
 ∀(pins:k8q) (s:af) (σ:St) (H:Hp) (D:Ends),Inv X pins σ H s->t D σ H->ao (aw X.prog X.w) X.A (exec st X.env) (SP X pins D) X.xe s
def PSs(X:Cx)(st:List aX)(t:TS):Prop :=
 ∀(pins:k8q) (s:af) (σ:St) (H:Hp) (D:Ends),Inv X pins σ H s->t D σ H->ao (aw X.prog X.w) X.A (execs st X.env) (SP X pins D) X.xe s
theorem thn{α:Type}{t:lJ α}{Q Q':α->af->Prop}{M:jF}{A:az}{E:k8p}{s:af}(h:ao M A t Q E s)(hQ:∀a s,Q a s->Q' a s):ao M A t Q' E s:=bg h hQ λ_ _ x=>x
section
variable{X:Cx}
theorem bin{a b:aj}{ta tb:TE}(ha:PE X a ta)(hb:PE X b tb){pins:k8q}{s:af}{σ:St}{H:Hp}{R:V->V->Hp->Prop}(I:Inv X pins σ H s)(h:ta σ H λx H1=>tb σ H1 λy H2=>R x y H2)
  {α:Type} {Q:α->af->Prop} {f:a8->a8->lJ α}
  (hf:∀v u s2 x y H2,Inv X pins σ H2 s2->RelV x v->RelV y u->R x y H2->ao (aw X.prog X.w) X.A (f v u) Q X.xe s2) :
  ao (aw X.prog X.w) X.A (ay a X.env) (λv s₁=>ao (aw X.prog X.w) X.A (ay b X.env) (λu s₂=>ao (aw X.prog X.w) X.A (f v u) Q X.xe s₂) X.xe s₁) X.xe s:=by
 refine thn (ha pins s σ H _ I h) λv s1 ⟨x,H1,I1,r1,q1⟩=>?_;refine thn (hb pins s1 σ H1 _ I1 q1) λu s2 ⟨y,H2,I2,r2,q2⟩=>?_;exact hf v u s2 x y H2 I2 r1 r2 q2
def jiu(i:Nat):TE:=λσ H Q=>∃v,σ[i]?=a3 (a3 v)/\Q v H
def tC(v:V):TE:=λ_ H Q=>Q v H
theorem Z1 {i:Nat} {x:ah} {pos:aK} (hN:X.N[i]?=a3 x) (hv:Vis X.env.scope x) (hd:(x==k8s)=a4:=by decide) (hcd:(x==k8t)=a4:=by decide):PE X (.Name x pos) (jiu i):=by
 intro pins s σ H Q I h;obtain⟨v,e,h⟩:=h;obtain⟨m,hn,hl⟩:=I.loc;obtain⟨u,r,l⟩:=hl i x v hN e hv;have fin:EP X pins σ Q u s:=⟨v,H,I,r,h⟩
 rcases l with ⟨hk,hm⟩|⟨hk,c,hc,hcell⟩
 .exact jV (wpAny_loadName_local I.ok.kind hk hn hm fin) hd
 .rcases hk with hk|hk
  .exact jV (wpAny_loadName_cell I.ok.kind hk hc hcell fin) hd
  .exact jV (wpAny_loadName_free I.ok.kind hk hc hcell fin hcd) hd
theorem jdq{i j pos}:PE X (.Constant (.int i) j pos) (tC (.int i)):=λ_ _ _ H _ I h=>wpAny_Constant_int ⟨.int i,H,I.tok _,⟨_,rfl⟩,h⟩
theorem jhc{b j pos}:PE X (.Constant (.bool b) j pos) (tC (.bl b)):=λ_ _ _ H _ I h=>Constant_bool ⟨.bl b,H,I,rfl,h⟩
theorem j00{j pos}:PE X (.Constant .none j pos) (tC .non):=λ_ _ _ H _ I h=>lT ⟨.non,H,I,rfl,h⟩
theorem j4t{x j pos}:PE X (.Constant (.str x) j pos) (tC (.str x)):=λ_ _ _ H _ I h=>Calls.Constant_str ⟨.str x,H,I.tok _,⟨_,rfl⟩,h⟩
def Gl(X:Cx)(x:ah):Prop:=X.env.kindOf x=a3 .globalImplicit
theorem Uv{E:k8p}{pins:k8q}{s:af}{σ:St}{H:Hp}{x:ah}{u:a8}{pos:aK}{Q:k8p}(I:Inv X pins σ H s)(hg:Gl X x)(hm:X.mg x=a3 u)(h:Q u s)
  (hd:(x==k8s)=a4:=by decide):ao (aw X.prog X.w) X.A (ay (.Name x pos) X.env) Q E s :=
 fH I.ok.kind hg (Calls.loadGlobal_global (by rw[I.ok.glob];exact I.mod.glob.keeps I.bk) hm h) hd
theorem Z2{E:k8p}{pins:k8q}{s:af}{σ:St}{H:Hp}{x:ah}{u:a8}{pos:aK}{Q:k8p}(I:Inv X pins σ H s)(hg:Gl X x)(hm:X.mg x=a6)(hv:dY x=a3 u)(h:Q u s)
  (hn:x ≠ "__name__":=by decide) (hd:(x==k8s)=a4:=by decide):ao (aw X.prog X.w) X.A (ay (.Name x pos) X.env) Q E s:=by
 obtain⟨mb,h1,h2⟩:=I.mod.blt;exact fH I.ok.kind hg (Calls.loadGlobal_builtin (by rw[I.ok.glob];exact I.mod.glob.keeps I.bk) hm (by rw[I.ok.blt];exact h1.keeps I.bk) ((h2 x hn).trans hv) h) hd
theorem jaz {x:ah} {v:V} {u:a8} {pos:aK} (hg:Gl X x) (hm:X.mg x=a3 u) (r:RelV v u) (hd:(x==k8s)=a4:=by decide):PE X (.Name x pos) (tC v) :=
 λ_ _ _ H _ I h=>Uv I hg hm ⟨v,H,I,r,h⟩ hd
variable{a b:aj}{ta tb:TE}{pos:aK}
def PC(X:Cx)(op:gj)(a b:aj)(t:TE):Prop :=
 ∀(pins:k8q) (s:af) (σ:St) (H:Hp) (Q:VK),Inv X pins σ H s->t σ H Q ->
  ao (aw X.prog X.w) X.A (ay a X.env) (λv s₁=>ao (aw X.prog X.w) X.A (ay b X.env) (λu s₂=>ao (aw X.prog X.w) X.A (aL op v u) (EP X pins σ Q) X.xe s₂) X.xe s₁) X.xe s
theorem j7n(b:aj){op:gj}(h:op≠.In)(h2:op≠.NotIn):aF op b=a4:=by
 have e1:(op==CmpOp.In)=a4:=by cases op<;>first|rfl|exact absurd rfl h
 have e2:(op==CmpOp.NotIn)=a4:=by cases op<;>first|rfl|exact absurd rfl h2
 cases b<;>simp[aF,e1,e2]
def jj2(ta:TE):TE:=λσ H Q=>ta σ H λx H1=>Q (.bl (decide (x=.non))) H1
theorem RelV.none_iff{x:V}{v:a8}(r:RelV x v):(v==aP)=decide (x=.non):=by
 cases x with
 |non=>cases r;rfl
 |bl _=>cases r;rfl
 |int _=>obtain⟨t,rfl⟩:=r;rfl
 |str _=>obtain⟨t,rfl⟩:=r;rfl
 |byt _=>obtain⟨t,rfl⟩:=r;rfl
 |flt _=>obtain⟨t,rfl⟩:=r;rfl
 |ref _=>cases r;rfl
 |ty _=>cases r;rfl
theorem jds{j pos'}(ha:PE X a ta):PC X .Is a (.Constant .none j pos') (jj2 ta):=by intro pins s σ H Q I h;refine thn (ha pins s σ H _ I h) λv s1 ⟨x,H1,I1,r1,q1⟩=>?_;exact lT (is_none_gen ⟨.bl _,H1,I1,by rw[r1.none_iff];rfl,q1⟩)
def tB(t:TE):TT:=λσ H Q=>t σ H λx H1=>∃c,x=.bl c/\Q c H1
theorem jdj{op:gj}{t:TE}(h:PC X op a b t)(h1:aF op b=a4:=by first|exact j7n _ (by decide) (by decide)|rfl):PT X (.Compare a [op] [b] pos) (tB t):=by intro pins s σ H Q I hw;refine iY (thn (h pins s σ H _ I hw) λv s1 h1=>thn h1 λu s2 h2=>thn h2 λc s3 ⟨x,H1,I1,r1,q1⟩=>?_) h1;obtain⟨d,rfl,q⟩:=q1;cases r1;exact aV ⟨H1,I1,q⟩
theorem jdh{e:aj}{t:TE}(h:PE X e t)(he:∀whole,fw e X.env whole=(do let v <-whole;ko e.pos;iK [v] (truthy v)):=by intro _;rfl):PT X e (tB t):=by intro pins s σ H Q I hw;refine isTrue_plain (thn (h pins s σ H _ I hw) λv s1 ⟨x,H1,I1,r1,q1⟩=>?_) (he _);obtain⟨d,rfl,q⟩:=q1;cases r1;exact aV ⟨H1,I1,q⟩
variable{tA tB':TT}{rest:List aj}
def tOr(t u:TT):TT:=λσ H Q=>t σ H λc H1=>if c=a7 then Q a7 H1 else u σ H1 Q
def jiy(t:TT):TT:=λσ H Q=>t σ H λc H1=>Q (!c) H1
theorem jdg(ha:PT X a tA):PW X (.BoolOp .Or [a] pos) tA:=by
 intro wh pins s σ H Q I h;refine isTrue_or (thn (ha pins s σ H Q I h) λc s1 e=>?_);cases c with
 |false=>exact isTrue_or_nil e
 |true=>exact e
theorem jh9(ha:PT X a tA)(hb:PW X (.BoolOp .Or (b::rest) pos) tB'):PW X (.BoolOp .Or (a::b::rest) pos) (tOr tA tB'):=by
 intro wh pins s σ H Q I h;refine isTrue_or (thn (ha pins s σ H _ I h) λc s1 ⟨H1,I1,q1⟩=>?_);cases c with
 |true=>exact⟨H1,I1,q1⟩
 |false=>exact hb wh pins s1 σ H1 Q I1 q1
theorem jdi(ha:PT X a tA):PT X (.UnaryOp .Not a pos) (jiy tA):=by intro pins s σ H Q I h;exact isTrue_not (ha pins s σ H (λc H1=>Q (!c) H1) I h)
def jgv(ta tb:TE):TE:=λσ H Q=>ta σ H λx H1=>∃c,x=.bl c/\if c=a7 then tb σ H1 Q else Q (.bl a4) H1
def jgq(ta:TE):TE:=λσ H Q=>ta σ H λx H1=>∃c,x=.bl c/\Q (.bl (!c)) H1
theorem j4u{op}{t:TE}(h:PE X a t):PE X (.BoolOp op [a] pos) t:=λpins s σ H Q I hw=>BoolOp_one (h pins s σ H Q I hw)
theorem jdr(ha:PE X a ta)(hb:PE X (.BoolOp .And (b::rest) pos) tb):PE X (.BoolOp .And (a::b::rest) pos) (jgv ta tb):=by
 intro pins s σ H Q I h;refine BoolOp_and (thn (ha pins s σ H _ I h) λv s1 ⟨x,H1,I1,r1,q1⟩=>?_);obtain⟨c,rfl,q1⟩:=q1;cases r1;refine aV ?_;cases c with
 |true=>exact hb pins s1 σ H1 Q I1 q1
 |false=>exact⟨.bl a4,H1,I1,rfl,q1⟩
theorem jdo(ha:PE X a ta):PE X (.UnaryOp .Not a pos) (jgq ta):=by intro pins s σ H Q I h;refine UnaryOp_ (thn (ha pins s σ H _ I h) λv s1 ⟨x,H1,I1,r1,q1⟩=>?_);obtain⟨c,rfl,q1⟩:=q1;cases r1;exact not_of (aV ⟨.bl (!c),H1,I1,rfl,q1⟩)
def tIf(t:TT)(ta tb:TE):TE:=λσ H Q=>t σ H λc H1=>if c=a7 then ta σ H1 Q else tb σ H1 Q
theorem j7h{c:aj}(hc:PT X c tA)(ha:PE X a ta)(hb:PE X b tb):PE X (.IfExp c a b pos) (tIf tA ta tb):=by
 intro pins s σ H Q I h;refine wpAny_IfExp (thn (hc pins s σ H _ I h) λd s1 ⟨H1,I1,q1⟩=>?_);cases d with
 |true=>exact ha pins s1 σ H1 Q I1 q1
 |false=>exact hb pins s1 σ H1 Q I1 q1
end
def SqL(K:k8o)(H:Hp)(a:aa)(xs:List V):Prop :=
 Rd H a (.lst xs) \/
  ∃(o:dn)(its:Array a8)(n:Nat),K.lookup a=a3 o/\o.cls=.type "list"/\o.dict=a6/\o.data=.seq its n/\its.size<=ak/\Vals xs its.toList
def SqT(K:k8o)(H:Hp)(a:aa)(xs:List V):Prop :=
 Rd H a (.tup xs) \/
  ∃(o:dn)(its:Array a8)(n:Nat),K.lookup a=a3 o/\o.cls=.type "tuple"/\o.dict=a6/\o.data=.seq its n/\its.size<=ak/\Vals xs its.toList
noncomputable def jjs:a8->Option V
 |.none=>a3 .non
 |.bool b=>a3 (.bl b)
 |.int i _=>a3 (.int i)
 |.str x _=>a3 (.str x)
 |.bytes b _=>a3 (.byt b)
 |.float b _=>a3 (.flt b)
 |.ref a=>a3 (.ref a)
 |.type n=>a3 (.ty n)
 |_=>a6
theorem RelV.abs{x:V}{u:a8}(r:RelV x u):jjs u=a3 x:=by
 cases x with
 |non=>cases r;rfl
 |bl _=>cases r;rfl
 |int _=>obtain⟨t,rfl⟩:=r;rfl
 |str _=>obtain⟨t,rfl⟩:=r;rfl
 |byt _=>obtain⟨t,rfl⟩:=r;rfl
 |flt _=>obtain⟨t,rfl⟩:=r;rfl
 |ref _=>cases r;rfl
 |ty _=>cases r;rfl
theorem RelV.inj{x y:V}{u:a8}(r:RelV x u)(q:RelV y u):x=y:=av (r.abs.symm.trans q.abs)
theorem Vals.inj:∀{xs ys:List V}{us:List a8},Vals xs us->Vals ys us->xs=ys
 |_,_,_,.nil,.nil=>rfl
 |_,_,_,.cons r t,.cons r' t'=>by rw[r.inj r',Vals.inj t t']
section
variable{X:Cx}{pins:k8q}{σ:St}{H:Hp}{s:af}{a:aa}{xs ys:List V}
theorem Inv.list(I:Inv X pins σ H s)(h:SqL X.K H a xs):∃its:List a8,Vals xs its/\PlainL s.heap a its.toArray/\xs.length<=ak:=by
 rcases h with h|⟨o,its,n,hk,hc,hd,hs,hz,r⟩
 .obtain⟨z,its,n,r,e⟩:=h.ok I.hok;exact⟨its,r,⟨_,n,e,rfl,rfl,rfl⟩,z⟩
 .refine⟨its.toList,r,⟨o,n,I.kIn a o hk,hc,hd,by simpa using hs⟩,?_⟩;have e:=r.length;simp only[cG]at e;omega
theorem Inv.tuple(I:Inv X pins σ H s)(h:SqT X.K H a xs):∃its:List a8,Vals xs its/\gR s.heap a its.toArray/\xs.length<=ak:=by
 rcases h with h|⟨o,its,n,hk,hc,hnd,hs,hz,r⟩
 .obtain⟨z,its,r,p,_⟩:=h.ok I.hok;exact⟨its,r,p,z⟩
 .refine⟨its.toList,r,⟨o,I.kIn a o hk,hc,n,by simpa using hs⟩,?_⟩;have e:=r.length;simp only[cG]at e;omega
theorem Inv.tupD(I:Inv X pins σ H s)(h:SqT X.K H a xs):Zx s.heap a:=by
 rcases h with h|⟨o,its,n,hk,hc,hnd,hs,hz,r⟩
 .obtain⟨z,its,r,p,q⟩:=h.ok I.hok;exact q
 .intro o' e;rw[I.kIn a o hk]at e;cases e;exact hnd
theorem Inv.list_inj(I:Inv X pins σ H s)(h:SqL X.K H a xs)(h':SqL X.K H a ys):xs=ys:=by
 obtain⟨its,r,⟨o,n,e,_,_,d⟩,_⟩:=I.list h;obtain⟨its',r',⟨o',n',e',_,_,d'⟩,_⟩:=I.list h';rw[e]at e';cases e';rw[d]at d';injection d' with d1 _;have:its=its':=by simpa using congrArg ka d1
 subst this;exact r.inj r'
theorem Inv.tuple_inj(I:Inv X pins σ H s)(h:SqT X.K H a xs)(h':SqT X.K H a ys):xs=ys:=by
 obtain⟨its,r,⟨o,e,_,n,d⟩,_⟩:=I.tuple h;obtain⟨its',r',⟨o',e',_,n',d'⟩,_⟩:=I.tuple h';rw[e]at e';cases e';rw[d]at d';injection d' with d1 _;have:its=its':=by simpa using congrArg ka d1
 subst this;exact r.inj r'
end
noncomputable abbrev Cx.wish(X:Cx)(E:k8p):Cx:={ X with xe:=E }
noncomputable abbrev Cx.nox(X:Cx):Cx:=X.wish λ_ _=>False
theorem Cx.Ok.wish{X:Cx}(ok:X.Ok)(E:k8p):(X.wish E).Ok :=
 ⟨ok.mod,ok.kind,ok.glob,ok.blt,ok.above,ok.inj,ok.has,ok.cab,ok.hd,ok.frames,ok.stk,ok.exf,ok.bs,ok.bsz,ok.noex,ok.exfs,ok.funs,ok.frf⟩
theorem Cx.Ok.unwish{X:Cx}{E:k8p}(ok:(X.wish E).Ok):X.Ok :=
 ⟨ok.mod,ok.kind,ok.glob,ok.blt,ok.above,ok.inj,ok.has,ok.cab,ok.hd,ok.frames,ok.stk,ok.exf,ok.bs,ok.bsz,ok.noex,ok.exfs,ok.funs,ok.frf⟩
section
variable{X:Cx}{pins:k8q}{σ:St}{H:Hp}{s:af}{E:k8p}
theorem Inv.wish(I:Inv X pins σ H s)(E:k8p):Inv (X.wish E) pins σ H s:=⟨I.ok.wish E,I.os,I.bare,I.base,I.loc,I.cell,I.free,I.freeC,I.pin,I.hok,I.len⟩
theorem Inv.unwish(I:Inv (X.wish E) pins σ H s):Inv X pins σ H s:=⟨I.ok.unwish,I.os,I.bare,I.base,I.loc,I.cell,I.free,I.freeC,I.pin,I.hok,I.len⟩
theorem SP.unwish{D:Ends}{f:Flow}{s':af}(h:SP (X.wish E) pins D f s'):SP X pins D f s':=by
 cases f with
 |next=>obtain⟨σ',H',I,q⟩:=h;exact⟨σ',H',I.unwish,q⟩
 |brk=>obtain⟨σ',H',I,q⟩:=h;exact⟨σ',H',I.unwish,q⟩
 |cont=>obtain⟨σ',H',I,q⟩:=h;exact⟨σ',H',I.unwish,q⟩
 |ret u=>obtain⟨v,σ',H',H2,I,r,x,q⟩:=h;exact⟨v,σ',H',H2,I.unwish,r,x,q⟩
theorem PSs.nox{st:List aX}{t:TS}(h:PSs X.nox st t):PSs X st t:=λpins s σ H D I hw =>bg (h pins s σ H D (I.wish _) hw) (λ_ _ q=>q.unwish) λ_ _ z=>b7 z
end
section
variable{X:Cx}{st:aX}{rest:List aX}{t u:TS}{e:aj}{te:TE}{pos:aK}
def jgr:TS:=λD σ H=>D.nx σ H
def jiw(t u:TS):TS:=λD σ H=>t { D with nx:=u D } σ H
theorem jat:PSs X [] jgr:=λ_ _ σ H _ I h=>gr ⟨σ,H,I,h⟩
theorem W3(h1:PS X st t)(h2:PSs X rest u):PSs X (st::rest) (jiw t u):=by
 intro pins s σ H D I h;refine kL (thn (h1 pins s σ H { D with nx:=u D } I h) λf s1 q=>?_);cases f with
 |next =>obtain⟨σ',H',I',q⟩:=q;exact h2 pins s1 σ' H' D I' q
 |ret v=>exact q
 |brk=>exact q
 |cont=>exact q
theorem j1w(h1:PS X st t):PSs X [st] t:=by
 intro pins s σ H D I h;refine kL (thn (h1 pins s σ H D I h) λf s1 q=>?_);cases f with
 |next=>exact gr q
 |ret v=>exact q
 |brk=>exact q
 |cont=>exact q
theorem Inv.quiet{pins:k8q}{σ:St}{H:Hp}{s:af}(I:Inv X pins σ H s):interactive X.env=a4:=by simp[interactive,I.ok.kind]
def jgs(te:TE):TS:=λD σ H=>te σ H λ_ H1=>D.nx σ H1
theorem M8(he:PE X e te)(hs:aQ e a6 pos.line X.env=pure a4:=by rfl):PS X (.Expr e pos) (jgs te):=by intro pins s σ H D I h;exact wpAny_Expr_any (thn (he pins s σ H _ I h) λv s1 ⟨x,H1,I1,r1,q1⟩=>⟨σ,H1,I1,q1⟩) I.quiet hs
def jix(te:TE):TS:=λD σ H=>te σ H D.rt
theorem Wv(he:PE X e te):PS X (.Return (a3 e) pos) (jix te):=by intro pins s σ H D I h;exact kn (thn (he pins s σ H _ I h) λv s1 ⟨x,H1,I1,r1,q1⟩=>⟨x,σ,H1,H1,I1,r1,.refl,q1⟩)
def jj3(c:TT)(t u:TS):TS:=λD σ H=>c σ H λb H1=>if b=a7 then t D σ H1 else u D σ H1
theorem jha{c:aj}{a b:List aX}{tc:TT}(hc:PT X c tc)(ha:PSs X a t)(hb:PSs X b u):PS X (.If c a b pos) (jj3 tc t u):=by
 intro pins s σ H D I h;refine wpAny_If (thn (hc pins s σ H _ I h) λd s1 ⟨H1,I1,q1⟩=>?_);cases d with
 |true=>exact ha pins s1 σ H1 D I1 q1
 |false=>exact hb pins s1 σ H1 D I1 q1
end
abbrev TG:=V->St->Hp->(St->Hp->Prop)->Prop
abbrev TGs:=List V->St->Hp->(St->Hp->Prop)->Prop
def PG(X:Cx)(target:aj)(t:TG):Prop :=
 ∀(pins:k8q) (s:af) (σ:St) (H:Hp) (v:V) (u:a8) (Q:St->Hp->Prop),Inv X pins σ H s->RelV v u->t v σ H Q ->
  ao (aw X.prog X.w) X.A (eU target X.env u) (λ_ s'=>∃σ' H',Inv X pins σ' H' s'/\Q σ' H') X.xe s
def PGs(X:Cx)(ts:List aj)(t:TGs):Prop :=
 ∀(pins:k8q) (s:af) (σ:St) (H:Hp) (vs:List V) (us:List a8) (Q:St->Hp->Prop),Inv X pins σ H s->Vals vs us->t vs σ H Q ->
  ao (aw X.prog X.w) X.A (assignInOrder ((bC ts X.env).map (·.2)) us) (λ_ s'=>∃σ' H',Inv X pins σ' H' s'/\Q σ' H') X.xe s
section
variable{X:Cx}{pos:aK}
def j9q(i:Nat):TG:=λv σ H Q=>Q (σ.set i (a3 v)) H
theorem Mg{i:Nat}{x:ah}(hN:X.N.Nodup)(hi:X.N[i]?=a3 x)(hx:Loc X.env.scope x)(hf:X.fn x=a7\/X.env.scope.names.lookup x=a3 .local:=by first|exact .inl rfl|exact .inr rfl|assumption):PG X (.Name x pos) (j9q i):=by intro pins s σ H v u Q I r h;exact ki (Iv I hN hi hx r (λs' I'=>⟨_,H,I',h⟩) hf)
def jjk:TGs:=λvs σ H Q=>vs=[]/\Q σ H
def jhy(t:TG)(u:TGs):TGs:=λvs σ H Q=>∃v r,vs=v::r/\t v σ H λσ' H'=>u r σ' H' Q
theorem jay:PGs X [] jjk:=by intro pins s σ H vs us Q I r h;obtain⟨e,h⟩:=h;subst e;cases r;exact assignInOrder_nil ⟨σ,H,I,h⟩
theorem Ez{e:aj}{es:List aj}{t:TG}{u:TGs}(h1:PG X e t)(h2:PGs X es u)
  (hs:(bC (e::es) X.env).map (·.2)=eU e X.env::(bC es X.env).map (·.2):=by rfl):PGs X (e::es) (jhy t u):=by
 intro pins s σ H vs us Q I r h;obtain⟨v,vr,e1,h⟩:=h;subst e1;cases r with
 |cons r rr =>rw[hs];refine assignInOrder_cons (thn (h1 pins s σ H _ _ _ I r h) λ_ s1 ⟨σ1,H1,I1,q1⟩=>?_);exact h2 pins s1 σ1 H1 _ _ Q I1 rr q1
def jjj(K:k8o)(n:Nat)(t:TGs):TG:=λv σ H Q=>∃a xs,v=.ref a/\SqT K H a xs/\xs.length=n/\t xs σ H Q
theorem jdm{es:List aj}{k:Nat}{t:TGs}{n:Nat}(hc:X.calm=a7)(h:PGs X es t)
  (hn:(bC es X.env).length=n:=by rfl) (hst:(bC es X.env).findIdx? (·.1)=a6:=by rfl):PG X (.Tuple es k pos) (jjj X.K n t):=by
 intro pins s σ H v u Q I r hw;obtain⟨a,xs,e1,hq,hl,hw⟩:=hw;subst e1;cases r;obtain⟨its,rv,ht,hz⟩:=I.tuple hq;refine assign_Tuple_tuple (I.ok.hd hc) ht (by simp[hn,<-hl,rv.length]) hst λh' hx=>?_;have I1:Inv X pins σ H { s with heap:=h' }:=I.kept (t':=s.toks) λb o e=>hx b o (Xa (xu e)) e;exact h pins _ σ H xs _ Q I1 (by simpa using rv) hw
def jj5(te:TE)(g:TG):TS:=λD σ H=>te σ H λx H1=>g x σ H1 D.nx
theorem Ut{i:Nat}{x:ah}{e:aj}{te:TE}{pos':aK}(hN:X.N.Nodup)(hi:X.N[i]?=a3 x)(hx:Loc X.env.scope x)(he:PE X e te)(hs:aQ e (a3 (.Name x pos')) pos.line X.env=pure a4:=by rfl)(hf:X.fn x=a7\/X.env.scope.names.lookup x=a3 .local:=by first|exact .inl rfl|exact .inr rfl|assumption) :
  PS X (.Assign [.Name x pos'] e pos) (jj5 te (j9q i)):=by
 intro pins s σ H D I h;refine wpAny_Assign_Name (thn (he pins s σ H _ I h) λv s1 ⟨y,H1,I1,r1,q1⟩=>?_) hs;exact Iv I1 hN hi hx r1 (λs2 I2=>⟨_,H1,I2,q1⟩) hf
end
section
variable{X:Cx}{pos:aK}
end
structure It where
 go:Nat->Hp->Prop
 yld:Nat->Hp->V->Hp->Prop
 stop:Nat->Hp->Prop
def Z0(X:Cx)(pins:k8q)(H:Hp)(b:aa):Prop :=
 H b=a6/\b≠X.env.locals/\b∉X.fs/\(b∈X.ex\/X.s₀.heap.objs.size<=b)/\(∀x c,X.env.cells.lookup x=a3 c->c≠b)/\∀p∈X.pn++pins,p.1≠b
theorem Inv.fpOk{X:Cx}{pins:k8q}{σ:St}{H H':Hp}{s:af}{b:aa}(I:Inv X pins σ H s)(hb:s.heap.objs.size<=b)(hn:H' b=a6):Z0 X pins H' b:=by
 refine⟨hn,T3 (Xf I.lt hb),I.nofs hb,.inr (Xg I.sz hb),λx c e z=>?_,λp hp z=>?_⟩
 .obtain⟨v,q⟩:=I.cell x c e;exact absurd (Xf q.lt (by rw[z];exact hb)) (pq _)
 .exact absurd (Xf (xu (I.pin p hp).1) (by rw[z];exact hb)) (pq _)
structure Turn(P:au)(w:ax)(K:k8o)(tg:aj)(J:It)(fp:List aa)(it:aa)(tn:Nat->aA->Prop):Prop where
 mem:it∈fp
 obj:∀i h,tn i h->∀b∈fp,∃o,h.get? b=a3 o/\∀v,o.data≠.cell v
 keep:∀i h h',tn i h->(∀b∈fp,∀o,h.get? b=a3 o->h'.get? b=a3 o)->tn i h'
 item:∀(X:Cx),X.prog=P->X.w=w->X.K=K->X.calm=a7->∀(i:Nat)(pins:k8q) (s:af) (σ:St) (H:Hp) (E:k8p),Inv X pins σ H s->(∀b∈fp,Z0 X pins H b)->tn i s.heap->J.go i H ->
  ao (aw P w) X.A (dB (.ref it)) (λr s1=>∃u,r=a3 u /\
   ao (aw P w) X.A (eA tg (.ref it) u) (λ_ s2=>∃x H',Inv X pins σ H' s2/\RelV x u/\J.yld i H x H'/\tn (i+1) s2.heap/\∀b∈fp,H' b=a6) E s1) E s
 done:∀(X:Cx),X.prog=P->X.w=w->X.K=K->X.calm=a7->∀(i:Nat)(pins:k8q) (s:af) (σ:St) (H:Hp) (E:k8p),Inv X pins σ H s->(∀b∈fp,Z0 X pins H b)->tn i s.heap->J.stop i H ->
  ao (aw P w) X.A (dB (.ref it)) (λr s1=>r=a6/\Inv X pins σ H s1) E s
 self:∀(A:az)(i:Nat)(s:af)(Q:k8p)(E:k8p),tn i s.heap->Q (.ref it) s->ao (aw P w) A (gP (.ref it)) Q E s
abbrev TI:=St->Hp->(It->Hp->Prop)->Prop
def PIE(X:Cx)(pins:k8q)(σ:St)(tg:aj)(R:It->Hp->Prop)(itv:a8)(s2:af):Prop :=
 ∃(it:aa)(fp:List aa)(tn:Nat->aA->Prop)(J:It)(H':Hp),itv=.ref it/\Inv X pins σ H' s2/\Turn X.prog X.w X.K tg J fp it tn/\tn 0 s2.heap/\(∀b∈fp,Z0 X pins H' b)/\R J H'
def PI(X:Cx)(tg iter:aj)(wi:TI):Prop :=
 ∀(pins:k8q) (s:af) (σ:St) (H:Hp) (R:It->Hp->Prop),Inv X pins σ H s->wi σ H R ->
  ao (aw X.prog X.w) X.A (ay iter X.env) (λv s1=>ao (aw X.prog X.w) X.A (gP v) (PIE X pins σ tg R) X.xe s1) X.xe s
theorem Kv{M:jF}{A:az}{E:k8p}{s:af}{tg:aj}{it:aa}{u:a8}{o:dn}{n:String}{vs:Array a8}{Q:Unit->af->Prop}(ho:s.heap.get? it=a3 o)(hc:o.cls=.type n)(hd:o.data=.fields vs)
  (hn:["enumerate","zip","dict_itemiterator","dict_reverseitemiterator","odict_iterator","itertools.zip_longest","itertools.pairwise"].contains n=a4) (hQ:Q () s):ao M A (eA tg (.ref it) u) Q E s:=by
 unfold eA;cases tg<;>first
  |exact ai hQ
  |(cases u<;>first
    |exact ai hQ
    |(refine a5 (wpAny_load ho ?_);rw[hc,hd];show ao M A (if (["enumerate","zip","dict_itemiterator","dict_reverseitemiterator","odict_iterator","itertools.zip_longest","itertools.pairwise"].contains n&&vs[0]?==a3 (dA _))=a7 then _ else _) Q E s;rw[if_neg (by intro h;rw[hn,fO]at h;cases h)];exact ai hQ))
noncomputable def Itl(K:k8o)(a:aa):It :=
 ⟨λi H=>∃xs x,SqL K H a xs/\xs[i]?=a3 x,λi H x H'=>H'=H/\∀xs,SqL K H a xs->xs[i]?=a3 x,λi H=>∃xs,SqL K H a xs/\xs.length<=i⟩
noncomputable def Itt(K:k8o)(a:aa):It :=
 ⟨λi H=>∃xs x,SqT K H a xs/\xs[i]?=a3 x,λi H x H'=>H'=H/\∀xs,SqT K H a xs->xs[i]?=a3 x,λi H=>∃xs,SqT K H a xs/\xs.length<=i⟩
noncomputable def Itr(lo:Int)(n:Nat):It:=⟨λi _=>i<n,λi H x H'=>H'=H/\x=.int (lo+i),λi _=>n<=i⟩
theorem j45{P:au}{w:ax}{K:k8o}{tg:aj}(a it:aa):Turn P w K tg (Itl K a) [it] it (λi h=>h.IsListIter it a i) where
 mem:=by simp
 obj:=λi h st b hb=>by
  have e:b=it:=by simpa using hb
  subst e;obtain⟨o,e,c,d⟩:=st;exact⟨o,e,λv z=>by rw[d]at z;cases z⟩
 keep:=λi h h' st k=>st.at λo e=>k it (by simp) o e
 item:=by intro X hP hw hK hc i pins s σ H E I hf st hg;subst hP hw hK;obtain⟨xs,x,hq,hx⟩:=hg;obtain⟨its,rv,p,hz⟩:=I.list hq;obtain⟨u,hu,ru⟩:=rv.get hx;obtain⟨f0,f1,f2,f3,f4,f5⟩:=hf it (by simp);refine dW st p.isList (x:=u) (by simpa using hu) λh' st' sb=>?_;have I1:Inv X pins σ H { s with heap:=h' }:=I.turned (t':=s.toks) (λb o hb e=>(sb.2 b hb).trans e) f0 f1 f3 f4 f5;obtain⟨o,e,c,d⟩:=id st';exact⟨u,rfl,Kv (s:={ s with heap:=h' }) e c d (by decide) ⟨x,H,I1,ru,⟨rfl,λys hy=>by rw[I.list_inj hy hq];exact hx⟩,st',λb hb=>(hf b hb).1⟩⟩
 done:=by intro X hP hw hK hc i pins s σ H E I hf st hg;subst hP hw hK;obtain⟨xs,hq,hx⟩:=hg;obtain⟨its,rv,p,hz⟩:=I.list hq;obtain⟨f0,f1,f2,f3,f4,f5⟩:=hf it (by simp);have hl:=rv.length;exact iX (I.ok.hd hc) st p.isList (by simp;omega) λh' eb=>⟨rfl,I.turned (t':=s.toks) (λb o hb e=>eb b o hb e) f0 f1 f3 f4 f5⟩
 self:=λ_ _ _ _ _ st h=>wpAny_pyIter_listiter st h
theorem j2w{P:au}{w:ax}{K:k8o}{tg:aj}(a it:aa):Turn P w K tg (Itt K a) [it] it (λi h=>h.IsTupleIter it a i) where
 mem:=by simp
 obj:=λi h st b hb=>by
  have e:b=it:=by simpa using hb
  subst e;obtain⟨o,e,c,d⟩:=st;exact⟨o,e,λv z=>by rw[d]at z;cases z⟩
 keep:=λi h h' st k=>st.at λo e=>k it (by simp) o e
 item:=by intro X hP hw hK hc i pins s σ H E I hf st hg;subst hP hw hK;obtain⟨xs,x,hq,hx⟩:=hg;obtain⟨its,rv,p,hz⟩:=I.tuple hq;obtain⟨u,hu,ru⟩:=rv.get hx;obtain⟨f0,f1,f2,f3,f4,f5⟩:=hf it (by simp);refine wpAny_pyNext_tuple_item st (show s.heap.IsTuple a its.toArray from p) (x:=u) (by simpa using hu) λh' st' sb=>?_;have I1:Inv X pins σ H { s with heap:=h' }:=I.turned (t':=s.toks) (λb o hb e=>(sb.2 b hb).trans e) f0 f1 f3 f4 f5;obtain⟨o,e,c,d⟩:=id st';exact⟨u,rfl,Kv (s:={ s with heap:=h' }) e c d (by decide) ⟨x,H,I1,ru,⟨rfl,λys hy=>by rw[I.tuple_inj hy hq];exact hx⟩,st',λb hb=>(hf b hb).1⟩⟩
 done:=by intro X hP hw hK hc i pins s σ H E I hf st hg;subst hP hw hK;obtain⟨xs,hq,hx⟩:=hg;obtain⟨its,rv,p,hz⟩:=I.tuple hq;obtain⟨f0,f1,f2,f3,f4,f5⟩:=hf it (by simp);have hl:=rv.length;exact wpAny_pyNext_tuple_end (I.ok.hd hc) st (show s.heap.IsTuple a its.toArray from p) (by simp;omega) λh' eb=>⟨rfl,I.turned (t':=s.toks) (λb o hb e=>eb b o hb e) f0 f1 f3 f4 f5⟩
 self:=λ_ _ _ _ _ st h=>wpAny_pyIter_tupleiter st h
theorem j2x{P:au}{w:ax}{K:k8o}{tg:aj}(it:aa)(lo:Int)(n:Nat):Turn P w K tg (Itr lo n) [it] it (λi h=>IsRangeIter h it (lo+(i:Nat)*1) ((n:Int)-(i:Nat)) 1) where
 mem:=by simp
 obj:=λi h st b hb=>by
  have e:b=it:=by simpa using hb
  subst e;exact⟨_,st,λv z=>by
   have z':Data.fields _=Data.cell v:=z
   cases z'⟩
 keep:=λi h h' st k=>k it (by simp) _ st
 item:=by intro X hP hw hK hc i pins s σ H E I hf st hg;subst hP hw hK;obtain⟨f0,f1,f2,f3,f4,f5⟩:=hf it (by simp);have W:=Walks.range (prog:=X.prog) (w:=X.w) (I.ok.hd hc) it lo 1 n;refine W.item i s _ _ hg st λv h' tk hv st' kk=>?_;obtain⟨t,rfl⟩:=hv;have I1:Inv X pins σ H { s with heap:=h',toks:=tk }:=I.turned (λb o hb e=>kk b o (by simpa using hb) e) f0 f1 f3 f4 f5;refine⟨_,rfl,Kv (s:={ s with heap:=h',toks:=tk }) (n:="range_iterator") st' rfl rfl (by decide) ⟨.int (lo+i),H,I1,⟨t,?_⟩,⟨rfl,rfl⟩,st',λb hb=>(hf b hb).1⟩⟩;rw[iq]
 done:=by intro X hP hw hK hc i pins s σ H E I hf st hg;subst hP hw hK;obtain⟨f0,f1,f2,f3,f4,f5⟩:=hf it (by simp);exact wpAny_pyNext_range_end (I.ok.hd hc) st (by have:n<=i:=hg;omega) λh' eb=>⟨rfl,I.turned (t':=s.toks) (λb o hb e=>eb b o hb e) f0 f1 f3 f4 f5⟩
 self:=λ_ _ _ _ _ st h=>wpAny_pyIter_rangeiter st h
section
variable{X:Cx}{tg:aj}
def jhw(K:k8o)(tl:TE):TI:=λσ H R=>tl σ H λx H1=>∃a,x=.ref a/\(∃xs,SqL K H1 a xs)/\R (Itl K a) H1
def jji(K:k8o)(tl:TE):TI:=λσ H R=>tl σ H λx H1=>∃a,x=.ref a/\(∃xs,SqT K H1 a xs)/\R (Itt K a) H1
theorem jax{l:aj}{tl:TE}(hl:PE X l tl):PI X tg l (jhw X.K tl):=by
 intro pins s σ H R I h;refine thn (hl pins s σ H _ I h) λv s1 ⟨x,H1,I1,r1,q1⟩=>?_;obtain⟨a,e,⟨xs,hq⟩,q⟩:=q1;subst e;cases r1;obtain⟨its,rv,p,hz⟩:=I1.list hq;refine bc p.isList ?_;refine⟨s1.heap.objs.size,[s1.heap.objs.size],_,_,H1,rfl,I1.kept (t':=s1.toks) λb o e=>xg _ e,j45 a _,⟨_,X6 _ rfl,rfl,rfl⟩,λb hb=>?_,q⟩;have e:b=s1.heap.objs.size:=by simpa using hb
 subst e;exact I1.fpOk (X3 _) (I1.hok.fresh (X3 _))
theorem jdl{l:aj}{tl:TE}(hl:PE X l tl):PI X tg l (jji X.K tl):=by
 intro pins s σ H R I h;refine thn (hl pins s σ H _ I h) λv s1 ⟨x,H1,I1,r1,q1⟩=>?_;obtain⟨a,e,⟨xs,hq⟩,q⟩:=q1;subst e;cases r1;obtain⟨its,rv,p,hz⟩:=I1.tuple hq;refine fm (show s1.heap.IsTuple a its.toArray from p) ?_;refine⟨s1.heap.objs.size,[s1.heap.objs.size],_,_,H1,rfl,I1.kept (t':=s1.toks) λb o e=>xg _ e,j2w a _,⟨_,X6 _ rfl,rfl,rfl⟩,λb hb=>?_,q⟩;have e:b=s1.heap.objs.size:=by simpa using hb
 subst e;exact I1.fpOk (X3 _) (I1.hok.fresh (X3 _))
theorem Er{pins:k8q}{σ:St}{H:Hp}{s:af}{R:It->Hp->Prop}{E:k8p}{lo hi:Int}{t u v:gy}{tk:Nat}(I:Inv X pins σ H s)(h1:-(2^62)<=lo)(h2:lo<2^62)(h3:-(2^62)<=hi)(h4:hi<2^62)
  (q:R (Itr lo (hi-lo).toNat) H):ao (aw X.prog X.w) X.A (gP (.ref s.heap.objs.size)) (PIE X pins σ tg R) E { s with heap:=s.heap.push { cls:=.type "range",data:=.fields #[.int lo t,.int hi u,.int 1 v] },toks:=tk }:=by
 refine wpAny_pyIter_range (IsRange.new ..) (small_one h1 h2 h3 h4) ?_;have I1:Inv X pins σ H { s with heap:=s.heap.push { cls:=.type "range",data:=.fields #[.int lo t,.int hi u,.int 1 v] },toks:=tk }:=I.kept λb o e=>xg _ e;refine⟨(s.heap.push { cls:=.type "range",data:=.fields #[.int lo t,.int hi u,.int 1 v] }).objs.size,[(s.heap.push { cls:=.type "range",data:=.fields #[.int lo t,.int hi u,.int 1 v] }).objs.size],_,_,H,rfl,
  I1.kept (t':=tk) λb o e=>xg _ e,j2x _ lo (hi-lo).toNat,?_,λb hb=>?_,q⟩
 .have e1:lo+((0:Nat):Int)*1=lo:=by simp
  have e2:(((hi-lo).toNat:Nat):Int)-((0:Nat):Int)=Builtin.Range.rangeSize lo hi 1:=by rw[rangeSize_one];split<;>omega
  show IsRangeIter _ _ (lo+((0:Nat):Int)*1) ((((hi-lo).toNat:Nat):Int)-((0:Nat):Int)) 1;rw[e1,e2];exact X6 _ rfl
 .have e:b=(s.heap.push { cls:=.type "range",data:=.fields #[.int lo t,.int hi u,.int 1 v] }).objs.size:=by simpa using hb
  subst e;exact I1.fpOk (X3 _) (I1.hok.fresh (X3 _))
def jhv(ta:TA):TI:=λσ H R=>ta σ H λvs H1=>∃j:Int,vs=[.int j]/\-(2^62)<=j/\j<2^62/\R (Itr 0 j.toNat) H1
def jhu(ta:TA):TI:=λσ H R=>ta σ H λvs H1=>∃i j:Int,vs=[.int i,.int j]/\(-(2^62)<=i/\i<2^62/\-(2^62)<=j/\j<2^62)/\R (Itr i (j-i).toNat) H1
theorem j4s {a:aj} {ta:TA} {p pos:aK} (hg:Gl X "range") (hm:X.mg "range" = a6) (ha:PA X [a] ta) (hs:a9 [a] X.env=[(a4,ay a X.env)]:=by rfl):PI X tg (.Call (.Name "range" p) [a] [] pos) (jhv ta):=by
 intro pins s σ H R I h;refine Call_ (Z2 I hg hm boot_range (callWith_type1 (thn (ha pos pins s σ H _ I h) λus s1 ⟨vs,H1,I1,r1,q1⟩=>?_) hs rfl));obtain⟨j,e,q1,q2,q⟩:=q1;subst e;cases r1 with
 |cons r rr =>cases rr;obtain⟨t,rfl⟩:=r;exact call_range_1 (Er I1 nofun nofun q1 q2 (by simpa using q))
theorem j4r {a b:aj} {ta:TA} {p pos:aK} (hg:Gl X "range") (hm:X.mg "range" = a6) (ha:PA X [a,b] ta) (hs:a9 [a,b] X.env=[(a4,ay a X.env),(a4,ay b X.env)]:=by rfl) (hs2:a9 [b] X.env=[(a4,ay b X.env)]:=by rfl) :
  PI X tg (.Call (.Name "range" p) [a,b] [] pos) (jhu ta):=by
 intro pins s σ H R I h;refine Call_ (Z2 I hg hm boot_range (callWith_type1 (thn (ha pos pins s σ H _ I h) λus s1 ⟨vs,H1,I1,r1,q1⟩=>?_) (by rw[hs,hs2]) (by rw[hs2];rfl)));obtain⟨i,j,e,⟨q1,q2,q3,q4⟩,q⟩:=q1;subst e;cases r1 with
 |cons r rr =>
  cases rr with
  |cons r' rr =>cases rr;obtain⟨t,rfl⟩:=r;obtain⟨t',rfl⟩:=r';exact call_range_2 (Er I1 q1 q2 q3 q4 q)
def jj4(wi:TI)(g:TG)(tb:TS):TS:=λD σ H=>wi σ H λJ H1=>∃W:Nat->Nat->St->Hp->Prop,(∃m,W 0 m σ H1)/\∀i m σ H,W i m σ H ->
 (J.stop i H/\D.nx σ H)\/(J.go i H/\∃N:St->Hp->Prop,(∀σ' H',N σ' H'->∃m',m'<m/\W (i+1) m' σ' H')/\∀x H',J.yld i H x H'->g x σ H' λσ2 H2=>tb { D with nx:=N,ct:=N,bk:=D.nx } σ2 H2)
noncomputable def Yg(fp:List aa)(h:aA):List (aa×dn):=fp.filterMap λb=>(h.get? b).map λo=>(b,o)
theorem Qp{fp:List aa}{h:aA}{b:aa}{o:dn}(hb:b∈fp)(e:h.get? b=a3 o):(b,o)∈Yg fp h:=Tc.mpr ⟨b,hb,by rw[e];rfl⟩
theorem Lg{fp:List aa}{h:aA}{p:aa×dn}(hp:p∈Yg fp h):p.1∈fp/\h.get? p.1=a3 p.2:=by
 obtain⟨b,hb,e⟩:=Tc.mp hp;cases q:h.get? b with
 |none=>rw[q]at e;cases e
 |some o =>rw[q]at e;have e':(b,o)=p:=av e;subst e';exact⟨hb,q⟩
theorem Inv.pinned{pins:k8q}{σ:St}{H:Hp}{s:af}{fp:List aa}(I:Inv X pins σ H s)(hf:∀b∈fp,Z0 X pins H b)(ho:∀b∈fp,∃o,s.heap.get? b=a3 o/\∀v,o.data≠.cell v):Inv X (pins++Yg fp s.heap) σ H s :=
 I.pins_of λp hp=>(Pj.mp hp).elim (λz=>I.pin p (Xe _ z)) λz=>by obtain⟨hb,e⟩:=Lg z;obtain⟨f0,f1,f2,_⟩:=hf p.1 hb;obtain⟨o,e',d⟩:=ho p.1 hb;rw[e]at e';cases e';exact⟨e,f0,f1,f2,d⟩
theorem Inv.unpinned{pins pl:k8q}{σ:St}{H:Hp}{s:af}(I:Inv X (pins++pl) σ H s):Inv X pins σ H s:=I.pins_of λp hp=>I.pin p (Xe _ (T7 _ hp))
theorem j4n{iter:aj}{body:List aX}{wi:TI}{g:TG}{tb:TS}{pos:aK}(hp:fX (aw X.prog X.w) X.A X.env X.xe)(hc:X.calm=a7)(hi:PI X tg iter wi)(hg:PG X tg g)(hb:PSs X body tb)
  (hs:∀x,aD iter X.env x=pure x:=by intro _;rfl):PS X (.For tg iter body [] pos) (jj4 wi g tb):=by
 intro pins s σ H D I h;refine wpAny_For (thn (hi pins s σ H _ I h) λv s1 h1=>thn h1 λitv s2 h2=>?_) hs;obtain⟨it,fp,tn,J,H2,e,I2,T,st2,f2,W,⟨m0,w0⟩,turn⟩:=h2;subst e;have stat:∀{H':Hp},(∀b∈fp,H' b=a6)->∀b∈fp,Z0 X pins H' b:=λhn b hb=>⟨hn b hb,(f2 b hb).2⟩
 refine codeAny_forLoop_any (λn s'=>∃i σ' H',Inv X pins σ' H' s'/\tn i s'.heap/\(∀b∈fp,H' b=a6)/\W i n σ' H') ?_ m0 ⟨0,σ,H2,I2,st2,λb hb=>(f2 b hb).1,w0⟩;rintro n s3 ⟨i,σ3,H3,I3,st3,fr3,w3⟩;rcases turn i n σ3 H3 w3 with ⟨stop,qn⟩|⟨go,N,hN,step⟩
 .refine cW hp (thn (T.done X rfl rfl rfl hc i pins s3 σ3 H3 X.xe I3 (stat fr3) st3 stop) λr s4 ⟨hr,I4⟩=>?_);subst hr;exact gr ⟨σ3,H3,I4,qn⟩
 .refine cW hp (thn (T.item X rfl rfl rfl hc i pins s3 σ3 H3 X.xe I3 (stat fr3) st3 go) λr s4 ⟨u,hr,h4⟩=>?_);subst hr;refine cW hp (thn h4 λ_ s5 ⟨x,H5,I5,r5,y5,st5,fr5⟩=>?_);have I5':=I5.pinned (stat fr5) (T.obj _ _ st5);refine cW hp (thn (hg _ s5 σ3 H5 x u _ I5' r5 (step x H5 y5)) λ_ s6 ⟨σ6,H6,I6,q6⟩=>?_);refine cW hp (thn (hb _ s6 σ6 H6 _ I6 q6) λf s7 q7=>?_);have iy:∀{σ7:St}{H7:Hp},Inv X (pins++Yg fp s5.heap) σ7 H7 s7->N σ7 H7->∃m,m<n/\∃i σ' H',Inv X pins σ' H' s7/\tn i s7.heap/\(∀b∈fp,H' b=a6)/\W i m σ' H':=λ{σ7 H7} I7 n7=>by obtain⟨m',hm,w7⟩:=hN σ7 H7 n7;refine⟨m',hm,i+1,σ7,H7,I7.unpinned,T.keep _ _ _ st5 λb hb o e=>(I7.pin (b,o) (Xe _ (Xe _ (Qp hb e)))).1,λb hb=>?_,w7⟩;obtain⟨o,e,d⟩:=T.obj _ _ st5 b hb;exact(I7.pin (b,o) (Xe _ (Xe _ (Qp hb e)))).2.1
  cases f with
  |next=>obtain⟨σ7,H7,I7,n7⟩:=q7;exact iy I7 n7
  |cont=>obtain⟨σ7,H7,I7,n7⟩:=q7;exact iy I7 n7
  |brk=>obtain⟨σ7,H7,I7,q7⟩:=q7;exact⟨σ7,H7,I7.unpinned,q7⟩
  |ret v=>obtain⟨x7,σ7,H7,H8,I7,r7,x8,q7⟩:=q7;exact⟨x7,σ7,H7,H8,I7.unpinned,r7,x8,q7⟩
end
abbrev R2:=V->V->Hp->VK->Prop
def OpR(X:Cx)(f:a8->a8->lJ a8)(r:R2):Prop :=
 ∀(pins:k8q) (s:af) (σ:St) (H:Hp) (x y:V) (v u:a8) (Q:VK),Inv X pins σ H s->RelV x v->RelV y u->r x y H Q ->
  ao (aw X.prog X.w) X.A (f v u) (EP X pins σ Q) X.xe s
def UnR(X:Cx)(f:a8->lJ a8)(r:V->Hp->VK->Prop):Prop :=
 ∀(pins:k8q) (s:af) (σ:St) (H:Hp) (x:V) (v:a8) (Q:VK),Inv X pins σ H s->RelV x v->r x H Q ->
  ao (aw X.prog X.w) X.A (f v) (EP X pins σ Q) X.xe s
def Q7(X:Cx)(f:a8)(r:List V->Hp->VK->Prop):Prop :=
 ∀(pins:k8q) (s:af) (σ:St) (H:Hp) (xs:List V) (us:List a8) (Q:VK),Inv X pins σ H s->Vals xs us->r xs H Q ->
  ao (aw X.prog X.w) X.A (call f us) (EP X pins σ Q) X.xe s
def tOp(r:R2)(ta tb:TE):TE:=λσ H Q=>ta σ H λx H1=>tb σ H1 λy H2=>r x y H2 Q
def tUn(r:V->Hp->VK->Prop)(ta:TE):TE:=λσ H Q=>ta σ H λx H1=>r x H1 Q
def rI(C:Int->Int->Prop)(g:Int->Int->V):R2:=λx y H Q=>∃i j,x=.int i/\y=.int j/\C i j/\Q (g i j) H
def rI0(g:Int->Int->V):R2:=λx y H Q=>∃i j,x=.int i/\y=.int j/\Q (g i j) H
def rU(g:Int->V):V->Hp->VK->Prop:=λx H Q=>∃i,x=.int i/\Q (g i) H
section
variable{X:Cx}{a b c:aj}{ta tb tc:TE}{pos:aK}
theorem j8t(ha:PE X a ta)(hb:PE X b tb){pins:k8q}{s:af}{σ:St}{H:Hp}{R:V->V->Hp->Prop}(I:Inv X pins σ H s)
  (h:ta σ H λx H1=>tb σ H1 λy H2=>R x y H2) {Q:k8p} {f:a8->a8->lJ a8}
  (hf:∀v u s2 x y H2,Inv X pins σ H2 s2->RelV x v->RelV y u->R x y H2->ao (aw X.prog X.w) X.A (f v u) Q X.xe s2) :
  ao (aw X.prog X.w) X.A (ay a X.env) (λv s₁=>ao (aw X.prog X.w) X.A (ay b X.env) (λu s₂=>ao (aw X.prog X.w) X.A (f v u) Q X.xe s₂) X.xe s₁) X.xe s:=by
 refine thn (ha pins s σ H _ I h) λv s1 ⟨x,H1,I1,r1,q1⟩=>?_;refine thn (hb pins s1 σ H1 _ I1 q1) λu s2 ⟨y,H2,I2,r2,q2⟩=>?_;exact hf v u s2 x y H2 I2 r1 r2 q2
theorem U6{op:jE}{r:R2}(ho:OpR X (aW op) r)(ha:PE X a ta)(hb:PE X b tb):PE X (.BinOp a op b pos) (tOp r ta tb):=by intro pins s σ H Q I h;exact wpAny_BinOp (j8t ha hb I h λv u s2 x y H2 I2 rx ry q=>ho pins s2 σ H2 x y v u Q I2 rx ry q)
theorem jhb{op:UnaryOp}{r:V->Hp->VK->Prop}(ho:UnR X (unaryOp op) r)(ha:PE X a ta):PE X (.UnaryOp op a pos) (tUn r ta):=by intro pins s σ H Q I h;exact UnaryOp_ (thn (ha pins s σ H _ I h) λv s1 ⟨x,H1,I1,r1,q1⟩=>ho pins s1 σ H1 x v Q I1 r1 q1)
theorem opI{f:a8->a8->lJ a8}{C:Int->Int->Prop}{g:Int->Int->Int}
  (kM:∀(i j:Int)(t u:gy)(s:af)(Q:k8p)(E:k8p),C i j->Q (.int (g i j) s.toks) { s with toks:=s.toks+1 }->ao (aw X.prog X.w) X.A (f (.int i t) (.int j u)) Q E s) :
  OpR X f (rI C λi j=>.int (g i j)):=by
 intro pins s σ H x y v u Q I rx ry h;obtain⟨i,j,rfl,rfl,hc,q⟩:=h;obtain⟨t,rfl⟩:=rx;obtain⟨t',rfl⟩:=ry;exact kM i j t t' s _ _ hc ⟨.int (g i j),H,I.tok _,⟨_,rfl⟩,q⟩
theorem j3b{f:a8->a8->lJ a8}{g:Int->Int->Int}
  (kM:∀(i j:Int)(t u:gy)(s:af)(Q:k8p)(E:k8p),Q (.int (g i j) s.toks) { s with toks:=s.toks+1 }->ao (aw X.prog X.w) X.A (f (.int i t) (.int j u)) Q E s) :
  OpR X f (rI0 λi j=>.int (g i j)):=by
 intro pins s σ H x y v u Q I rx ry h;obtain⟨i,j,rfl,rfl,q⟩:=h;obtain⟨t,rfl⟩:=rx;obtain⟨t',rfl⟩:=ry;exact kM i j t t' s _ _ ⟨.int (g i j),H,I.tok _,⟨_,rfl⟩,q⟩
theorem j3c{f:a8->a8->lJ a8}{g:Int->Int->Bool}
  (kM:∀(i j:Int)(t u:gy)(s:af)(Q:k8p)(E:k8p),Q (.bool (g i j)) s->ao (aw X.prog X.w) X.A (f (.int i t) (.int j u)) Q E s) :
  OpR X f (rI0 λi j=>.bl (g i j)):=by
 intro pins s σ H x y v u Q I rx ry h;obtain⟨i,j,rfl,rfl,q⟩:=h;obtain⟨t,rfl⟩:=rx;obtain⟨t',rfl⟩:=ry;exact kM i j t t' s _ _ ⟨.bl (g i j),H,I,rfl,q⟩
def j42(i j:Int):Prop:=0<=j/\j<=1000000/\i.natAbs<2^64
def j43(i j:Int):Prop:=(-(2^64)<i/\i<2^64)\/(-(2^64)<j/\j<2^64)
theorem j43.ok{i j:Int}(h:j43 i j):IntMulOk i j:=by
 rcases h with ⟨h1,h2⟩|⟨h1,h2⟩
 .exact .of_left (lP h1 h2)
 .exact .of_right (lP h1 h2)
theorem j2v(k:Nat):(0:Int)<=2^k:=by rw[two_pow_cast];exact Int.natCast_nonneg _
theorem je2:OpR X (aW .Add) (rI0 λi j=>.int (i+j)):=j3b λ_ _ _ _ _ _ _ q=>add_int q
theorem jdu:OpR X (aW .Sub) (rI0 λi j=>.int (i-j)):=j3b λ_ _ _ _ _ _ _ q=>sub_int q
theorem jdz:OpR X (aW .Mult) (rI j43 λi j=>.int (i*j)):=opI λ_ _ _ _ _ _ _ hc q=>mul_int q hc.ok
theorem je0:OpR X (aW .Mod) (rI (λ_ j=>0<j) λi j=>.int (i%j)):=opI λi j _ _ _ _ _ hc q=>by have h1:(0:Int)<j:=hc;exact mod_int' nofun (by rw[Int.fmod_eq_emod_of_nonneg i nofun];exact q)
theorem jdy:OpR X (aW .Pow) (rI j42 λi j=>.int (i^j.toNat)):=opI λ_ _ _ _ _ _ _ hc q=>pow_int_small hc.1 hc.2.1 hc.2.2 q
theorem jdw:OpR X (aW .LShift) (rI j42 λi j=>.int (i*2^j.toNat)):=opI λ_ _ _ _ _ _ _ hc q=>lshift_int_small hc.1 hc.2.1 hc.2.2 q
theorem jdv:OpR X (aW .RShift) (rI (λ_ j=>0<=j) λi j=>.int (i/2^j.toNat)):=opI λi j _ _ _ _ _ hc q =>rshift_int hc (by rw[g6 i (j2v _)];exact q)
theorem je1:OpR X (aW .BitAnd) (rI0 λi j=>.int (Builtin.bitAnd i j)):=j3b λ_ _ _ _ _ _ _ q=>and_int q
theorem jdt:OpR X (aW .BitXor) (rI0 λi j=>.int (Builtin.bitXor i j)):=j3b λ_ _ _ _ _ _ _ q=>xor_int q
theorem unI{f:a8->lJ a8}{g:Int->Int}
  (kM:∀(i:Int)(t:gy)(s:af)(Q:k8p)(E:k8p),Q (.int (g i) s.toks) { s with toks:=s.toks+1 }->ao (aw X.prog X.w) X.A (f (.int i t)) Q E s) :
  UnR X f (rU λi=>.int (g i)):=by
 intro pins s σ H x v Q I rx h;obtain⟨i,rfl,q⟩:=h;obtain⟨t,rfl⟩:=rx;exact kM i t s _ _ ⟨.int (g i),H,I.tok _,⟨_,rfl⟩,q⟩
theorem jck:UnR X (unaryOp .USub) (rU λi=>.int (-i)):=unI λ_ _ _ _ _ q=>neg_int q
end
noncomputable def Di:V->V->Bool
 |.non,.non=>a7|.non,.int _=>a7|.int _,.non=>a7|.non,.bl _=>a7|.bl _,.non=>a7|.non,.str _=>a7|.str _,.non=>a7
 |.int _,.int _=>a7|.bl _,.bl _=>a7|.str _,.str _=>a7|.byt _,.byt _=>a7
 |.int _,.str _=>a7|.str _,.int _=>a7|.bl _,.str _=>a7|.str _,.bl _=>a7
 |_,_=>a4
def rEq:R2:=λx y H Q=>Di x y=a7/\Q (.bl (decide (x=y))) H
def rNe:R2:=λx y H Q=>Di x y=a7/\Q (.bl (!decide (x=y))) H
theorem j2g{i j:Int}:decide (V.int i=V.int j)=(i==j):=by rw[dH];simp
theorem j5w{i j:Bool}:decide (V.bl i=V.bl j)=(i==j):=by rw[dH];simp
theorem j2f{i j:ah}:decide (V.str i=V.str j)=(i==j):=by rw[dH];simp
theorem j2h{i j:Array UInt8}:decide (V.byt i=V.byt j)=(i.toList==j.toList):=by rw[dH];cases i;cases j;simp
section
variable{X:Cx}{a b c:aj}{ta tb tc:TE}{pos:aK}
theorem jr{pins:k8q}{σ:St}{H:Hp}{s:af}{Q:VK}{k k':Bool}(I:Inv X pins σ H s)(q:Q (.bl k) H)(e:k=k'):EP X pins σ Q (.bool k') s:=by subst e;exact⟨.bl k,H,I,rfl,q⟩
theorem j9i:OpR X (aL .Eq) rEq:=by
 intro pins s σ H x y v u Q I rx ry h;obtain⟨hs,q⟩:=h;cases x with
 |non =>
  cases rx;cases y with
  |non=>cases ry;exact l6 (jr I q (by simp))
  |bl j=>cases ry;exact l9 (jr I q (by simp))
  |int j=>obtain⟨t',rfl⟩:=ry;exact l7 (jr I q (by simp))
  |str j=>obtain⟨t',rfl⟩:=ry;exact l5 (jr I q (by simp))
  |_=>exact absurd (show a4=a7 from hs) xj
 |bl i =>
  cases rx;cases y with
  |non=>cases ry;exact lj (jr I q (by simp))
  |bl j=>cases ry;exact eq_bool (jr I q j5w)
  |str j=>obtain⟨t',rfl⟩:=ry;exact kH (jr I q (by simp))
  |_=>exact absurd (show a4=a7 from hs) xj
 |int i =>
  obtain⟨t,rfl⟩:=rx;cases y with
  |non=>cases ry;exact lh (jr I q (by simp))
  |int j=>obtain⟨t',rfl⟩:=ry;exact eq_int (jr I q j2g)
  |str j=>obtain⟨t',rfl⟩:=ry;exact kF (jr I q (by simp))
  |_=>exact absurd (show a4=a7 from hs) xj
 |str i =>
  obtain⟨t,rfl⟩:=rx;cases y with
  |non=>cases ry;exact kZ (jr I q (by simp))
  |bl j=>cases ry;exact kE (jr I q (by simp))
  |int j=>obtain⟨t',rfl⟩:=ry;exact kD (jr I q (by simp))
  |str j=>obtain⟨t',rfl⟩:=ry;exact eq_str (jr I q j2f)
  |_=>exact absurd (show a4=a7 from hs) xj
 |byt i =>
  obtain⟨t,rfl⟩:=rx;cases y with
  |byt j=>obtain⟨t',rfl⟩:=ry;exact W.eq_bytes (jr I q j2h)
  |_=>exact absurd (show a4=a7 from hs) xj
 |_=>cases y<;>exact absurd (show a4=a7 from hs) xj
theorem j9e:OpR X (aL .NotEq) rNe:=by
 intro pins s σ H x y v u Q I rx ry h;obtain⟨hs,q⟩:=h;cases x with
 |non =>
  cases rx;cases y with
  |non=>cases ry;exact kT (jr I q (by simp))
  |bl j=>cases ry;exact kW (jr I q (by simp))
  |int j=>obtain⟨t',rfl⟩:=ry;exact kU (jr I q (by simp))
  |str j=>obtain⟨t',rfl⟩:=ry;exact kS (jr I q (by simp))
  |_=>exact absurd (show a4=a7 from hs) xj
 |bl i =>
  cases rx;cases y with
  |non=>cases ry;exact kY (jr I q (by simp))
  |bl j=>cases ry;exact ne_bool (jr I q (congrArg not j5w))
  |str j=>obtain⟨t',rfl⟩:=ry;exact kC (jr I q (by simp))
  |_=>exact absurd (show a4=a7 from hs) xj
 |int i =>
  obtain⟨t,rfl⟩:=rx;cases y with
  |non=>cases ry;exact kX (jr I q (by simp))
  |int j=>obtain⟨t',rfl⟩:=ry;exact ne_int (jr I q (congrArg not j2g))
  |str j=>obtain⟨t',rfl⟩:=ry;exact kB (jr I q (by simp))
  |_=>exact absurd (show a4=a7 from hs) xj
 |str i =>
  obtain⟨t,rfl⟩:=rx;cases y with
  |non=>cases ry;exact kR (jr I q (by simp))
  |bl j=>cases ry;exact kA (jr I q (by simp))
  |int j=>obtain⟨t',rfl⟩:=ry;exact kz (jr I q (by simp))
  |str j=>obtain⟨t',rfl⟩:=ry;exact ne_str (jr I q (congrArg not j2f))
  |_=>exact absurd (show a4=a7 from hs) xj
 |byt i =>
  obtain⟨t,rfl⟩:=rx;cases y with
  |byt j=>obtain⟨t',rfl⟩:=ry;exact W.ne_bytes (jr I q (congrArg not j2h))
  |_=>exact absurd (show a4=a7 from hs) xj
 |_=>cases y<;>exact absurd (show a4=a7 from hs) xj
theorem Ks:OpR X (aL .Lt) (rI0 λi j=>.bl (decide (i<j))):=j3c λ_ _ _ _ _ _ _ q=>lt_int q
theorem j9f:OpR X (aL .LtE) (rI0 λi j=>.bl (decide (i<=j))):=j3c λ_ _ _ _ _ _ _ q=>le_int q
theorem j9g:OpR X (aL .Gt) (rI0 λi j=>.bl (decide (j<i))):=j3c λ_ _ _ _ _ _ _ q=>gt_int q
theorem j9h:OpR X (aL .GtE) (rI0 λi j=>.bl (decide (j<=i))):=j3c λ_ _ _ _ _ _ _ q=>ge_int q
theorem Lb:OpR X (aL .Lt) (λx y H Q=>∃i j,x=.str i/\y=.str j/\Q (.bl (decide (i.cps.toList<j.cps.toList))) H):=by intro pins s σ H x y v u Q I rx ry h;obtain⟨i,j,rfl,rfl,q⟩:=h;obtain⟨t,rfl⟩:=rx;obtain⟨t',rfl⟩:=ry;exact lt_str (jr I q rfl)
theorem Ld:OpR X (aL .In) (λx y H Q=>∃i j,x=.str i/\y=.str j/\Q (.bl (!(fe j i 0 j.length 1).isEmpty)) H):=by intro pins s σ H x y v u Q I rx ry h;obtain⟨i,j,rfl,rfl,q⟩:=h;obtain⟨t,rfl⟩:=rx;obtain⟨t',rfl⟩:=ry;exact in_str (jr I q rfl)
theorem j22:OpR X (aL .IsNot) (λx y H Q=>y=.non/\Q (.bl (!decide (x=.non))) H):=by
 intro pins s σ H x y v u Q I rx ry h;obtain⟨rfl,q⟩:=h;cases ry;refine isnot_none_gen (jr I q ?_);cases x<;>first
  |(cases rx;rfl)
  |(obtain⟨t,rfl⟩:=rx;rfl)
theorem qx(b:aj){op:gj}(h:op≠.In:=by decide)(h2:op≠.NotIn:=by decide):aF op b=a4:=by
 have e1:(op==CmpOp.In)=a4:=by cases op<;>first|rfl|exact absurd rfl h
 have e2:(op==CmpOp.NotIn)=a4:=by cases op<;>first|rfl|exact absurd rfl h2
 cases b<;>simp[aF,e1,e2]
theorem Jf{op:gj}{r:R2}(ho:OpR X (aL op) r)(ha:PE X a ta)(hb:PE X b tb)(hm:aF op b=a4):PE X (.Compare a [op] [b] pos) (tOp r ta tb):=by intro pins s σ H Q I h;exact wpAny_Compare1 (j8t ha hb I h λv u s2 x y H2 I2 rx ry q=>ho pins s2 σ H2 x y v u Q I2 rx ry q) hm
def jgo(t:TE):TT:=λσ H Q=>t σ H λx H'=>∃k,x=.bl k/\Q k H'
theorem Je{op:gj}{r:R2}(ho:OpR X (aL op) r)(ha:PE X a ta)(hb:PE X b tb)(hm:aF op b=a4):PT X (.Compare a [op] [b] pos) (jgo (tOp r ta tb)):=by
 intro pins s σ H Q I h;refine iY (thn (ha pins s σ H _ I h) λv s1 ⟨x,H1,I1,r1,q1⟩=>thn (hb pins s1 σ H1 _ I1 q1) λu s2 ⟨y,H2,I2,r2,q2⟩ =>
  thn (ho pins s2 σ H2 x y v u _ I2 r1 r2 q2) λc s3 ⟨z,H3,I3,r3,k,e,q3⟩=>?_) hm
 subst e;cases r3;exact aV ⟨H3,I3,q3⟩
def jcr(r r':R2)(ta tb tc:TE):TE:=λσ H Q=>ta σ H λx H1=>tb σ H1 λy H2=>r x y H2 λz H3=>∃k,z=.bl k /\
 (if k=a7 then tc σ H3 λw' H4=>r' y w' H4 Q else Q (.bl a4) H3)
theorem j7i{op op':gj}{r r':R2}(ho:OpR X (aL op) r)(ho':OpR X (aL op') r')(ha:PE X a ta)(hb:PE X b tb)(hc:PE X c tc)
  (hm:kN [op,op'] [b,c]=a4:=by with_unfolding_all rfl):PE X (.Compare a [op,op'] [b,c] pos) (jcr r r' ta tb tc):=by
 intro pins s σ H Q I h;refine Compare_chain (thn (ha pins s σ H _ I h) λv s1 ⟨x,H1,I1,r1,q1⟩=>chain_link (thn (hb pins s1 σ H1 _ I1 q1) λu s2 ⟨y,H2,I2,r2,q2⟩ =>
  thn (ho pins s2 σ H2 x y v u _ I2 r1 r2 q2) λd s3 ⟨z,H3,I3,r3,k,e,q3⟩=>?_)) hm
 subst e;cases r3;refine aV ?_;cases k with
 |false=>exact ite_ff ⟨.bl a4,H3,I3,rfl,q3⟩
 |true=>exact ite_tt (chain_last (thn (hc pins s3 σ H3 _ I3 q3) λw' s4 ⟨z',H4,I4,r4,q4⟩=>ho' pins s4 σ H4 y z' u w' Q I4 r2 r4 q4))
theorem Uu:(ak:Nat)<2^63:=by rw[jA];decide
theorem j3a:OpR X (aW .Add) (λx y H Q=>∃i j,x=.str i/\y=.str j/\i.length+j.length<=ak/\Q (.str (i++j)) H):=by intro pins s σ H x y v u Q I rx ry h;obtain⟨i,j,rfl,rfl,hz,q⟩:=h;obtain⟨t,rfl⟩:=rx;obtain⟨t',rfl⟩:=ry;exact add_str (λt' tk=>⟨.str (i++j),H,I.tok _,⟨_,rfl⟩,q⟩) hz
theorem vals1{x:V}{us:List a8}(r:Vals [x] us):∃u,us=[u]/\RelV x u:=by
 cases r with
 |cons r1 r2=>cases r2;exact⟨_,rfl,r1⟩
theorem vals2{x y:V}{us:List a8}(r:Vals [x,y] us):∃u w',us=[u,w']/\RelV x u/\RelV y w':=by
 cases r with
 |cons r1 r2 =>
  cases r2 with
  |cons r3 r4=>cases r4;exact⟨_,_,rfl,r1,r3⟩
theorem j6e (hc:X.calm=a7):Q7 X (.builtin "max") (λxs H Q=>∃i j,xs=[.int i,.int j]/\Q (.int (if j>i then j else i)) H):=by
 intro pins s σ H xs us Q I r h;obtain⟨i,j,rfl,q⟩:=h;obtain⟨u,w',rfl,⟨t,rfl⟩,⟨t',rfl⟩⟩:=vals2 r;refine max_two_ints (I.ok.hd hc) λh' tk k=>⟨_,H,I.kept k,?_,q⟩
 by_cases hj:j>i
 .rw[if_pos hj,if_pos hj];exact⟨_,rfl⟩
 .rw[if_neg hj,if_neg hj];exact⟨_,rfl⟩
theorem j6c (hc:X.calm=a7):Q7 X (.builtin "min") (λxs H Q=>∃i j,xs=[.int i,.int j]/\Q (.int (if j<i then j else i)) H):=by
 intro pins s σ H xs us Q I r h;obtain⟨i,j,rfl,q⟩:=h;obtain⟨u,w',rfl,⟨t,rfl⟩,⟨t',rfl⟩⟩:=vals2 r;refine min_two_ints (I.ok.hd hc) λh' tk k=>⟨_,H,I.kept k,?_,q⟩
 by_cases hj:j<i
 .rw[if_pos hj,if_pos hj];exact⟨_,rfl⟩
 .rw[if_neg hj,if_neg hj];exact⟨_,rfl⟩
theorem j6f:Q7 X (.type "int") (λxs H Q=>(∃i,xs=[.int i]/\Q (.int i) H)\/∃k,xs=[.bl k]/\Q (.int (if k then 1 else 0)) H):=by
 intro pins s σ H xs us Q I r h;rcases h with ⟨i,rfl,q⟩|⟨k,rfl,q⟩
 .obtain⟨u,rfl,t,rfl⟩:=vals1 r;exact call_int_int ⟨.int i,H,I,⟨_,rfl⟩,q⟩
 .obtain⟨u,rfl,r1⟩:=vals1 r;cases r1;exact call_int_bool ⟨.int (if k then 1 else 0),H,I.tok _,⟨_,rfl⟩,q⟩
end
structure ObjM(h:aA)(x dx C:aa)(mA:k8r):Prop where
 obj:h.get? x=a3 (W.instObj C dx)
 ns:h.Ns1 dx mA
 ne:dx≠x
section
variable{prog:au}{w:ax}{A:az}{E:k8p}{s:af}{K:k8o}{x dx C f:aa}{mA:k8r}{name:ah}{v:a8}
end
noncomputable def j7d(f:ah)(v:V):List (ah×V)->List (ah×V)
 |[]=>[(f,v)]
 |(g,x)::r=>if g=f then(g,v)::r else(g,x)::j7d f v r
section
variable{P:au}{w:ax}{H H':Hp}{h h':aA}{a C dx:aa}{fs fs':List (ah×V)}
end
structure Cls(K:k8o)(C:aa):Prop where
 pg:W.plainGet K C Str.empty=a7
 hd:W.hasDictIn K C=a7
 po:W.plainOver K C=a7
 sa:W.findIn K (.ref C) "__setattr__" = a3 (a3 (.builtin "object.__setattr__"))
structure Con(K:k8o)(C:aa)(f:ah)(v:V)(u:a8):Prop where
 at_:W.findIn K (.ref C) f=a3 (a3 u)
 rel:RelV v u
 get:W.specialIn K u "__get__" = a3 a6
 cp:W.copiedNames.contains f=a4
structure Meth(K:k8o)(C:aa)(m:ah)(f:aa):Prop where
 at_:W.findIn K (.ref C) m=a3 (a3 (.ref f))
 fn:W.isFn K (.ref f)=a7
 kp:W.keepIn K (.ref f)=a7
section
variable{X:Cx}{pins:k8q}{σ:St}{H:Hp}{s:af}{a C dx:aa}{fs:List (ah×V)}{f:ah}{v:V}{A:az}{E:k8p}
end
section
variable{X:Cx}{o e value:aj}{f:ah}{pos pos' tpos:aK}{ta tv:TE}
end
section
variable{X:Cx}{pins:k8q}{σ:St}{H:Hp}{s:af}{A:az}{E:k8p}{Q:k8p}{c:a8}{b:Bool}
inductive TyOf(K:k8o)(H:Hp):V->a8->Prop where
 |non:TyOf K H .non (.type "NoneType")
 |bl (x:Bool):TyOf K H (.bl x) (.type "bool")
 |int (i:Int):TyOf K H (.int i) (.type "int")
 |str (x:ah):TyOf K H (.str x) (.type "str")
 |flt (x:UInt64):TyOf K H (.flt x) (.type "float")
 |lst {a:aa} {xs:List V} (e:H a=a3 (.lst xs)):TyOf K H (.ref a) (.type "list")
 |frz {a:aa} {o:dn} {xs:List V} (e:H a=a3 (.frz o (.lst xs))):TyOf K H (.ref a) (.type "list")
 |tup {a:aa} {xs:List V} (e:H a=a3 (.tup xs)):TyOf K H (.ref a) (.type "tuple")
 |dK {a:aa} {kvs:List (Key×V)} (e:H a=a3 (.dK kvs)):TyOf K H (.ref a) (.type "dict")
 |dT {a:aa} {kvs:List (List Key×V)} (e:H a=a3 (.dT kvs)):TyOf K H (.ref a) (.type "dict")
 |ins {a C dx:aa} {fs:List (ah×V)} (e:H a=a3 (.ins C dx fs)) (cl:Cls K C) (ha:W.findIn K (.ref C) "__class__" = a3 (a3 (.builtin "object.__class__")))
   (hn:W.specialIn K (.builtin "object.__class__") "__get__" = a3 (a3 (.builtin "getset_descriptor.__get__"))) (htk:W.takesIn K (.builtin "object.__class__")=a3 a7)
   (hm:W.mroIn K C (.type "object")=a3 a7):TyOf K H (.ref a) (.ref C)
end
structure Room(k:Nat)(A:az):Prop where
 hd:A.handled=a6
 dp:A.depth+3*k+5<eO
 un:A.units+16*k+200<aI
theorem Room.mono{j k:Nat}{A:az}(r:Room k A)(h:j<=k):Room j A:=⟨r.hd,by have:=r.dp;omega,by have:=r.un;omega⟩
theorem Room.deeper{k:Nat}{A:az}(r:Room (k+1) A)(env:dy):Room k (A.deeper env) :=
 ⟨r.hd,by have:=r.dp;show A.depth+1+3*k+5<_;omega,by have:=r.un;show A.units+3+16*k+200<_;omega⟩
theorem Room.depth{k:Nat}{A:az}(r:Room k A):A.depth<eO:=by have:=r.dp;omega
def jiz:TA:=λ_ H Q=>Q [] H
def j9a(ta:TE)(tr:TA):TA:=λσ H Q=>ta σ H λx H1=>tr σ H1 λxs H2=>Q (x::xs) H2
section
variable{X:Cx}{e:aj}{es:List aj}{te:TE}{t:TA}{pos:aK}
theorem q8:PA X [] jiz:=λ_ _ _ _ H Q I h=>eL ⟨[],H,I,.nil,h⟩
theorem jf(ha:PE X e te)(hr:PA X es t)(hs:a9 (e::es) X.env=(a4,ay e X.env)::a9 es X.env:=by rfl):PA X (e::es) (j9a te t):=by intro pos pins s σ H Q I h;rw[hs];show ao _ _ (iH ((a4,ay e X.env)::aO pos (a9 es X.env))) _ _ s;refine eE (thn (ha pins s σ H _ I h) λu s1 ⟨x,H1,I1,r1,q1⟩=>?_);exact thn (hr pos pins s1 σ H1 _ I1 q1) λus s2 ⟨xs,H2,I2,r2,q2⟩=>⟨x::xs,H2,I2,.cons r1 r2,q2⟩
def jiv(t:TA):TE:=λσ H Q=>t σ H λxs H1=>xs.length<=ak/\∀p,H1 p=a6->Q (.ref p) (upd H1 p (.tup xs))
def jj0(t:TA):TE:=λσ H Q=>t σ H λxs H1=>xs.length<=ak/\∀p,H1 p=a6->Q (.ref p) (upd H1 p (.lst xs))
theorem jdn{x1}(h:PA X es t):PE X (.Tuple es x1 pos) (jiv t):=by intro pins s σ H Q I hq;refine wpAny_Tuple_spliced (thn (h pos pins s σ H _ I hq) λus s1 ⟨xs,H1,I1,r,z,q⟩=>⟨by rw[<-r.length];exact z,?_⟩);have hf:H1 s1.heap.objs.size=a6:=I1.hok.fresh (X3 _);refine⟨.ref s1.heap.objs.size,upd H1 s1.heap.objs.size (.tup xs),I1.laid (t':=s1.toks) (λb u e=>xg _ e) (X3 _) ?_,rfl,q _ hf⟩;exact⟨z,us,r,⟨_,X6 _ rfl,rfl,_,rfl⟩,Zx.new _ _⟩
theorem jdp(h:PA X es t):PE X (.List es pos) (jj0 t):=by intro pins s σ H Q I hq;refine wpAny_List_spliced (thn (h pos pins s σ H _ I hq) λus s1 ⟨xs,H1,I1,r,z,q⟩=>⟨by rw[<-r.length];exact z,?_⟩);have hf:H1 s1.heap.objs.size=a6:=I1.hok.fresh (X3 _);refine⟨.ref s1.heap.objs.size,upd H1 s1.heap.objs.size (.lst xs),I1.laid (t':=s1.toks) (λb u e=>xg _ e) (X3 _) ?_,rfl,q _ hf⟩;exact⟨z,us,0,r,X6 _ rfl⟩
end
abbrev Sp:=List V->Hp->VK->XK->Prop
abbrev CXT:=List dy->Hp->af->XK->a8->af->Prop
structure Env0(P:au)(w:ax)(K:k8o)(mg:k8r)(base:aA)(A:az)(outer:List dy)(s:af)(H:Hp):Prop where
 frames:A.frames=a3 outer
 mod:Mod K mg base
 bs:∀b o,base.get? b=a3 o->s.heap.get? b=a3 o/\H b=a6
 bsz:base.objs.size<=s.heap.objs.size
 funs:s.heap.FunFrames base outer
 frf:∀b∈frs outer,H b=a6
 hok:HOk P w H s.heap
 bare:dz s.gens
def CE(outer:List dy)(P:au)(w:ax)(H:Hp)(s:af)(Q:VK)(u:a8)(s':af):Prop :=
 ∃v H',s'.os=s.os/\dz s'.gens/\Un (frs outer) [] H H' s.heap s'.heap/\HOk P w H' s'.heap/\RelV v u/\Q v H'
def CR(CX:CXT)(outer:List dy)(P:au)(w:ax)(H:Hp)(s:af)(Q:VK)(E:XK)(r:fB)(s':af):Prop :=
 match r with
 |.ok (.ret u)=>CE outer P w H s Q u s'
 |.ok _=>False
 |.error e=>CX outer H s E e s'
structure FnOk(P:au)(w:ax)(K:k8o)(mg:k8r)(base:aA)(CX:CXT)(k:Nat)(f:aa)(fd:aJ)(ps:List ah)(sp:Sp):Prop where
 len:∀vs H Q E,sp vs H Q E->vs.length=ps.length
 run:∀(A:az)(outer:List dy)(s:af)(H:Hp)(args:Args)(us:List a8)(vs:List V) (Q:VK) (E:XK),Room k A->Env0 P w K mg base A outer s H->d5 s fd args (ps.zip us)->Vals vs us->sp vs H Q E ->
  cj (aw P w) A (.call (.ref f) args) (CR CX outer P w H s Q E) s
theorem FnOk.imp{P:au}{w:ax}{K:k8o}{mg:k8r}{base:aA}{CX:CXT}{k:Nat}{f:aa}{fd:aJ}{ps:List ah}{sp sp':Sp}(F:FnOk P w K mg base CX k f fd ps sp)
  (h:∀vs H Q E,sp' vs H Q E->sp vs H Q E):FnOk P w K mg base CX k f fd ps sp' :=
 ⟨λvs H Q E q=>F.len vs H Q E (h _ _ _ _ q),λA outer s H args us vs Q E hr he hb hv hs=>F.run A outer s H args us vs Q E hr he hb hv (h _ _ _ _ hs)⟩
section
variable{X:Cx}{pins:k8q}{σ:St}{H:Hp}{s s':af}
theorem Inv.env0(I:Inv X pins σ H s):Env0 X.prog X.w X.K X.mg X.base X.A X.stack s H :=
 ⟨I.ok.frames,I.ok.mod,I.bs,Xg I.ok.bsz I.sz,I.stack,I.stkFree,I.hok,I.bare⟩
theorem Inv.after{Q:VK}{u:a8}(I:Inv X pins σ H s)(h:CE X.stack X.prog X.w H s Q u s'):EP X pins σ Q u s':=by obtain⟨v,H',os,bare,un,hok,r,q⟩:=h;obtain⟨hh,g,d,t,os'⟩:=s';obtain rfl:os'=s.os:=os;exact⟨v,H',I.call (h':=hh) (g':=g) (d':=d) (t':=t) (ch:=[]) un hok bare (λb z=>absurd z (by simp)),r,q⟩
end
def jgu(sp:Sp)(dvs:List V)(E:XK)(t:TA):TE:=λσ H Q=>t σ H λvs H1=>sp (vs++dvs) H1 Q E
def Binds(K:k8o)(fd:aJ)(ps:List ah)(ds:List a8):Prop :=
 ∀(s:af)(us:List a8),K.In s.heap->(us++ds).length=ps.length->d5 s fd ⟨us,[]⟩ (ps.zip (us++ds))
theorem Binds.all{K:k8o}{fd:aJ}{ps:List ah}(h:∀us:List a8,us.length=ps.length->eT fd ⟨us,[]⟩=pure (ps.zip us)):Binds K fd ps []:=λs us _ hl=>by rw[Xn]at hl ⊢;exact .of_eq (h us hl)
def j0y(CX:CXT)(X:Cx)(E:XK):Prop:=∀(pins:k8q) (σ:St) (H:Hp) (s:af) (e:a8) (s':af),Inv X pins σ H s->CX X.stack H s E e s'->X.xe e s'
section
variable{X:Cx}{CX:CXT}{k:Nat}{f C:aa}{fd:aJ}{ps:List ah}{sp:Sp}{dvs:List V}{ds:List a8}{E:XK}{x m:ah}{p pos apos:aK}{e o:aj}{es:List aj}{ta:TE}{t:TA}
theorem jd6{pins:k8q}{σ:St}{H:Hp}{s:af}{Q:VK}{us:List a8}{vs:List V}(F:FnOk X.prog X.w X.K X.mg X.base CX k f fd ps sp)(hr:Room k X.A)(hb:Binds X.K fd ps ds)(hd:Vals dvs ds)(hx:j0y CX X E)
  (I:Inv X pins σ H s) (r:Vals vs us) (h:sp (vs++dvs) H Q E):ao (aw X.prog X.w) X.A (call (.ref f) us) (EP X pins σ Q) X.xe s:=by
 have r2:Vals (vs++dvs) (us++ds):=r.append hd;have hl:(us++ds).length=ps.length:=by rw[<-r2.length];exact F.len _ _ _ _ h
 refine fq (bf (F.run X.A X.stack s H ⟨us,[]⟩ (us++ds) (vs++dvs) Q E hr I.env0 (hb s us I.kIn hl) r2 h) λr s' hq=>?_);cases r with
 |error e=>exact hx pins σ H s e s' I hq
 |ok fl =>
  cases fl with
  |ret u=>exact I.after hq
  |next=>exact b7 hq
  |brk=>exact b7 hq
  |cont=>exact b7 hq
theorem Mh(F:FnOk X.prog X.w X.K X.mg X.base CX k f fd ps sp)(hr:Room k X.A)(hg:Gl X x)(hm:X.mg x=a3 (.ref f))(hk:W.keepIn X.K (.ref f)=a7)(hb:Binds X.K fd ps ds)(hd:Vals dvs ds)(hx:j0y CX X E)
  (ha:PA X (e::es) t) (hdb:(x==k8s)=a4:=by decide) (he:a9 (e::es) X.env=(a4,ay e X.env)::a9 es X.env:=by rfl) (hpl:(aO pos (a9 es X.env)).any (·.1)=a4:=by rfl) :
  PE X (.Call (.Name x p) (e::es) [] pos) (jgu sp dvs E t):=by
 intro pins s σ H Q I h;refine aH (Uv I hg hm ?_ hdb);refine W.callWith_K (h₀:=X.base) I.ok.mod.kin hk (thn (ha pos pins s σ H _ I h) λus s1 ⟨vs,H1,I1,r,q⟩=>⟨I1.kIn,?_⟩) he hpl;exact jd6 F hr hb hd hx I1 r q
structure Mk(K:k8o)(C f:aa):Prop where
 makes:W.makesIn K C=a7
 init:W.findIn K (.ref C) "__init__" = a3 (a3 (.ref f))
 fn:W.isFn K (.ref f)=a7
 kp:W.keepIn K (.ref C)=a7
end
def PK(X:Cx)(kws:List aR)(t:TA):Prop :=
 ∀(pos:aK)(pins:k8q) (s:af) (σ:St) (H:Hp) (Q:List V->Hp->Prop),Inv X pins σ H s->t σ H Q->ao (aw X.prog X.w) X.A (evalAll ((bu pos (aT kws X.env)).map (·.2))) (AP X pins σ Q) X.xe s
section
variable{X:Cx}{CX:CXT}{k:Nat}{f C:aa}{fd:aJ}{ps ks:List ah}{sp:Sp}{E:XK}{x m:ah}{p pos apos kpos:aK}{e o:aj}{es:List aj}{kws:List aR}{te ta:TE}{t tk:TA}{nm:Option ah}
theorem Zf(ha:PE X e te)(hr:PK X kws t):PK X (⟨nm,e,kpos⟩::kws) (j9a te t):=by intro pos pins s σ H Q I h;show ao _ _ (evalAll ((do let v <-ay e X.env;ko pos;pure v)::(bu pos (aT kws X.env)).map (·.2))) _ _ s;refine wpAny_evalAll_cons (a5 (thn (ha pins s σ H _ I h) λu s1 ⟨x,H1,I1,r1,q1⟩=>a5 (ic (ai ?_))));exact thn (hr pos pins s1 σ H1 _ I1 q1) λus s2 ⟨xs,H2,I2,r2,q2⟩=>⟨x::xs,H2,I2,.cons r1 r2,q2⟩
structure KBinds(K:k8o)(fd:aJ)(ps ks:List ah)(g:List a8->List a8->List a8)(gV:List V->List V->List V):Prop where
 to:∀(s:af)(us ws:List a8),K.In s.heap->(g us ws).length=ps.length->d5 s fd ⟨us,ks.zip ws⟩ (ps.zip (g us ws))
 rel:∀{vs:List V}{us:List a8}{zs:List V}{ws:List a8},Vals vs us->Vals zs ws->Vals (gV vs zs) (g us ws)
variable{g:List a8->List a8->List a8}{gV:List V->List V->List V}
end
structure FnScope(N P:List ah)(sc:aY):Prop where
 kind:sc.kind=.function
 co:sc.isCoroutine=a4
 gen:sc.isGenerator=a4
 nd:N.Nodup
 pre:N.take P.length=P
 par:∀x∈P,sc.names.lookup x=a3 .local\/sc.names.lookup x=a3 .cell
 nofree:∀y∈sc.names,y.2≠.free
theorem Lz{kindOf:ah->Option ba}{x:ah}:∀{binds:List (ah×a8)} {m:k8r},(∀v,(x,v)∉binds)->iv kindOf binds m x=m x
 |[],_,_=>rfl
 |(n,v)::r,m,h=>by
  unfold iv;rw[Lz λw hw=>h w (km _ hw)];split
  .have:x≠n:=by rintro rfl;exact h v xn
   simp[this]
  .rfl
theorem K3{kindOf:ah->Option ba}{x:ah}:∀{binds:List (ah×a8)} {m:k8r},(∀v,(x,v)∉binds)->iw kindOf binds m x=m x
 |[],_,_=>rfl
 |(n,v)::r,m,h=>by
  unfold iw;rw[K3 λw hw=>h w (km _ hw)];split
  .rfl
  .have:x≠n:=by rintro rfl;exact h v xn
   simp[this]
theorem K1{kindOf:ah->Option ba}{x:ah}{v:a8}:∀{P:List ah}{vs:List a8}{i:Nat}{m:k8r},P.Nodup->P[i]?=a3 x->vs[i]?=a3 v->kindOf x=a3 .local ->
  iv kindOf (P.zip vs) m x=a3 v
 |[],_,_,_,_,h,_,_=>by simp at h
 |_::_,[],_,_,_,_,h,_=>by simp at h
 |p::P,w::vs,0,m,nd,h1,h2,hk=>by simp at h1 h2;subst h1;subst h2;show iv kindOf ((p,w)::P.zip vs) m p=_;unfold iv;rw[Lz λv hv=>(Xk.mp nd).1 (dF hv).1,if_pos hk];simp
 |p::P,w::vs,i+1,m,nd,h1,h2,hk=>by show iv kindOf ((p,w)::P.zip vs) m x=_;unfold iv;exact K1 (i:=i) (Xk.mp nd).2 (by simpa using h1) (by simpa using h2) hk
theorem K4{kindOf:ah->Option ba}{x:ah}{v:a8}:∀{P:List ah}{vs:List a8}{i:Nat}{m:k8r},P.Nodup->P[i]?=a3 x->vs[i]?=a3 v->kindOf x≠a3 .local ->
  iw kindOf (P.zip vs) m x=a3 v
 |[],_,_,_,_,h,_,_=>by simp at h
 |_::_,[],_,_,_,_,h,_=>by simp at h
 |p::P,w::vs,0,m,nd,h1,h2,hk=>by simp at h1 h2;subst h1;subst h2;show iw kindOf ((p,w)::P.zip vs) m p=_;unfold iw;rw[K3 λv hv=>(Xk.mp nd).1 (dF hv).1,if_neg hk];simp
 |p::P,w::vs,i+1,m,nd,h1,h2,hk=>by show iw kindOf ((p,w)::P.zip vs) m x=_;unfold iw;exact K4 (i:=i) (Xk.mp nd).2 (by simpa using h1) (by simpa using h2) hk
noncomputable def start(N:List ah)(vs:List V):St:=vs.map a3++ae (N.length-vs.length) a6
noncomputable def v9(CX:CXT)(P:au)(w:ax)(K:k8o)(mg:k8r)(base:aA)(N:List ah)(qual:ah)(scope:aY)(f:aa)(cd:a8)(A:az)(outer:List dy)(s:af)(H:Hp)(E:XK):Cx where
 prog:=P
 w:=w
 K:=K
 mg:=mg
 base:=base
 A:=A.deeper (bo qual scope s.heap.objs.size f cd)
 N:=N
 s₀:=s
 H₀:=H
 env:=bo qual scope s.heap.objs.size f cd
 outer:=outer
 stack:=bo qual scope s.heap.objs.size f cd::outer
 ex:=[]
 calm:=a7
 fn:=λ_=>a7
 pn:=[]
 xe:=λe s'=>ao (aw P w) (A.deeper (bo qual scope s.heap.objs.size f cd)) (leaving (bo qual scope s.heap.objs.size f cd) e) (λ_ s''=>CX outer H s E e s'') (λe' s''=>CX outer H s E e' s'') s'
theorem j0r{sc:aY}{n:Nat}{x:ah}(h:sc.names.lookup x=a3 .cell):∃c,(aM n sc.names []).lookup x=a3 c:=by have q:=W.cellsFrom_some sc.names n [] (.inl h);exact Xw.mp q
theorem j5j{CX:CXT}{P:au}{w:ax}{K:k8o}{mg:k8r}{base:aA}{N ps:List ah}{qual:ah}{scope:aY}{f:aa}{cd:a8}{A:az}{outer:List dy}{s s1:af}{H:Hp}{E:XK}{us:List a8}{vs:List V}
  (S:FnScope N ps scope) (cm:Bool) (hd:cm=a7->A.handled=a6) (e0:Env0 P w K mg base A outer s H) (hl:vs.length=ps.length) (r:Vals vs us)
  (x:InCallC s s.heap.objs.size (iv (bo qual scope s.heap.objs.size f cd).kindOf (ps.zip us) λ_=>a6) (aM (s.heap.objs.size+1) scope.names []) (iw (bo qual scope s.heap.objs.size f cd).kindOf (ps.zip us) λ_=>a6) s1) :
  Inv { v9 CX P w K mg base N qual scope f cd A outer s H E with calm:=cm } [] (start N vs) H s1:=by
 have hpl:ps.length<=N.length:=by have:=congrArg cF S.pre;rw[Xp]at this;omega
 obtain⟨h1,tk,rfl,hk⟩:=x.done;have noA:∀b:aa,b∉(v9 CX P w K mg base N qual scope f cd A outer s H E).ex:=λb z=>absurd (show b∈([]:List aa)from z) (by simp);refine⟨⟨e0.mod,S.kind,rfl,rfl,X3 _,λy z c h1 h2=>?_,λy hy=>?_,λy c _ h=>?_,hd,Around.frames_deeper e0.frames,.inr ⟨rfl,rfl⟩,λb z=>absurd z (noA b),e0.bs,e0.bsz,λb _ _=>noA b,λb z=>absurd z (noA b),e0.funs,e0.frf⟩,
  rfl,e0.bare,Un.kept hk,⟨_,x.toInCall.ns,λi y v h1 h2 h3=>?_⟩,λy c h=>⟨_,x.cell y c h⟩,e0.hok.fresh (X3 _),λy c h=>?_,λp hp=>absurd (show p∈([]:k8q)from hp) (by simp),e0.hok.kept hk,?_⟩
 .exact name_of_addr x.apart (Pn h1) (Pn h2)
 .have hy:scope.names.lookup y=a3 .cell\/scope.names.lookup y=a3 .free:=hy;rcases hy with hy|hy
  .exact j0r hy
  .exact absurd rfl (S.nofree _ (Pn hy))
 .exact cP (x.above y c (Pn h))
 .have hi:i<vs.length:=by
   unfold start at h2;by_cases hi:i<vs.length
   .exact hi
   .rw[cR (by simpa using hi)]at h2;rw[gv]at h2;split at h2<;>cases h2
  have ha:vs[i]?=a3 v:=by
   unfold start at h2;rw[t7 (by simpa using hi),xx]at h2;cases e:vs[i]? with
   |none=>rw[e]at h2;cases h2
   |some a=>rw[e]at h2;cases h2;rfl
  obtain⟨u,hu,rv⟩:=r.get ha;have hp:ps[i]?=a3 y:=by rw[<-S.pre,List.getElem?_take_of_lt nofun];exact h1
  have ndP:ps.Nodup:=by rw[<-S.pre];exact S.nd.sublist (List.take_sublist _ _)
  refine⟨u,rv,?_⟩;rcases S.par y (Xo hp)with k|k
  .exact .inl ⟨k,K1 ndP hp hu k⟩
  .obtain⟨c,e⟩:=j0r (n:=s.heap.objs.size+1) k;refine .inr ⟨.inl k,c,e,?_⟩;have q:=x.cell y c e;rw[K4 ndP hp hu (by show scope.names.lookup y≠_;rw[k];decide)]at q;exact q
 .exact e0.hok.fresh (cP (x.above y c (Pn h)))
 .unfold start;show _=N.length;rw[Xb,xf,Pg];omega
theorem Inv.extOut{X:Cx}{pins:k8q}{σ:St}{H H2:Hp}{s:af}(J:Inv X pins σ H s)(x:Ext X H H2 s):HOk X.prog X.w H2 s.heap/\(X.ex=[]->Un X.fs [] X.H₀ H2 X.s₀.heap s.heap):=by
 have old:∀b o,X.s₀.heap.get? b=a3 o->H2 b=H b:=λb o e=>(x b).elim id λ⟨y,ob,v,hc,hf,_⟩=>absurd (Xf (xu e) (J.ok.cab y b hf hc)) (pq _);have trk:∀{b:aa}{u:HO},H b=a3 u->H2 b=a3 u:=λ{b u} e=>(x b).elim (λz=>z.trans e) λ⟨y,ob,v,hc,_⟩=>by rw[J.freeC y b hc]at e;cases e
 refine⟨λa o e=>?_,λhx=>?_⟩
 .rcases x a with z|⟨y,ob,v,_,_,e2,e3,_⟩
  .exact(J.hok a o (z▸e)).stay (λ_ _ _ q=>q) (λ_ q=>trk q) (λ_ _ q=>trk q) λ_ _ _ q=>trk q
  .rw[e2]at e;cases e;exact⟨e3,ob,e3⟩
 .have nx:∀b,b∉X.ex:=λb=>by rw[hx];simp
  exact⟨λb o e n hb _=>J.base.keep b o e n hb (nx b),λb o e n hb _=>J.base.slot b o e n hb (nx b),λb o e n _=>(old b o e).trans (J.base.free b o e n (nx b)),λb o e _=>J.base.there b o e (nx b),
   λb xs e=>trk (J.base.tups b xs e),λb o u e=>trk (J.base.frzs b o u e),λb ps e=>let ⟨m,z⟩:=J.base.tbls b ps e;⟨m,trk z⟩⟩
theorem j9r{CX:CXT}{P:au}{w:ax}{K:k8o}{mg:k8r}{base:aA}{k:Nat}{f:aa}{name qual:ah}{params:d7}{body:List aX}{scope:aY}{dV kV doc pm cdv ct oc:a8}{an od:Option aa}
  {osl:Array (Option a8)} {N ps:List ah} {sp:Sp} (lk:K.lookup f=a3 ⟨oc,od,.func (W.fnOf name qual params body scope dV kV doc pm an cdv ct),osl⟩) (hcd:W.codeIn K cdv qual=a7) (S:FnScope N ps scope)
  (len:∀vs H Q E,sp vs H Q E->vs.length=ps.length)
  (hbody:∀(A:az)(outer:List dy)(s:af)(H:Hp)(vs:List V)(Q:VK)(E:XK),Room k (A.deeper (bo qual scope s.heap.objs.size f cdv))->sp vs H Q E ->
   ∃t,PSs (v9 CX P w K mg base N qual scope f cdv A outer s H E) body t/\t { nx:=λ_ H'=>Q .non H',rt:=Q } (start N vs) H) :
  FnOk P w K mg base CX (k+1) f (W.fnOf name qual params body scope dV kV doc pm an cdv ct) ps sp:=by
 refine⟨len,λA outer s H args us vs Q E hr e0 hb r hsp=>?_⟩;have hl:=len _ _ _ _ hsp;have KX:K.In s.heap:=e0.mod.kin.keeps λb o e=>(e0.bs b o e).1;have lim:s.heap.NoLimit:=e0.mod.nolimit.keeps λb o e=>(e0.bs b o e).1;have hkind:∀y∈ps.zip us,scope.names.lookup y.1=a3 .local\/(scope.names.lookup y.1=a3 .cell/\((aM (s.heap.objs.size+1) scope.names []).lookup y.1).isSome=a7):=λ⟨n,v⟩ hy=>by
  rcases S.par n (dF hy).1 with q|q
  .exact .inl q
  .exact .inr ⟨q,W.cellsFrom_some _ _ _ (.inl q)⟩
 refine codeAny_call_function hr.depth (KX _ _ lk) rfl S.co S.gen rfl (W.codeRec_of KX hcd) (hb _ _ _ _ ?_);refine wpAny_newFunctionEnv_cells S.kind hkind λenv he s1 x=>?_;subst he;refine⟨lim.keeps x.toInCall.keep,codeAny_func ?_⟩;obtain⟨t,ht,hq⟩:=hbody A outer s H vs Q E (hr.deeper _) hsp;have I:Inv (v9 CX P w K mg base N qual scope f cdv A outer s H E) [] (start N vs) H s1:=j5j S a7 (λ_=>hr.hd) e0 hl r x;refine bg (ht [] s1 (start N vs) H _ I hq) (λfl s' hs=>?_) λe s' hs=>hs;have fin:∀{σ':St}{H':Hp}{v:V}{u:a8},Inv (v9 CX P w K mg base N qual scope f cdv A outer s H E) [] σ' H' s'->RelV v u->Q v H'->CE outer P w H s Q u s' :=
  λ{σ' H' v u} J rv q=>⟨v,H',J.os,J.bare,J.base,J.hok,rv,q⟩
 cases fl with
 |ret u =>obtain⟨v,σ',H',H2,J,rv,x,q⟩:=hs;exact⟨v,H2,J.os,J.bare,(J.extOut x).2 rfl,(J.extOut x).1,rv,q⟩
 |next =>obtain⟨σ',H',J,q⟩:=hs;exact fin (v:=V.non) (u:=aP) J rfl q
 |brk =>obtain⟨_,_,_,q⟩:=hs;exact b7 q
 |cont =>obtain⟨_,_,_,q⟩:=hs;exact b7 q
section
variable{X:Cx}{x:ah}{p pos:aK}{e:aj}{es:List aj}{t:TA}{id T:String}{r:List V->Hp->VK->Prop}
def tCB(r:List V->Hp->VK->Prop)(t:TA):TE:=λσ H Q=>t σ H λvs H1=>r vs H1 Q
theorem J9 (hc:Q7 X (.builtin id) r) (hg:Gl X x) (hm:X.mg x=a6) (hv:dY x=a3 (.builtin id)) (ha:PA X (e::es) t) (hn:x ≠ "__name__":=by decide) (hdb:(x==k8s)=a4:=by decide)
  (he:a9 (e::es) X.env=(a4,ay e X.env)::a9 es X.env:=by rfl) (hpl:(aO pos (a9 es X.env)).any (·.1)=a4:=by rfl):PE X (.Call (.Name x p) (e::es) [] pos) (tCB r t):=by
 intro pins s σ H Q I h;refine aH (Z2 I hg hm hv ?_ hn hdb);exact callWith_builtin1 (thn (ha pos pins s σ H _ I h) λus s1 ⟨vs,H1,I1,r1,q1⟩=>hc pins s1 σ H1 vs us Q I1 r1 q1) he hpl
theorem Wx (hc:Q7 X (.type T) r) (hg:Gl X x) (hm:X.mg x=a6) (hv:dY x=a3 (.type T)) (ha:PA X (e::es) t) (hn:x ≠ "__name__":=by decide) (hdb:(x==k8s)=a4:=by decide)
  (he:a9 (e::es) X.env=(a4,ay e X.env)::a9 es X.env:=by rfl) (hpl:(aO pos (a9 es X.env)).any (·.1)=a4:=by rfl):PE X (.Call (.Name x p) (e::es) [] pos) (tCB r t):=by
 intro pins s σ H Q I h;refine aH (Z2 I hg hm hv ?_ hn hdb);exact callWith_type1 (thn (ha pos pins s σ H _ I h) λus s1 ⟨vs,H1,I1,r1,q1⟩=>hc pins s1 σ H1 vs us Q I1 r1 q1) he hpl
end
end L2
namespace HT
open PySem PyProof.Rows
noncomputable def lexLt:List Int->List Int->Bool
 |[],[]=>a4
 |[],_::_=>a7
 |_::_,[]=>a4
 |x::xs,y::ys=>if x=y then lexLt xs ys else decide (x<y)
theorem lexLt_cons(x y:Int)(xs ys:List Int):lexLt (x::xs) (y::ys)=if x=y then lexLt xs ys else decide (x<y):=rfl
theorem Kf:lexLt [] []=a4:=rfl
theorem Dp(y:Int)(ys:List Int):lexLt [] (y::ys)=a7:=rfl
theorem Dq(x:Int)(xs:List Int):lexLt (x::xs) []=a4:=rfl
theorem eqAt_int(A:az)(s:af)(a:Int)(t:gy)(c:Int)(u:gy):∃e,cA A s (.int a t) (.int c u) e/\(e=a7↔a=c) :=
 ⟨(a==c),SeqAt.EqAt.int_int a t c u,by simp⟩
theorem rcLt_int(A:az)(s:af)(a:Int)(t:gy)(c:Int)(u:gy)(prog:au)(w:ax)(E:k8p)(Q:k8p)(h:Q (.bool (decide (a<c))) s) :
  ao (aw prog w) A (gf .Lt (.int a t) (.int c u)) Q E s :=
 (lt_int h:ao (aw prog w) A (aL .Lt (.int a t) (.int c u)) Q E s)
section
open PySem.SeqAt
open PySem.AutoSeq1 (wpAny_loadPart')
open PySem.MeetsSeq PySem.MeetsSeq2 PySem.MeetsSeq3
theorem K8(l b:aa)(items items2:Array a8)(n n2:Nat)(dd dd2:Option aa)(sl sl2:Array (Option a8))(ns ms:List Int)(hi:cL items.toList ns)(hj:cL items2.toList ms) :
  jG (d4.«tuple.__lt__» ⟨[.ref l,.ref b],[]⟩)
   (λ_ R s=>s.heap.get? l=a3 { cls:=.type "tuple",dict:=dd,data:=.seq items n,slots:=sl }/\s.heap.get? b=a3 { cls:=.type "tuple",dict:=dd2,data:=.seq items2 n2,slots:=sl2 } /\
    R (.ok (.ret (.bool (lexLt ns ms)))) s) :=
 .of_wp λprog w A R s h=>by
  obtain⟨hp,g,d,tk,os⟩:=s;obtain⟨hl,hb,h⟩:=h;have f2:=fE;have z1:items.size=ns.length:=by rw[<-hi.length];simp
  have z2:items2.size=ms.length:=by rw[<-hj.length];simp
  wp_walk using cX hl,cX hb,fT _ (λrest b s'=>b.1=a6/\s'=⟨hp,g,d,tk,os⟩/\∃(vs ws:List a8)(ns' ms':List Int),rest=vs.zip ws /\
   cL vs ns'/\cL ws ms'/\ns'.length+items2.size=ms'.length+items.size/\R (.ok (.ret (.bool (lexLt ns' ms')))) ⟨hp,g,d,tk,os⟩) _
  case turn =>
   rintro⟨y,x⟩ rest b s' ⟨hb',rfl,vs,ws,ns',ms',hz,hvi,hwi,hlen,hR⟩;cases hvi with
   |nil=>rw[List.zip_nil_left]at hz;cases hz
   |cons a t hvi' =>
    cases hwi with
    |nil=>rw[List.zip_nil_right]at hz;cases hz
    |cons c u hwi' =>
     rw[iB]at hz;injection hz with hyx hrest;injection hyx with hy hx;subst hy hx;rw[lexLt_cons]at hR;simp only[xq]at hlen;obtain⟨e,he,hiff⟩:=eqAt_int A.in1 ⟨hp,g,d,tk,os⟩ a t c u;refine a5 (he prog w _ _ ?_);cases e with
     |true =>
      rw[if_pos (hiff.mp rfl)]at hR
      wp_walk
      exact⟨rfl,rfl,_,_,_,_,hrest,hvi',hwi',by omega,hR⟩
     |false =>
      rw[if_neg (λq=>absurd (hiff.mpr q) xj)]at hR;have hri:=rcLt_int A.in1 ⟨hp,g,d,tk,os⟩ a t c u prog w
      wp_walk using hri
      exact⟨_,rfl,by simpa using hR⟩
  case fin =>
   rintro⟨b1,b2⟩ s' ⟨hb',rfl,vs,ws,ns',ms',hz,hvi,hwi,hlen,hR⟩;simp only at hb';subst hb';have hv:lexLt ns' ms'=decide (items.size<items2.size):=by
    cases hvi with
    |nil =>
     cases hwi with
     |nil =>simp only[t8]at hlen;rw[Kf];exact(decide_eq_false nofun).symm
     |cons c u hw =>simp only[t8,xq]at hlen;rw[Dp];exact(decide_eq_true nofun).symm
    |cons a t hv =>
     cases hwi with
     |nil =>simp only[t8,xq]at hlen;rw[Dq];exact(decide_eq_false nofun).symm
     |cons c u hw =>rw[iB]at hz;cases hz
   rw[hv]at hR
   wp_walk
   exact⟨_,rfl,by simpa [dJ]using hR⟩
  case h =>exact⟨rfl,rfl,items.toList,items2.toList,ns,ms,rfl,hi,hj,by omega,h⟩
end
section
variable{prog:au}{w:ax}{A:az}{E:k8p}{s:af}
theorem lt_tupInts{l b:aa}{items items2:Array a8}{ns ms:List Int}{Q:k8p}(hl:gR s.heap l items)(hb:gR s.heap b items2)(hi:cL items.toList ns)(hj:cL items2.toList ms)
  (hu:A.units<aI) (h:Q (.bool (lexLt ns ms)) s):ao (aw prog w) A (aL .Lt (.ref l) (.ref b)) Q E s:=by
 obtain⟨⟨cls,dd,data,sl⟩,ho,hc,n,hd⟩:=id hl;obtain⟨⟨cls2,dd2,data2,sl2⟩,ho2,hc2,n2,hd2⟩:=id hb;simp only at hc hd hc2 hd2;subst hc hd hc2 hd2;exact iJ (op:=.Lt) ⟨_,ho,rfl⟩ ⟨_,ho2,rfl⟩ g9 fQ (fN _ _) (K8 l b items items2 n n2 dd dd2 sl sl2 ns ms hi hj)
  ⟨ho,ho2,show bG (lexLt ns ms)≠gD/\Q (.bool (lexLt ns ms)) s from⟨(λx=>nomatch x),h⟩⟩ hu
theorem cat_tup{t b:aa}{vs ws:List a8}{Q:k8p}(ht:gR s.heap t vs.toArray)(hb:gR s.heap b ws.toArray)(hv:vs≠[])
  (h1:ws=[]->Q (.ref t) s) (h2:ws≠[]->Q (.ref s.heap.objs.size) { s with heap:=s.heap.push { cls:=.type "tuple",data:=.seq (vs++ws).toArray } })
  (hsz:vs.length+ws.length<=ak):ao (aw prog w) A (aW .Add (.ref t) (.ref b)) Q E s:=by
 obtain⟨⟨cls,dd,data,sl⟩,ho,hc,n,hd⟩:=id ht;obtain⟨⟨cls2,dd2,data2,sl2⟩,ho2,hc2,n2,hd2⟩:=id hb;simp only at hc hd hc2 hd2;subst hc hd hc2 hd2;have e:vs.toArray++ws.toArray=(vs++ws).toArray:=by simp
 by_cases hw:ws=[]
 .exact fK ⟨_,ho,rfl⟩ ⟨_,ho2,rfl⟩ fW ig dh cZ (cV _ _)
   (tuple_addW1 t b vs.toArray ws.toArray n n2 dd dd2 sl sl2 (by simpa using hv) (by simp[hw])) ⟨ho,ho2,h1 hw⟩
 .refine fK ⟨_,ho,rfl⟩ ⟨_,ho2,rfl⟩ fW ig dh cZ (cV _ _)
   (tuple_addW2 t b vs.toArray ws.toArray n n2 dd dd2 sl sl2 (by simpa using hv) (by simpa using hw) (by rw[X8,X8];exact hsz)) ⟨ho,ho2,?_⟩
  rw[e];exact h2 hw
noncomputable def sIx(n d:Nat):Option Int->Nat
 |none=>d
 |some v=>if v<0 then(v+(n:Int)).toNat else min v.toNat n
theorem sIx_none(n d:Nat):sIx n d a6=d:=rfl
theorem sIx_nat(n d k:Nat):sIx n d (a3 (k:Int))=min k n:=by show(if (k:Int)<0 then((k:Int)+(n:Int)).toNat else min (k:Int).toNat n)=min k n;rw[if_neg nofun,Xh]
theorem jd5(n d:Nat)(hd:d<=n)(o:Option Int):sIx n d o<=n:=by
 cases o with
 |none=>exact hd
 |some v =>
  show(if v<0 then(v+(n:Int)).toNat else min v.toNat n)<=n;by_cases hv:v<0
  .rw[if_pos hv];omega
  .rw[if_neg hv];exact Nat.min_le_right _ _
theorem j2l(v:Int)(n d:Nat):(if v<0 then max (v+(n:Int)) 0 else min v (n:Int))=((sIx n d (a3 v):Nat):Int):=by
 show(if v<0 then max (v+(n:Int)) 0 else min v (n:Int))=(((if v<0 then(v+(n:Int)).toNat else min v.toNat n):Nat):Int)
 by_cases hv:v<0
 .simp only[if_pos hv];omega
 .simp only[if_neg hv];omega
theorem j3w(lo hi:Option Int)(n:Nat):cD lo hi 1 (n:Int)=(((sIx n 0 lo:Nat):Int),((sIx n n hi:Nat):Int)):=by
 have h1:¬((1:Int)<0):=by omega
 unfold cD;simp only[h1,if_false];refine Prod.ext ?_ ?_
 .cases lo with
  |none=>rfl
  |some v=>exact j2l v n 0
 .cases hi with
  |none=>rfl
  |some v=>exact j2l v n n
theorem j38(i j:Nat):bx (i:Int) (j:Int) 1=j-i:=by
 unfold bx;have h1:(1:Int)>0:=by omega
 simp only[h1,if_true,Int.ediv_one];split<;>omega
theorem By{v:a8}{o:Option Int}{Q:Option Int->af->Prop}(p:eW v o)(h:Q o s):ao (aw prog w) A (kJ v) Q E s:=by
 cases p with
 |none=>exact lM h
 |int i t=>exact slicePart_int h
theorem Oj{sl:aa}{vl vu:a8}{lo hi:Option Int}{n:Nat}{Q:Int×Int×Nat->af->Prop}(hs:s.heap.IsSliceOf sl vl vu .none)(pl:eW vl lo)(pu:eW vu hi)
  (h:Q (((sIx n 0 lo:Nat):Int),1,sIx n n hi-sIx n 0 lo) s):ao (aw prog w) A (eG (.ref sl) (pure (n:Int))) Q E s:=by
 obtain⟨os,hos,hcs,hds⟩:=id hs;unfold eG kK;refine a5 (a5 (cy hos hds (x:=vl) rfl (a5 (cy hos hds (x:=vu) rfl (a5 (cy hos hds (x:=.none) rfl (ai ?_)))))));refine a5 (lM ?_);show ao _ _ (if ((1:Int)==0)=a7 then _ else _) _ _ s;rw[if_neg (by decide)];refine a5 (By pl (a5 (By pu (a5 (ai ?_)))));show ao _ _ (match cD lo hi 1 (n:Int)with|(lo,hi)=>pure (lo,(1:Int),bx lo hi 1)) _ _ s;rw[j3w lo hi n];show ao _ _ (pure (((sIx n 0 lo:Nat):Int),(1:Int),bx ((sIx n 0 lo:Nat):Int) ((sIx n n hi:Nat):Int) 1)) _ _ s;rw[j38];exact ai h
theorem j7g(xs:Array a8)(i k:Nat):((ar k).filterMap λ(m:Nat)=>xs[((i:Int)+(m:Int)*1).toNat]?).toArray=((xs.toList.drop i).take k).toArray:=by
 have e:(λ(m:Nat)=>xs[((i:Int)+(m:Int)*1).toNat]?)=λm=>xs[i+m]?:=by
  funext m
  have:((i:Int)+(m:Int)*1).toNat=i+m:=by omega
  rw[this]
 rw[e];have:=pick_run xs i k;rw[List.filterMap_map]at this;have e2:((λx=>xs[x]?) ∘ λx=>i+x)=λm=>xs[i+m]?:=rfl;rw[e2]at this;rw[this]
theorem getItem_tuple_cut{t sl:aa}{items:Array a8}{vl vu:a8}{lo hi:Option Int}{Q:k8p}(ht:gR s.heap t items)(hs:s.heap.IsSliceOf sl vl vu .none)(pl:eW vl lo)(pu:eW vu hi)
  (hw:¬(sIx items.size 0 lo=0/\sIx items.size items.size hi=items.size))
  (h:Q (.ref s.heap.objs.size) { s with heap:=s.heap.push { cls:=.type "tuple",data:=.seq ((items.toList.drop (sIx items.size 0 lo)).take (sIx items.size items.size hi-sIx items.size 0 lo)).toArray } })
  (hsz:items.size<=ak):ao (aw prog w) A (iL (.ref t) (.ref sl)) Q E s:=by
 have htake:sizeOk (.seq ((items.toList.drop (sIx items.size 0 lo)).take (sIx items.size items.size hi-sIx items.size 0 lo)).toArray):=by show((items.toList.drop (sIx items.size 0 lo)).take (sIx items.size items.size hi-sIx items.size 0 lo)).toArray.size<=ak;rw[X8,Xp,T4,cG];omega
 have hj:sIx items.size items.size hi<=items.size:=jd5 _ _ (X3 _) hi;obtain⟨os,hos,hcs,hds⟩:=id hs;have hTs:s.TypeIs (.ref sl) "slice":=⟨os,hos,hcs⟩
 unfold iL
 try with_reducible refine cK ?_
 first|refine a5 (ai ?_)|skip
 refine a5 (wpAny_sequenceKey ht.typeIs (by decide) ?_);refine a5 (br (name:=cN "__getitem__") ht.typeIs jY
  (bq jY ht.typeIs entry_tuple_getitem ?_ (args_tuple_getitem _ _)))
 show ao _ _ (kI (.ref t) >>= _) _ _ s;refine a5 (tupleItemsOf_ ht ?_);refine a5 (wpAny_typeOf hTs ?_);rw[if_pos (by decide)];refine a5 (Oj hs pl pu ?_);have hno:¬((((sIx items.size 0 lo:Nat):Int)==0&&(1:Int)==1&&(sIx items.size items.size hi-sIx items.size 0 lo)==items.size)=a7):=by intro q;rw[Xi,Xi]at q;have q1:((sIx items.size 0 lo:Nat):Int)=0:=eq_of_beq q.1.1;have q2:sIx items.size items.size hi-sIx items.size 0 lo=items.size:=eq_of_beq q.2;exact hw ⟨by omega,by omega⟩
 show ao _ _ (if (((sIx items.size 0 lo:Nat):Int)==0&&(1:Int)==1&&(sIx items.size items.size hi-sIx items.size 0 lo)==items.size)=a7 then _ else _) _ _ s;rw[if_neg hno,j7g]
 first
  |exact a5 (m:=aU _) (aG (ai ⟨_,rfl,ai h⟩) htake)
  |exact a5 (m:=aU _) (aG (a5 (ai (ai ⟨_,rfl,ai h⟩))) htake)
  |exact a5 (a5 (m:=aU _) (aG (ai (ai ⟨_,rfl,ai h⟩)) htake))
  |exact a5 (a5 (m:=aU _) (aG (ai ⟨_,rfl,ai h⟩) htake))
end
end HT
namespace L2
open PySem PySem.Spec PyProof.Rows
abbrev TO:=St->Hp->(Option Int->Hp->Prop)->Prop
def PO(X:Cx)(e:Option aj)(t:TO):Prop :=
 ∀(pins:k8q) (s:af) (σ:St) (H:Hp) (Q:Option Int->Hp->Prop),Inv X pins σ H s->t σ H Q ->
  ao (aw X.prog X.w) X.A (evalPart e X.env) (λu s'=>∃o H',Inv X pins σ H' s'/\eW u o/\Q o H') X.xe s
def ja5:TO:=λ_ H Q=>Q a6 H
def jgp(t:TE):TO:=λσ H Q=>t σ H λx H1=>∃i,x=.int i/\Q (a3 i) H1
theorem intsAre_of{ns:List Int}:∀{us:List a8},Vals (ns.map V.int) us->cL us ns:=by
 induction ns with
 |nil=>intro us r;rw[cM]at r;cases r;exact .nil
 |cons n ns ih =>
  intro us r;rw[X4]at r;cases r with
  |cons r1 r2 =>obtain⟨t,e⟩:=r1;subst e;exact .cons n t (ih r2)
section
variable{X:Cx}{e:aj}{te:TE}{lo hi:Option aj}{tl th:TO}{pos p2:aK}
theorem jaw:PO X a6 ja5:=by intro pins s σ H Q I h;rw[lQ];exact ai ⟨a6,H,I,.none,h⟩
theorem jav(h:PE X e te):PO X (a3 e) (jgp te):=by intro pins s σ H Q I hw;rw[evalPart_some];refine thn (h pins s σ H _ I hw) λu s1 ⟨x,H1,I1,r1,q1⟩=>?_;obtain⟨i,rfl,q⟩:=q1;obtain⟨t,rfl⟩:=r1;exact⟨a3 i,H1,I1,.int i t,q⟩
def SlR(X:Cx)(r:V->Option Int->Option Int->Hp->VK->Prop):Prop :=
 ∀(pins:k8q) (s:af) (σ:St) (H:Hp) (x:V) (v vl vu:a8) (lo hi:Option Int) (sl:aa) (Q:VK),Inv X pins σ H s->RelV x v->s.heap.IsSliceOf sl vl vu .none->eW vl lo->eW vu hi->r x lo hi H Q ->
  ∃T id,typeLookup (.type T) "__getitem__" = pure (a3 (.builtin id))/\s.TypeIs v T/\ao (aw X.prog X.w) X.A (iL v (.ref sl)) (EP X pins σ Q) X.xe s
def tSl(r:V->Option Int->Option Int->Hp->VK->Prop)(te:TE)(tl th:TO):TE:=λσ H Q=>te σ H λx H1=>tl σ H1 λl H2=>th σ H2 λu H3=>r x l u H3 Q
theorem Ou{r:V->Option Int->Option Int->Hp->VK->Prop}(hr:SlR X r)(he:PE X e te)(hl:PO X lo tl)(hu:PO X hi th):PE X (.Subscript e (.Slice lo hi a6 p2) pos) (tSl r te tl th):=by intro pins s σ H Q I h;refine Subscript_ (thn (he pins s σ H _ I h) λv s1 ⟨x,H1,I1,r1,q1⟩=>?_);refine wpAny_Slice (thn (hl pins s1 σ H1 _ I1 q1) λvl s2 ⟨l,H2,I2,pl,q2⟩=>thn (hu pins s2 σ H2 _ I2 q2) λvu s3 ⟨u,H3,I3,pu,q3⟩=>?_);rw[lQ];refine ai ?_;have I4:Inv X pins σ H3 { s3 with heap:=s3.heap.push { cls:=.type "slice",data:=.fields #[vl,vu,.none] } }:=I3.kept (t':=s3.toks) λb ob q=>xg _ q;obtain⟨T,id,hT,ht,hg⟩:=hr pins { s3 with heap:=s3.heap.push { cls:=.type "slice",data:=.fields #[vl,vu,.none] } } σ H3 x v vl vu l u s3.heap.objs.size Q I4 r1 (Heap.IsSliceOf.new ..) pl pu q3;show ao (aw X.prog X.w) X.A (lS e (.Slice lo hi a6 p2) v (.ref s3.heap.objs.size)) (EP X pins σ Q) X.xe { s3 with heap:=s3.heap.push { cls:=.type "slice",data:=.fields #[vl,vu,.none] } };exact lL (ops:=[.ref s3.heap.objs.size,v]) ht hT hg (by with_unfolding_all rfl)
noncomputable def Rr(xs:List V)(lo hi:Option Int):List V:=(xs.drop (HT.sIx xs.length 0 lo)).take (HT.sIx xs.length xs.length hi-HT.sIx xs.length 0 lo)
theorem Oa(xs:List V)(lo hi:Option Int):(Rr xs lo hi).length<=xs.length:=by unfold Rr;rw[Xp,T4];omega
def jj8(K:k8o):V->Option Int->Option Int->Hp->VK->Prop:=λx lo hi H Q=>∃a xs,x=.ref a/\SqT K H a xs /\
 ¬(HT.sIx xs.length 0 lo=0/\HT.sIx xs.length xs.length hi=xs.length)/\∀p,H p=a6->Q (.ref p) (upd H p (.tup (Rr xs lo hi)))
theorem jcv:SlR X (jj8 X.K):=by
 intro pins s σ H x v vl vu lo hi sl Q I rx hs pl pu h;obtain⟨a,xs,rfl,hx,hw,q⟩:=h;cases rx;obtain⟨its,r,ht,hz⟩:=I.tuple hx;have hlen:its.toArray.size=xs.length:=by rw[X8];exact r.length.symm
 refine⟨"tuple",_,slot_tuple_getitem.lookup,ht.typeIs,?_⟩;refine HT.getItem_tuple_cut ht hs pl pu (by rw[hlen];exact hw) ?_ (by rw[hlen];exact hz);rw[hlen];refine⟨.ref s.heap.objs.size,_,I.laid (t':=s.toks) (o:=.tup (Rr xs lo hi)) (λb ob q=>xg _ q) (X3 _) ?_,rfl,q _ (I.hok.fresh (X3 _))⟩;exact⟨Xg (Oa xs lo hi) hz,_,(r.drop (HT.sIx xs.length 0 lo)).take (HT.sIx xs.length xs.length hi-HT.sIx xs.length 0 lo),IsTup.new _ _,Zx.new _ _⟩
def jh7(K:k8o):R2:=λx y H Q=>∃a b xs ys,x=.ref a/\y=.ref b/\SqT K H a xs/\SqT K H b ys/\xs≠[]/\xs.length+ys.length<=ak /\
 (ys=[]->Q (.ref a) H)/\(ys≠[]->∀p,H p=a6->Q (.ref p) (upd H p (.tup (xs++ys))))
theorem Vals.nil_iff{xs:List V}{us:List a8}(r:Vals xs us):us=[]↔xs=[]:=by
 cases r with
 |nil=>simp
 |cons _ _=>simp
theorem jb2:OpR X (aW .Add) (jh7 X.K):=by intro pins s σ H x y v u Q I rx ry h;obtain⟨a,b,xs,ys,rfl,rfl,ha,hb,hx,hz,q1,q2⟩:=h;cases rx;cases ry;obtain⟨its,r1,p1,_⟩:=I.tuple ha;obtain⟨its2,r2,p2,_⟩:=I.tuple hb;refine HT.cat_tup p1 p2 (λz=>hx (r1.nil_iff.mp z)) (λz=>⟨.ref a,H,I,rfl,q1 (r2.nil_iff.mp z)⟩) (λz=>?_) (by rw[<-r1.length,<-r2.length];exact hz);refine⟨.ref s.heap.objs.size,_,I.laid (t':=s.toks) (o:=.tup (xs++ys)) (λb ob q=>xg _ q) (X3 _) ?_,rfl,q2 (λw=>z (r2.nil_iff.mpr w)) _ (I.hok.fresh (X3 _))⟩;exact⟨by rw[Xb];exact hz,_,r1.append r2,IsTup.new _ _,Zx.new _ _⟩
end
noncomputable def ixN(n:Nat)(i:Int):Option Nat:=if 0<=i then(if i<n then a3 i.toNat else a6)else if -(n:Int)<=i then a3 (i+n).toNat else a6
noncomputable def atI{α:Type}(xs:List α)(i:Int):Option α:=(ixN xs.length i).bind λj=>xs[j]?
theorem jbi{n:Nat}{i:Int}{j:Nat}(h:ixN n i=a3 j):seqIndex? i n=a3 j/\j<n/\-(n:Int)<=i/\i<n:=by
 unfold ixN at h;by_cases h0:0<=i
 .rw[if_pos h0]at h;by_cases h1:i<n
  .rw[if_pos h1]at h;have e:i.toNat=j:=av h;exact⟨by rw[seqIndex_of h0 h1,e],by omega,by omega,h1⟩
  .rw[if_neg h1]at h;cases h
 .rw[if_neg h0]at h;by_cases h1:-(n:Int)<=i
  .rw[if_pos h1]at h;have e:(i+n).toNat=j:=av h;exact⟨by rw[seqIndex_neg nofun h1,e],by omega,h1,by omega⟩
  .rw[if_neg h1]at h;cases h
theorem Ci{α:Type}{xs:List α}{i:Int}{v:α}(h:atI xs i=a3 v):∃j,seqIndex? i xs.length=a3 j/\xs[j]?=a3 v/\j<xs.length/\-(xs.length:Int)<=i/\i<xs.length:=by
 unfold atI at h;cases e:ixN xs.length i with
 |none=>rw[e]at h;cases h
 |some j =>rw[e]at h;obtain⟨h1,h2,h3,h4⟩:=jbi e;exact⟨j,h1,h,h2,h3,h4⟩
theorem jca{α:Type}{xs:List α}{j:Nat}{v:α}(h:xs[j]?=a3 v):atI xs (j:Int)=a3 v:=by
 have hj:j<xs.length:=(X7.mp h).1;have e:ixN xs.length (j:Int)=a3 j:=by unfold ixN;rw[if_pos nofun,if_pos nofun];simp
 unfold atI;rw[e];exact h
def Yb(b:aj):Prop:=∀o i,subscripted b a4 o i=operate [o,i] (iL o i)
def IxR(X:Cx)(r:R2):Prop :=
 ∀(value slice:aj)(pins:k8q) (s:af) (σ:St) (H:Hp) (x y:V) (v u:a8) (Q:VK),Inv X pins σ H s->RelV x v->RelV y u->r x y H Q ->
  subscripted slice a4 v u=operate [v,u] (iL v u)->ao (aw X.prog X.w) X.A (lS value slice v u) (EP X pins σ Q) X.xe s
def MtR(X:Cx)(id:String)(r:V->List V->Hp->VK->Prop):Prop :=
 ∀(pins:k8q) (s:af) (σ:St) (H:Hp) (x:V) (xs:List V) (v:a8) (us:List a8) (Q:VK),Inv X pins σ H s->RelV x v->Vals xs us->r x xs H Q ->
  ao (aw X.prog X.w) X.A (call (.builtin id) (v::us)) (EP X pins σ Q) X.xe s
section
variable{X:Cx}{a b:aj}{ta tb:TE}{pos:aK}
theorem Nb{r:R2}(hr:IxR X r)(ha:PE X a ta)(hb:PE X b tb)(hs:Yb b):PE X (.Subscript a b pos) (tOp r ta tb):=by intro pins s σ H Q I h;exact Subscript_ (j8t ha hb I h λv u s2 x y H2 I2 rx ry q=>hr a b pins s2 σ H2 x y v u Q I2 rx ry q (hs _ _))
def jde(K:k8o):R2:=λx y H Q=>∃p xs i v,x=.ref p/\y=.int i/\SqL K H p xs/\atI xs i=a3 v/\Q v H
def jdc(K:k8o):R2:=λx y H Q=>∃p xs i v,x=.ref p/\y=.int i/\SqT K H p xs/\atI xs i=a3 v/\Q v H
def jdd:R2:=λx y H Q=>∃z i c,x=.str z/\y=.int i/\z.length<=ak/\atI z.cps.toList i=a3 c/\Q (.str ⟨#[c]⟩) H
theorem jbh:IxR X (jde X.K):=by
 intro value slice pins s σ H x y v u Q I rx ry h hs;obtain⟨p,xs,i,z,rfl,rfl,hq,he,q⟩:=h;cases rx;obtain⟨t,rfl⟩:=ry;obtain⟨its,r,pl,hz⟩:=I.list hq;obtain⟨j,h1,h2,h3,h4,h5⟩:=Ci he;obtain⟨w,ew,rw'⟩:=r.get h2;have hl:=r.length;have hn:=Uu;have fin:EP X pins σ Q w s:=⟨z,H,I,rw',q⟩
 by_cases h0:0<=i
 .have hj:i.toNat=j:=by rw[seqIndex_of h0 h5]at h1;exact av h1
  exact item_listR pl.isList h0 nofun (by rw[hj];simpa using ew) fin hs
 .have hj:(i+(its.toArray.size:Int)).toNat=j:=by rw[seqIndex_neg nofun h4]at h1;rw[X8,<-hl];exact av h1
  exact iM (x:=w) pl.isList.typeIs slot_list_getitem.lookup
   (wpAny_getItem_list_neg (Q:=λr s'=>r=w/\EP X pins σ Q r s') pl.isList nofun (by rw[X8]<;>omega) nofun (by rw[hj];simpa using ew) ⟨rfl,fin⟩) hs
theorem j5f:IxR X (jdc X.K):=by
 intro value slice pins s σ H x y v u Q I rx ry h hs;obtain⟨p,xs,i,z,rfl,rfl,hq,he,q⟩:=h;cases rx;obtain⟨t,rfl⟩:=ry;obtain⟨its,r,pl,hz⟩:=I.tuple hq;obtain⟨j,h1,h2,h3,h4,h5⟩:=Ci he;obtain⟨w,ew,rw'⟩:=r.get h2;have hl:=r.length;have hn:=Uu;have fin:EP X pins σ Q w s:=⟨z,H,I,rw',q⟩
 exact iM (x:=w) pl.typeIs slot_tuple_getitem.lookup
  (getItem_tuple (j:=j) (Q:=λr s'=>r=w/\EP X pins σ Q r s') pl nofun nofun (by rw[X8,<-hl];exact h1) (by simpa using ew) ⟨rfl,fin⟩) hs
theorem jek:IxR X jdd:=by
 intro value slice pins s σ H x y v u Q I rx ry h hs;obtain⟨z,i,c,rfl,rfl,hz,he,q⟩:=h;obtain⟨t,rfl⟩:=rx;obtain⟨t',rfl⟩:=ry;obtain⟨j,h1,h2,h3,h4,h5⟩:=Ci he;have hl:z.cps.toList.length=z.length:=by simp[lE]
 rw[hl]at h1 h4 h5;have hn:=Uu;exact lL (gO s z t) slot_str_getitem.lookup (getItem_str (c:=c) (by
  have e1:decide (i < -(2^63:Int))=a4:=decide_eq_false nofun
  have e2:decide (i>=2^63)=a4:=decide_eq_false nofun
  rw[e1,e2,k6]) (by rw[h1];simpa using h2) ⟨.str ⟨#[c]⟩,H,I.tok _,⟨_,rfl⟩,q⟩) hs
theorem Ea(lo hi:Option Int)(n:Nat):(cO lo hi a6 n).1=((HT.sIx n 0 lo:Nat):Int)/\(cO lo hi a6 n).2.1=((HT.sIx n n hi:Nat):Int)/\(cO lo hi a6 n).2.2=1:=by
 refine⟨?_,?_,rfl⟩
 .cases lo with
  |none=>simp[cO,HT.sIx]
  |some i =>
   simp only[cO,HT.sIx,iA,show(1:Int)>0 by decide,if_true];by_cases h:i<0
   .simp only[h,if_true]<;>omega
   .simp only[h,if_false]<;>omega
 .cases hi with
  |none=>simp[cO,HT.sIx]
  |some i =>
   simp only[cO,HT.sIx,iA,show(1:Int)>0 by decide,if_true];by_cases h:i<0
   .simp only[h,if_true]<;>omega
   .simp only[h,if_false]<;>omega
theorem Ke(its:List a8)(lo hi:Option Int):slicePick its.toArray lo hi a6=((its.drop (HT.sIx its.length 0 lo)).take (HT.sIx its.length its.length hi-HT.sIx its.length 0 lo)).toArray:=by obtain⟨h1,h2,h3⟩:=Ea lo hi its.toArray.size;unfold slicePick;rw[h1,h2,h3];simp only[sliceRange_one,pick_run,X8]<;>rfl
def jja(K:k8o):V->Option Int->Option Int->Hp->VK->Prop:=λx lo hi H Q=>∃a xs,x=.ref a/\SqL K H a xs/\∀p,H p=a6->Q (.ref p) (upd H p (.lst (Rr xs lo hi)))
theorem ja7:SlR X (jja X.K):=by intro pins s σ H x v vl vu lo hi sl Q I rx hs pl pu h;obtain⟨a,xs,rfl,hx,q⟩:=h;cases rx;obtain⟨its,r,ht,hz⟩:=I.list hx;have hlen:=r.length;refine⟨"list",_,slot_list_getitem.lookup,ht.isList.typeIs,?_⟩;refine wpAny_getItem_list_slice ht.isList hs pl pu .none (by simp) ?_ (by rw[X8]<;>omega);rw[Ke,<-hlen];refine⟨.ref s.heap.objs.size,_,I.laid (t':=s.toks) (o:=.lst (Rr xs lo hi)) (λb ob q=>xg _ q) (X3 _) ?_,rfl,q _ (I.hok.fresh (X3 _))⟩;exact⟨Xg (Oa xs lo hi) hz,_,0,(r.drop (HT.sIx xs.length 0 lo)).take (HT.sIx xs.length xs.length hi-HT.sIx xs.length 0 lo),X6 _ rfl⟩
theorem Rv:Q7 X (.builtin "len") (λxs H Q=>∃p ys,xs=[.ref p]/\(SqL X.K H p ys\/SqT X.K H p ys)/\Q (.int ys.length) H):=by
 intro pins s σ H xs us Q I r h;obtain⟨p,ys,rfl,hq,q⟩:=h;obtain⟨u,rfl,rx⟩:=vals1 r;cases rx;have hn:=Uu;rcases hq with hq|hq
 .obtain⟨its,r',pl,hz⟩:=I.list hq;have hlen:=r'.length;exact Calls.call_len_list pl.isList (by simp only[X8]<;>omega) ⟨.int ys.length,H,I.tok _,⟨s.toks+1,by rw[X8,hlen]⟩,q⟩
 .obtain⟨its,r',pl,hz⟩:=I.tuple hq;have hlen:=r'.length;exact len_tuple pl (by simp only[X8]<;>omega) ⟨.int ys.length,H,I.tok _,⟨s.toks+1,by rw[X8,hlen]⟩,q⟩
theorem j0t:Q7 X (.builtin "len") (λxs H Q=>∃z,xs=[.str z]/\z.length<=ak/\Q (.int z.length) H):=by intro pins s σ H xs us Q I r h;obtain⟨z,rfl,hz,q⟩:=h;obtain⟨u,rfl,t,rfl⟩:=vals1 r;have hn:=Uu;exact len_str nofun ⟨.int z.length,H,I.tok _,⟨_,rfl⟩,q⟩
theorem j0s:Q7 X (.type "list") (λxs H Q=>∃p ys,xs=[.ref p]/\(SqL X.K H p ys\/SqT X.K H p ys)/\∀l,H l=a6->Q (.ref l) (upd H l (.lst ys))):=by
 intro pins s σ H xs us Q I r h;obtain⟨p,ys,rfl,hq,q⟩:=h;obtain⟨u,rfl,rx⟩:=vals1 r;cases rx;have fin:∀(its:List a8),Vals ys its->ys.length<=ak->∀(h':aA)(c':Nat),(∀b o',s.heap.get? b=a3 o'->h'.get? b=a3 o') ->
   h'.get? s.heap.objs.size=a3 { cls:=.type "list",dict:=a6,data:=.seq its.toArray c',slots:=#[] }->EP X pins σ Q (.ref s.heap.objs.size) { s with heap:=h' }:=λits r' hz h' c' kp e =>
  ⟨.ref s.heap.objs.size,_,I.laid (t':=s.toks) kp (X3 _) (show jg X.prog X.w _ h' _ (.lst ys) from⟨hz,its,c',r',e⟩),rfl,q _ (I.hok.fresh (X3 _))⟩
 rcases hq with hq|hq
 .obtain⟨its,r',pl,hz⟩:=I.list hq;have hlen:=r'.length;obtain⟨o,ho,hc,n,hd⟩:=pl.isList;exact lR p (.inl rfl) ho hc hd (λh' c' kp e=>fin its r' hz h' c' kp e) (by simp only[X8]<;>omega)
 .obtain⟨its,r',pl,hz⟩:=I.tuple hq;have hlen:=r'.length;obtain⟨o,ho,hc,n,hd⟩:=pl;exact lR p (.inr rfl) ho hc hd (λh' c' kp e=>fin its r' hz h' c' kp e) (by simp only[X8]<;>omega)
theorem Kl:Q7 X (.type "tuple") (λxs H Q=>∃p ys,xs=[.ref p]/\((SqL X.K H p ys/\∀l,H l=a6->Q (.ref l) (upd H l (.tup ys)))\/(SqT X.K H p ys/\Q (.ref p) H))):=by
 intro pins s σ H xs us Q I r h;obtain⟨p,ys,rfl,h⟩:=h;obtain⟨u,rfl,rx⟩:=vals1 r;cases rx;rcases h with ⟨hq,q⟩|⟨hq,q⟩
 .obtain⟨its,r',pl,hz⟩:=I.list hq;have hlen:=r'.length;refine call_tuple_list pl.isList (λh' kp=>?_) (by simp only[X8]<;>omega);have I1:Inv X pins σ H { s with heap:=h' }:=I.kept (t':=s.toks) kp;have I2:Inv X pins σ (upd H h'.objs.size (.tup ys)) { s with heap:=h'.push { cls:=.type "tuple",data:=.seq its.toArray } } :=
   I1.laid (t':=s.toks) (λb o e=>xg _ e) (X3 _) (show jg X.prog X.w _ _ _ (.tup ys) from⟨hz,its,r',IsTup.new _ _,Zx.new _ _⟩)
  exact⟨.ref h'.objs.size,_,I2,rfl,q _ (I1.hok.fresh (X3 _))⟩
 .obtain⟨its,r',pl,hz⟩:=I.tuple hq;exact call_tuple_same pl ⟨.ref p,H,I,rfl,q⟩
def tyV(K:k8o)(T:String)(x:V)(H:Hp):Prop:=match x with
 |.str _=>T = "str"
 |.int _=>T = "int"
 |.ref p=>(T = "list"/\∃xs,SqL K H p xs)\/(T = "tuple"/\∃xs,SqT K H p xs) \/
   (T = "dict"/\((∃kvs,H p=a3 (.dK kvs))\/∃kvs,H p=a3 (.dT kvs)))\/(T = "set"/\∃S n,H p=a3 (.set S n))
 |_=>False
theorem jcl{pins:k8q}{σ:St}{H:Hp}{s:af}{T:String}{x:V}{v:a8}(I:Inv X pins σ H s)(r:RelV x v)(ty:tyV X.K T x H) :
  s.TypeIs v T/\∀a,v=.ref a->∃ob,s.heap.get? a=a3 ob/\ob.dict=a6:=by
 cases x with
 |str z =>obtain⟨t,rfl⟩:=r;cases(show T = "str" from ty);exact⟨gO s z t,λ_ e=>nomatch e⟩
 |int i =>obtain⟨t,rfl⟩:=r;cases(show T = "int" from ty);exact⟨fv s i t,λ_ e=>nomatch e⟩
 |ref p =>
  cases r;rcases ty with ⟨rfl,xs,hq⟩|⟨rfl,xs,hq⟩|⟨rfl,hk⟩|⟨rfl,S,n,hk⟩
  .obtain⟨its,_,pl,_⟩:=I.list hq;refine⟨pl.isList.typeIs,λa e=>?_⟩;cases e;obtain⟨o,n,e,c,hd,_⟩:=pl;exact⟨o,e,hd⟩
  .obtain⟨its,_,⟨o,e1,e2,_⟩,_⟩:=I.tuple hq;refine⟨⟨o,e1,e2⟩,λa e=>?_⟩;cases e;exact⟨o,e1,I.tupD hq o e1⟩
  .have z:∃o,s.heap.get? p=a3 o/\o.ExactDict:=by
    rcases hk with ⟨kvs,hk⟩|⟨kvs,hk⟩
    .obtain⟨_,_,_,_,o,_,_,e,ex,_⟩:=I.hok p _ hk;exact⟨o,e,ex⟩
    .obtain⟨_,_,_,_,o,_,_,e,ex,_⟩:=I.hok p _ hk;exact⟨o,e,ex⟩
   obtain⟨o,e,ex⟩:=z;refine⟨⟨o,e,ex.1⟩,λa e2=>?_⟩;cases e2;exact⟨o,e,ex.2.1⟩
  .obtain⟨o,_,_,_,e,ex,_⟩:=I.hok p _ hk;refine⟨⟨o,e,ex.1⟩,λa e2=>?_⟩;cases e2;exact⟨o,e,ex.2.1⟩
 |_=>exact b7 ty
def tBM(K:k8o)(T:String)(r:V->List V->Hp->VK->Prop)(to:TE)(t:TA):TE:=λσ H Q=>to σ H λx H1=>tyV K T x H1/\t σ H1 λxs H2=>r x xs H2 Q
variable{o e:aj}{es:List aj}{to:TE}{t:TA}{name:ah}{apos cpos:aK}{T id:String}{r:V->List V->Hp->VK->Prop}
theorem W4 (pa:PlainAttrs T) (slot:Slot T name id) (hty:typeOf (.builtin id)=pure (.type "method_descriptor")) (hm:MtR X id r) (ho:PE X o to) (ha:PA X (e::es) t)
  (hbase:aN o name X.env (ay o X.env)=ay o X.env:=by rfl)
  (hfew:((aO cpos (a9 (e::es) X.env)).all (λx=>!x.1)&&(bu cpos (aT [] X.env)).all (λx=>x.1.isSome)
   && decide ((e::es).length+([]:List aR).length+(if ([]:List aR).isEmpty then 0 else 1)<30))=a7:=by rfl)
  (hline:(apos.endLine==cpos.line)=a7:=by rfl) (hs:a9 (e::es) X.env=(a4,ay e X.env)::a9 es X.env:=by rfl) (hplain:(aO cpos (a9 es X.env)).any (·.1)=a4:=by rfl) :
  PE X (.Call (.Attribute o name apos) (e::es) [] cpos) (tBM X.K T r to t):=by
 intro pins s σ H Q I h;refine wpAny_Call_method_late hbase hfew hline rfl (thn (ho pins s σ H _ I h) λv s1 ⟨x,H1,I1,r1,ty,q1⟩=>?_);obtain⟨h1,h2⟩:=jcl I1 r1 ty;refine⟨T,id,pa,slot,hty,h1,h2,?_⟩;have hA:=ha cpos pins s1 σ H1 _ I1 q1;rw[hs]at hA ⊢;refine dw (by show(a4 || (aO cpos (a9 es X.env)).any (·.1))=a4;rw[hplain]<;>rfl) (gM ?_);exact thn hA λus s2 ⟨vs,H2,I2,r2,q2⟩=>hm pins s2 σ H2 x vs v us Q I2 r1 r2 q2
/- xs.append(e),list.index on a module's tuple .. are MtR facts of 06m -/
end
def MtM(X:Cx)(id:String)(r:V->List V->Hp->VK->Prop):Prop :=
 ∀(pins:k8q) (s:af) (σ:St) (H:Hp) (x:V) (xs:List V) (v:a8) (us:List a8) (Q:VK),Inv X pins σ H s->RelV x v->Vals xs us->r x xs H Q ->
  ao (aw X.prog X.w) X.A (call (.builtin id) (v::us)) (EP X pins σ Q) X.xe s
theorem Vals.one{x:V}{us:List a8}(h:Vals [x] us):∃u,us=[u]/\RelV x u:=by cases h with|cons r t=>cases t;exact⟨_,rfl,r⟩
theorem Vals.two:∀{x y:V}{us:List a8},Vals [x,y] us->∃u v,us=[u,v]/\RelV x u/\RelV y v
 |_,_,_,.cons r (.cons q .nil)=>⟨_,_,rfl,r,q⟩
theorem Vals.dropLast{xs:List V}{us:List a8}(h:Vals xs us):Vals xs.dropLast us.dropLast:=by
 induction h with
 |nil=>exact .nil
 |cons r t ih =>
  cases t with
  |nil=>exact .nil
  |cons q t'=>exact .cons r ih
theorem Vals.reverse{xs:List V}{us:List a8}(h:Vals xs us):Vals xs.reverse us.reverse:=by
 induction h with
 |nil=>exact .nil
 |cons r t ih=>rw[iO,iO];exact Vals.append ih (.cons r .nil)
theorem Vals.rep{xs:List V}{us:List a8}(h:Vals xs us):∀k:Nat,Vals (ae k xs).flatten (ae k us).flatten
 |0=>.nil
 |k+1=>by rw[Xz,Xz,Tf,Tf];exact Vals.append h (Vals.rep h k)
theorem foldl_rep(its:List a8):∀(k:Nat)(acc:List a8),
  cS (λx1 x2=>x1++x2) acc.toArray (ae k its.toArray)=(acc++(ae k its).flatten).toArray
 |0,acc=>by simp
 |k+1,acc=>by
  have e:acc.toArray++its.toArray=(acc++its).toArray:=by simp
  have e2:(acc++its)++(ae k its).flatten=acc++(ae (k+1) its).flatten:=by rw[Xz,Tf,t6]
  rw[<-e2,<-foldl_rep its k (acc++its),<-e,Xz,Pr]
section
variable{X:Cx}{pins:k8q}{σ:St}{H:Hp}{s:af}{l b:aa}{xs ys zs:List V}
theorem Inv.lset{its its':List a8}{n:Nat}{f:Array a8->Array a8}{t':Nat}(I:Inv X pins σ H s)(hH:H l=a3 (.lst xs))
  (e:s.heap.get? l=a3 { cls:=.type "list",data:=.seq its.toArray n }) (hf:f its.toArray=its'.toArray) (hv:Vals ys its') (hz:ys.length<=ak) :
  Inv X pins σ (upd H l (.lst ys)) { s with heap:=s.heap.update l (cT f),toks:=t' }:=by
 have q:=PySem.IsL.update e f;rw[hf]at q;refine I.write (x:=l) (e:=l) (by rw[hH];exact trivial) (.inl rfl) (λb' u hb hu=>(Heap.get?_update_other s.heap (cT f) (cz hb)).trans hu) ⟨_,q⟩ ?_;exact⟨hz,its',_,hv,q⟩
theorem Inv.lnew{its:List a8}{t':Nat}(I:Inv X pins σ H s)(hv:Vals ys its)(hz:ys.length<=ak) :
  Inv X pins σ (upd H s.heap.objs.size (.lst ys)) { s with heap:=s.heap.push { cls:=.type "list",data:=.seq its.toArray },toks:=t' } :=
 I.laid (λ_ _ q=>xg _ q) (X3 _) ⟨hz,its,0,hv,X6 _ rfl⟩
theorem Inv.fresh(I:Inv X pins σ H s):H s.heap.objs.size=a6:=I.hok.fresh (X3 _)
theorem Inv.lstM(I:Inv X pins σ H s)(hH:H l=a3 (.lst xs)):xs.length<=ak/\∃(its:List a8)(n:Nat),Vals xs its/\xs.length=its.length/\s.heap.get? l=a3 { cls:=.type "list",data:=.seq its.toArray n }:=by obtain⟨z,its,n,r,e⟩:=I.hok l _ hH;exact⟨z,its,n,r,r.length,e⟩
theorem j03{n:Nat}(h:n<=ak):bE n=a4:=by unfold bE;exact decide_eq_false nofun
end
section
variable{X:Cx}
def jas:V->List V->Hp->VK->Prop:=λx vs H Q=>∃l xs y,x=.ref l/\vs=[y]/\H l=a3 (.lst xs)/\xs.length<ak/\Q .non (upd H l (.lst (xs++[y])))
theorem Li:MtM X "list.append" jas:=by intro pins s σ H x vs v us Q I rx rv h;obtain⟨l,xs,y,rfl,rfl,hH,hz,q⟩:=h;cases rx;obtain⟨u,rfl,ru⟩:=rv.one;obtain⟨z,its,n,r,hl,e⟩:=I.lstM hH;refine bj gK ⟨_,e,rfl⟩ F.entry_list_append (F.args_list_append_2 _ _) (PySem.list_append l its.toArray n u (by rw[X8];omega)) ⟨e,?_⟩;refine⟨.non,_,I.lset (its':=its++[u]) hH e (by simp) (r.append (.cons ru .nil)) ?_,rfl,q⟩;rw[Xb,cB];omega
def jar:V->List V->Hp->VK->Prop:=λx vs H Q=>∃l b xs zs,x=.ref l/\vs=[.ref b]/\H l=a3 (.lst xs)/\H b=a3 (.lst zs)/\xs.length+zs.length<=ak/\Q .non (upd H l (.lst (xs++zs)))
theorem j56:MtM X "list.extend" jar:=by
 intro pins s σ H x vs v us Q I rx rv h;obtain⟨l,b,xs,zs,rfl,rfl,hH,hB,hz,q⟩:=h;cases rx;obtain⟨u,rfl,ru⟩:=rv.one;cases ru;obtain⟨z,its,n,r,hl,e⟩:=I.lstM hH;obtain⟨z2,its2,n2,r2,hl2,e2⟩:=I.lstM hB;have hsz:its.toArray.size+its2.toArray.size<=ak:=by rw[X8,X8];omega
 have hlong:¬(!its.toArray.isEmpty&&bE (its.toArray.size+its2.toArray.size))=a7:=by rw[j03 hsz,fP];exact xj
 refine bj gJ ⟨_,e,rfl⟩ F.entry_list_extend (F.args_list_extend_2 _ _)
  (AutoSeq1.list_extend_list_list_0 l its.toArray n b its2.toArray n2 hlong (by rw[X8];omega) nofun) ⟨e,e2,?_⟩
 refine⟨.non,_,I.lset (its':=its++its2) hH e (by simp) (r.append r2) ?_,rfl,q⟩;rw[Xb];omega
def jjc:R2:=λx y H Q=>∃l k xs,x=.ref l/\y=.int k/\H l=a3 (.lst xs)/\-(2^63)<=k/\k<2^63/\xs.length*k.toNat<=ak /\
 ∀p,H p=a6->Q (.ref p) (upd H p (.lst (ae k.toNat xs).flatten))
theorem len_rep{α:Type}(xs:List α)(k:Nat):(ae k xs).flatten.length=k*xs.length:=by
 induction k with
 |zero=>simp
 |succ k ih=>rw[Xz,Tf,Xb,ih,kO,Nat.add_comm]
theorem jdx:OpR X (aW .Mult) jjc:=by
 intro pins s σ H x y v u Q I rx ry h;obtain⟨l,k,xs,rfl,rfl,hH,h1,h2,hz,q⟩:=h;cases rx;obtain⟨t,rfl⟩:=ry;obtain⟨z,its,n,r,hl,e⟩:=I.lstM hH;have hlen:its.toArray.size*k.toNat<=ak:=by rw[X8,<-hl];exact hz
 have hcap:¬its.toArray.size*k.toNat>(2^63-1)/8:=by
  have:(ak:Nat)<=(2^63-1)/8:=by decide
  omega
 have hfit:¬(!Builtin.List.listFitsIndex k)=a7:=by rw[fitsIndex_both h1 h2];exact xj
 have hlong:¬bE (its.toArray.size*k.toNat)=a7:=by rw[j03 hlen];exact xj
 have hnew:cS (λx1 x2=>x1++x2) #[] (ae (if its.toArray.isEmpty=a7 then 0 else k.toNat) its.toArray)=(ae k.toNat its).flatten.toArray:=by
  have f0:∀m:Nat,cS (λx1 x2=>x1++x2) #[] (ae m its.toArray)=(ae m its).flatten.toArray:=λm=>by have:=foldl_rep its m [];rw[bX]at this;exact this
  rw[f0];cases its with
  |nil=>simp
  |cons a r'=>rw[if_neg (by simp)]
 refine i5 (T:="list") (U:="int") (by decide) ⟨_,e,rfl⟩ (λs'=>fv s' k t) noFill_list_mul ke dQ repeat_list F.slot_int_index.lookup
  (bj dQ (fv s k t) jU (jP _ _) (int___rmul___int_list k t l its.toArray n)
   ⟨e,rfl,⟨_,e,rfl⟩,bj F.slot_list_mul ⟨_,e,rfl⟩ F.entry_list_mul (F.args_list_mul_2 _ _) (AutoListH.list___mul___list_int_3 l its.toArray n k t hfit hcap hlong) ⟨e,?_⟩⟩)
 rw[hnew];exact⟨.ref _,_,I.lnew (t':=s.toks) (r.rep k.toNat) (by rw[len_rep,dC];exact hz),rfl,q _ I.fresh⟩
end
section
variable{prog:au}{w:ax}{A:az}{E:k8p}{s:af}
end
section
variable{X:Cx}
end
end L2
namespace Att
open PySem PySem.W PySem.Calls PyProof.Rows
theorem Nm{P:lK}{h:aA}:∀(ns:List Int)(vs:List a8),WellAll P h vs (ns.map WData.int)->cL vs ns:=by
 intro ns;induction ns with
 |nil =>intro vs w;rw[cM]at w;cases w;exact .nil
 |cons n ns ih =>
  intro vs w;rw[X4]at w;cases w with
  |cons a b =>cases a;exact .cons _ _ (ih _ b)
theorem j4e{l:d6}{n:Nat}(hn:l.most=a3 n){P:lK}{h:aA}{args:List WData}{vals:List a8}
  (hpre:l.row.toRowW.claim.pre args=a7) (hwl:WellAll P h vals args) :
  ∃a vs ns,vals=[aC a]/\args=[WData.list (ns.map WData.int)]/\h.get? a=a3 { cls:=.type "list",data:=.seq vs.toArray }/\cL vs ns/\ns.length<=n:=by
 have hsh:WShape.hasAll [] args [.list .int]=a7:=(pre_splitW hpre).1;have hc:l.pre.holds [] { args:=args }=a7:=(pre_splitW hpre).2;obtain⟨d,r,rfl,h1,h2⟩:=hasAllW_cons hsh;obtain rfl:=hasAllW_nil h2;obtain⟨xs,rfl,h3⟩:=hasW_list h1;obtain⟨ns,rfl⟩:=items_int h3;have hlen:ns.length<=n:=by
  unfold OpenLaw.pre at hc;have h4:(WTm.not (.lt (.lit (.int (n:Int))) (.len (.arg 0)))).holds [] { args:=[.list (ns.map .int)] }=a7:=by have h4:=(holds_andW hc).1;rw[hn]at h4;exact h4
  have h5:=condW_of h4 (w_not (w_lt w_lit (w_len_list (w_arg rfl))));rw[xf]at h5;refine Nat.le_of_not_lt λq=>?_;have q':(n:Int)<((ns.length:Nat):Int):=by omega
  first
   |(rw[decide_eq_true q']at h5;exact absurd h5 (by decide))
   |(simp at h5;omega)
 cases hwl with
 |cons w1 w2 =>
  cases w2;cases w1 with
  |list ho hall=>exact⟨_,_,ns,rfl,rfl,ho,Nm ns _ hall,hlen⟩
theorem j4o(l:d6)(args:List WData):l.row.toRowW.claim.post args (.bool a7) args=a7 :=
 postW_of (r:=l.row.toRowW) (X:=(a7==a7))
  (show WShape.has [] (.bool a7) .bool=a7 by first|rfl|decide|simp[WShape.has,WShape.arms,WShape.armsAll])
  (show(WTm.eq .res (.lit (.bool a7))).value [] { args:=args,res:=a3 (.bool a7),after:=args }=a3 (.bool (a7==a7))from w_eq_bool (w_res rfl) w_lit) rfl
theorem attach_call{l:d6}{n:Nat}{q:au}{loose:List ah}{XP:(ah->Option a8)->aA->Prop}{YP:ax->aA->Prop}{d:DefRec}
  (hn:l.most=a3 n) (hdf:d.params.defaults=[])
  (call:∀(w:ax)(s₀ s₁:af)(mg mb:k8r)(fa:aa)(o:dn)(pm cd doc:a8)(a:aa) (vs:List a8) (ns:List Int),
   Ground q loose [] XP w s₀ mg mb s₁.heap->YP w s₁.heap ->
   s₁.heap.get? fa=a3 o->o.data=.func (docDef d.name d.params d.body d.scope pm cd doc)->s₁.heap.CodeRec cd d.name->mg d.name=a3 (.ref fa) ->
   s₁.heap.get? a=a3 { cls:=.type "list",data:=.seq vs.toArray }->cL vs ns->ns.length<=n->s₁.gens = #[] ->
   cj (aw l.prog w) fL (.call (.ref fa) ⟨[.ref a],[]⟩) (λr s'=>r=.ok (.ret (.bool a7))/\OldK s₁.heap s'.heap/\s'.os=s₁.os/\dz s'.gens) s₁) :
  ib q loose XP YP l.row.toRowW d [] (λf vs=>ij f vs):=by
 intro w s₀ s₁ mg mb G Y fa o pm cd doc dV kV ho hd hcd hD hmg hg args vals as hpre hlay hrd hwl hlo;obtain rfl:dV=.none:=Dflts.none hD hdf;obtain rfl:kV=.none:=Dflts.noKw hD;obtain⟨a,vs,ns,rfl,rfl,hobj,hints,hlen⟩:=j4e hn hpre hwl;refine enter_call (bf (call w s₀ s₁ mg mb fa o pm cd doc a vs ns G Y ho (fd_plain hd) hcd hmg hobj hints hlen hg) λr s' hq=>?_);obtain⟨rfl,h2,h3,h4⟩:=hq;exact⟨.inl ⟨.bool a7,.bool a7,[],rfl,λ_=>rfl,.bool a7,j4o l _,λ_=>⟨List.Pairwise.nil,λ_ hm=>(nomatch hm)⟩⟩,h2,h3,h4⟩
section
variable{prog:au}{w:ax}{A:az}{E:k8p}{s:af}{K:lD}
end
end Att
namespace L2
open PySem PySem.Spec PyProof.Rows
theorem Cq:∀{vs:List a8}{ns:List Int},cL vs ns->Vals (ns.map V.int) vs
 |_,_,.nil=>.nil
 |_,_,.cons n t h=>.cons ⟨t,rfl⟩ (Cq h)
def Only(ts:List (aa×ah))(H:Hp):Prop:=(∀b,H b=a6\/(∃o xs,H b=a3 (.frz o (.lst xs)))\/∃q,(b,q)∈ts/\H b=a3 (.cod q))/\∀t∈ts,H t.1=a3 (.cod t.2)
def j93(ts:List (aa×ah))(h:aA):Prop:=(ts.map (·.1)).Nodup/\∀t∈ts,(∃c,iE h c t.1)/\h.get? t.1=a3 (W.tabObj #[])
theorem j1n:∀{ts:List (aa×ah)} {b:aa} {q:ah},ts.lookup b=a3 q->(b,q)∈ts
 |p::r,b,q,h=>by
  rw[Xj]at h;cases e:b==p.1 with
  |true=>rw[e]at h;cases h;rw[beq_iff_eq.mp e];exact xn ..
  |false=>rw[e]at h;exact km _ (j1n h)
theorem lookup_tab:∀{ts:List (aa×ah)},(ts.map (·.1)).Nodup->∀t∈ts,ts.lookup t.1=a3 t.2
 |[],_,_,h=>by cases h
 |p::r,nd,t,ht=>by
  rw[X4]at nd;rcases xr.mp ht with e|ht
  .subst e;rw[Xj,beq_self_eq_true]
  .have ne:(t.1==p.1)=a4:=beq_eq_false_iff_ne.mpr λz=>(Xk.mp nd).1 (z▸eD ht);rw[Xj,ne];exact lookup_tab (Xk.mp nd).2 t ht
theorem j7s{P:au}{w:ax}{K:k8o}{mg mb:k8r}{CX:CXT}{k:Nat}{fa a:aa}{fd:aJ}{x:ah}{sp:Sp}{s₁:af}{vs:List a8}{ns:List Int}{ts:List (aa×ah)}
  (KX:K.In s₁.heap) (hns:s₁.heap.Ns aq mg) (hb:s₁.heap.Ns dm mb) (hbb:∀x:ah,x ≠ "__name__"->mb x=dY x) (hlim:s₁.heap.NoLimit)
  (hbm:∃bm ob,mg "__builtins__" = a3 (.ref bm)/\bm≠dm/\s₁.heap.get? bm=a3 ob/\ob.cls=.type "module"/\ob.dict=a3 dm/\ob.data=.plain) (hT:j93 ts s₁.heap) (hK0:W.noTabs K=a7) (hg:s₁.gens = #[])
  (ha:s₁.heap.get? a=a3 { cls:=.type "list",data:=.seq vs.toArray }) (hi:cL vs ns) (hl:ns.length<=ak) (hr:Room k fL)
  (F:∀base:aA,K.In base->base.Ns aq mg->FnOk P w K mg base CX k fa fd [x] sp) (hbind:∀(s:af)(u:a8),d5 s fd ⟨[u],[]⟩ [(x,u)])
  (hsp:∀H:Hp,Only ts H->SqL K H a (ns.map V.int)->sp [.ref a] H (λv H'=>v=.bl a7/\∀b o,H b=a3 o->H' b=a3 o) λ_ _ _=>False)
  (hCX:∀H e s',CX [] H s₁ (λ_ _ _=>False) e s'->False) :
  cj (aw P w) fL (.call (.ref fa) ⟨[.ref a],[]⟩) (λr s'=>r=.ok (.ret (.bool a7))/\OldK s₁.heap s'.heap/\s'.os=s₁.os/\dz s'.gens) s₁:=by
 have rv:=Cq hi;have lenV:=hi.length;have at_:∀{q:ah}{b:aa},(b,q)∈ts->s₁.heap.get? b=a3 (W.tabObj #[]):=λ{q b} h=>(hT.2 _ h).2;have core:∀H:Hp,Only ts H->SqL K H a (ns.map V.int)->HOk P w H s₁.heap->(∀b,H b≠a6->b=a\/∃q,(b,q)∈ts)->(H a≠a6->K.lookup a=a6) ->
   cj (aw P w) fL (.call (.ref fa) ⟨[.ref a],[]⟩) (λr s'=>r=.ok (.ret (.bool a7))/\OldK s₁.heap s'.heap/\s'.os=s₁.os/\dz s'.gens) s₁:=by
  intro H hO hS hok hA hK;have base_of:∀{b:aa}{o:dn},s₁.heap.get? b=a3 o->H b=a6->(W7 s₁.heap H).get? b=a3 o:=λe n=>j84 e n;have noA:∀{b:aa}{o:dn},s₁.heap.get? b=a3 o->(∀vs n,o.data≠.seq vs n)->(∀vs,o.data≠.fields vs)->H b=a6:=λ{b o} e d d2=>by
   cases q:H b with
   |none=>rfl
   |some u =>
    rcases hA b (by rw[q];simp)with e'|⟨q',e'⟩
    .subst e';rw[ha]at e;cases e;exact absurd rfl (d _ _)
    .rw[at_ e']at e;cases e;exact absurd rfl (d2 _)
  have nsK:∀{b:aa}{m:k8r},s₁.heap.Ns b m->(W7 s₁.heap H).Ns b m:=λ{b m} ⟨o,es,ep,e,d,r⟩=>⟨o,es,ep,base_of e (noA e (λ_ _ z=>by rw[d]at z;cases z) λ_ z=>by rw[d]at z;cases z),d,r⟩
  have hKb:K.In (W7 s₁.heap H):=λb o e=>base_of (KX b o e) (by
   cases q:H b with
   |none=>rfl
   |some u =>
    rcases hA b (by rw[q];simp)with e'|⟨q',e'⟩
    .subst e'
     rw[hK (by rw[q];simp)]at e;cases e
    .have e2:=KX b o e
     rw[at_ e']at e2
     have h2:=T5.mp hK0 (b,o) (W.mem_of_lookupK e)
     cases e2
     exact absurd (show a4=a7 from h2) xj)
  have hM:Mod K mg (W7 s₁.heap H):=⟨hKb,nsK hns,⟨mb,nsK hb,hbb⟩,(let ⟨mc,h1,h2⟩:=hlim;⟨mc,nsK h1,h2⟩),
   let ⟨bm,ob,b1,b2,b3,b4,b5,b6⟩:=hbm;⟨bm,ob,b1,b2,base_of b3 (noA b3 (λ_ _ z=>by rw[b6]at z;cases z) λ_ z=>by rw[b6]at z;cases z),b4,b5,b6⟩⟩
  have e0:Env0 P w K mg (W7 s₁.heap H) fL [] s₁ H:=⟨rfl,hM,λb o e=>jb5 e,Nat.le_of_eq (j5k _ _),trivial,λb hb=>absurd (show b∈([]:List aa)from hb) (by simp),hok,.of_eq hg⟩
  refine bf ((F _ hKb (nsK hns)).run fL [] s₁ H ⟨[.ref a],[]⟩ [.ref a] [.ref a] _ _ hr e0 (hbind s₁ (.ref a)) (.cons rfl .nil) (hsp H hO hS)) λr s' h=>?_;cases r with
  |error e=>exact(hCX H e s' h).elim
  |ok fl =>
   cases fl with
   |next=>exact b7 h
   |brk=>exact b7 h
   |cont=>exact b7 h
   |ret u =>
    obtain⟨v,H',os,bare,un,hok',r',q,sm⟩:=h;have q':v=.bl a7:=q;subst q';obtain rfl:u=bG a7:=r';have main:∀b o,s₁.heap.get? b=a3 o->s'.heap.get? b=a3 o\/((∃q,(b,q)∈ts)/\o=W.tabObj #[]/\∃ps,s'.heap.get? b=a3 (W.tabObj ps)):=λb o e=>by
     cases q:H b with
     |none=>exact .inl (un.keep b o e q (by intro z;exact absurd (show b∈([]:List aa)from z) (by simp)) (by simp))
     |some u =>
      rcases hO.1 b with z|⟨ob,xs,z⟩|⟨q',hq,z⟩
      .rw[q]at z;cases z
      .have z2:=un.frzs b ob _ z;obtain⟨e1,_⟩:=hok b _ z;obtain⟨e2,_⟩:=hok' b _ z2;rw[e]at e1;cases e1;exact .inl e2
      .obtain⟨ps,e2,_⟩:=(show jg P w H' s'.heap b (.cod q')from hok' b _ (sm b _ z))
       rw[at_ hq]at e;exact .inr ⟨⟨q',hq⟩,(av e).symm,ps,e2⟩
    refine⟨rfl,⟨λb o e=>?_,λb o e=>?_⟩,os,bare⟩
    .rcases main b o e with z|⟨⟨q,hq⟩,rfl,ps,z⟩
     .exact .inl z
     .obtain⟨c,hc⟩:=(hT.2 _ hq).1;exact .inr (.inl ⟨(hc.tab (at_ hq)).isCodeTable,rfl,#[],ps,rfl,by rw[z,Array.empty_append]⟩)
    .rcases main b o e with z|⟨_,_,ps,z⟩
     .exact⟨o,z⟩
     .exact⟨_,z⟩
 have lkT:∀b q,ts.lookup b=a3 q->(b,q)∈ts:=λb q h=>j1n h;have ofT:∀t∈ts,ts.lookup t.1=a3 t.2:=lookup_tab hT.1;have okT:∀(H:Hp) b q,(b,q)∈ts->jg P w H s₁.heap b (.cod q):=λH b q h=>⟨#[],at_ h,trivial,λpos cv z=>by cases z⟩
 cases hk:K.lookup a with
 |some o =>
  have e:=KX a o hk;rw[ha]at e;cases e;refine core (λb=>(ts.lookup b).map HO.cod) ⟨λb=>?_,λt ht=>by show(ts.lookup t.1).map HO.cod=_;rw[ofT t ht];rfl⟩ (.inr ⟨_,vs.toArray,_,hk,rfl,rfl,rfl,by rw[X8,lenV];exact hl,by simpa using rv⟩) (λb u z=>?_) (λb z=>?_) λz=>?_
  .cases e:ts.lookup b with
   |none=>exact .inl (by show(ts.lookup b).map HO.cod=_;rw[e];rfl)
   |some q=>exact .inr (.inr ⟨q,lkT b q e,by show(ts.lookup b).map HO.cod=_;rw[e];rfl⟩)
  .obtain⟨q,e,rfl⟩:=Xv.mp z;exact okT _ b q (lkT b q e)
  .cases e:ts.lookup b with
   |none=>exact absurd (by show(ts.lookup b).map HO.cod=_;rw[e];rfl) z
   |some q=>exact .inr ⟨q,lkT b q e⟩
  .cases e:ts.lookup a with
   |none=>exact absurd (by show(ts.lookup a).map HO.cod=_;rw[e];rfl) z
   |some q=>have:=at_ (lkT a q e);rw[ha]at this;cases this
 |none =>
  have na:∀q,(a,q)∉ts:=λq h=>by have:=at_ h;rw[ha]at this;cases this
  refine core (λb=>if b=a then a3 (.frz { cls:=.type "list",data:=.seq vs.toArray } (.lst (ns.map V.int))) else(ts.lookup b).map HO.cod) ⟨λb=>?_,λt ht=>?_⟩ (.inl (.inr ⟨{ cls:=.type "list",data:=.seq vs.toArray },if_pos rfl⟩)) (λb u z=>?_) (λb z=>?_) λ_=>hk
  .by_cases hb:b=a
   .exact .inr (.inl ⟨_,_,if_pos hb⟩)
   .cases e:ts.lookup b with
    |none=>exact .inl (by show(if b=a then _ else _)=_;rw[if_neg hb,e];rfl)
    |some q=>exact .inr (.inr ⟨q,lkT b q e,by show(if b=a then _ else _)=_;rw[if_neg hb,e];rfl⟩)
  .have nb:t.1≠a:=λz=>na t.2 (z▸ht);show(if t.1=a then _ else _)=_;rw[if_neg nb,ofT t ht];rfl
  .by_cases hb:b=a
   .have z':=(if_pos hb).symm.trans z;cases z';subst hb;exact⟨ha,by rw[xf];exact hl,vs,_,rv,ha⟩
   .have z':=(if_neg hb).symm.trans z;obtain⟨q,e,rfl⟩:=Xv.mp z';exact okT _ b q (lkT b q e)
  .by_cases hb:b=a
   .exact .inl hb
   .cases e:ts.lookup b with
    |none=>exact absurd (by show(if b=a then _ else _)=_;rw[if_neg hb,e];rfl) z
    |some q=>exact .inr ⟨q,lkT b q e⟩
theorem walk_of{l:d6}{n k:Nat}{q:au}{loose:List ah}{XP:(ah->Option a8)->aA->Prop}{YP:ax->aA->Prop}{d:DefRec}{K:lK->k8o}{CX:ax->CXT}{sp:ax->Sp}{x:ah}{ts:ax->List (aa×ah)}
  (hn:l.most=a3 n) (hn2:n<=ak) (hdf:d.params.defaults=[]) (hr:Room k fL)
  (hY:∀(w:ax)(h:aA),YP w h->(K w.params).In h/\j93 (ts w) h) (hK0:∀w:ax,W.noTabs (K w.params)=a7)
  (F:∀(w:ax)(mg:k8r)(fa:aa)(h:aA),(K w.params).In h->h.Ns aq mg->mg d.name=a3 (.ref fa) ->
   ∃fd:aJ,(∀(s:af)(u:a8),d5 s fd ⟨[u],[]⟩ [(x,u)]) /\
    ∀base:aA,(K w.params).In base->base.Ns aq mg->FnOk l.prog w (K w.params) mg base (CX w) k fa fd [x] (sp w))
  (hsp:∀(w:ax)(H:Hp)(a:aa)(ns:List Int),ns.length<=n->Only (ts w) H->SqL (K w.params) H a (ns.map V.int)->sp w [.ref a] H (λv H'=>v=.bl a7/\∀b o,H b=a3 o->H' b=a3 o) λ_ _ _=>False)
  (hCX:∀(w:ax)(H:Hp)(s:af)(e:a8)(s':af),CX w [] H s (λ_ _ _=>False) e s'->False) :
  ib q loose XP YP l.row.toRowW d [] (λf vs=>ij f vs):=by
 refine Att.attach_call hn hdf λw s₀ s₁ mg mb fa o pm cd doc a vs ns G Y ho hd hcd hmg hobj hints hlen hg=>?_;obtain⟨KX,hT⟩:=hY w _ Y;obtain⟨fd,hb,hF⟩:=F w mg fa _ KX G.T.g hmg;exact j7s KX G.T.g G.T.b G.T.builtins G.T.nolimit G.T.bmain hT (hK0 w) hg hobj hints (Xg hlen hn2) hr hF hb (λH hO hS=>hsp w H a ns hlen hO hS) λH e s'=>hCX w H s₁ e s'
end L2
/- THE LAST THEOREM (shape;LID,My.* are yours):
 My.Adr: a structure of the addresses that your layer names (classes,functions);My.Txt K t: a structure (Prop) of the equations over K;
 My.txt_mk:{K} {implicit addresses ..} (e1:bW K aq "law" = a3 (a3 (.ref f))) (e2:K.lookup f=a3 ⟨oc,od,.func (fnOf "law" "law" params body scope dV kV doc pm an cdv ct),sl⟩) (e3:codeIn K cdv "law" = a7) ..:∃t,My.Txt K t
(the tactic k_is has no namespace: write k_is) -/
namespace L2
open PySem PySem.Spec PyProof.Rows
noncomputable def zj(s:aX):d7:=match s with
 |.FunctionDef _ a _ _ _ _ _ _ _ _=>a
 |_=>{ posonlyargs:=[],args:=[],vararg:=a6,kwonlyargs:=[],kw_defaults:=[],kwarg:=a6,defaults:=[] }
noncomputable def jn(s:aX):List aX:=match s with
 |.FunctionDef _ _ b _ _ _ _ _ _ _=>b
 |_=>[]
noncomputable def jb(s:aX):aY:=match s with
 |.FunctionDef _ _ _ _ _ _ sc _ _ _=>sc
 |_=>{ kind:=.function,names:=[],isGenerator:=a4,isCoroutine:=a4 }
noncomputable abbrev CX0:CXT:=λ_ _ _ _ _ _=>False
noncomputable abbrev E0:XK:=λ_ _ _=>False
theorem Kr{X:Cx}:j0y CX0 X E0:=λ_ _ _ _ _ _ _ h=>h.elim
structure Fun(K:k8o)(x qual:ah)(st:aX)(f:aa)(fd:aJ):Prop where
 ex:∃(oc:a8)(od:Option aa)(dV kV doc pm:a8)(an:Option aa)(cdv ct:a8)(osl:Array (Option a8)),
  fd=W.fnOf x qual (zj st) (jn st) (jb st) dV kV doc pm an cdv ct/\K.lookup f=a3 ⟨oc,od,.func fd,osl⟩/\W.codeIn K cdv qual=a7
 kp:W.keepIn K (.ref f)=a7
section
variable{P:au}{w:ax}{K:k8o}{mg:k8r}{base:aA}
theorem Fun.binds{x qual:ah}{st:aX}{f:aa}{kV doc pm:a8}{an:Option aa}{cdv ct:a8}{ps:List ah}(F:Fun K x qual st f (W.fnOf x qual (zj st) (jn st) (jb st) .none kV doc pm an cdv ct))
  (h:∀(kV doc pm:a8)(an:Option aa)(cdv ct:a8)(us:List a8),us.length=ps.length->eT (W.fnOf x qual (zj st) (jn st) (jb st) .none kV doc pm an cdv ct) ⟨us,[]⟩=pure (ps.zip us)):Binds K (W.fnOf x qual (zj st) (jn st) (jb st) .none kV doc pm an cdv ct) ps []:=.all (h kV doc pm an cdv ct)
theorem Nu{x qual:ah}{st:aX}{f:aa}{oc:a8}{od an:Option aa}{osl:Array (Option a8)}{dV kV doc pm cdv ct:a8}(l:K.lookup f=a3 ⟨oc,od,.func (W.fnOf x qual (zj st) (jn st) (jb st) dV kV doc pm an cdv ct),osl⟩)
  (c:W.codeIn K cdv qual=a7) (k:W.keepIn K (.ref f)=a7):Fun K x qual st f (W.fnOf x qual (zj st) (jn st) (jb st) dV kV doc pm an cdv ct):=⟨⟨oc,od,dV,kV,doc,pm,an,cdv,ct,osl,rfl,l,c⟩,k⟩
end
section
variable{X:Cx}
end
theorem j3k{A B:Prop}(h:B):if a4=a7 then A else B:=by rw[if_neg xj];exact h
theorem j3j{A B:Prop}(h:A):if a7=a7 then A else B:=by rw[if_pos rfl];exact h
def j0(H H':Hp):Prop:=∀b o,H b=a3 o->H' b=a3 o
theorem j0.refl(H:Hp):j0 H H:=λ_ _ h=>h
theorem j0.trans{H H1 H2:Hp}(a:j0 H H1)(b:j0 H1 H2):j0 H H2:=λc o h=>b c o (a c o h)
theorem j0.free{H H':Hp}(e:j0 H H'){l:aa}(h:H' l=a6):H l=a6:=by
 cases q:H l with
 |none=>rfl
 |some o =>rw[e l o q]at h;cases h
theorem j0.seq{K:k8o}{H H':Hp}{a:aa}{xs:List V}(e:j0 H H')(h:SqL K H a xs):SqL K H' a xs:=by
 rcases h with (h|⟨o,h⟩)|h
 .exact .inl (.inl (e _ _ h))
 .exact .inl (.inr ⟨o,e _ _ h⟩)
 .exact .inr h
set_option genInjectivity true in
inductive D where
 |non
 |bl (b:Bool)
 |int (i:Int)
 |str (x:ah)
 |tup (ds:List D)
 |lst (ds:List D)
 |dct (ks:List (List Int)) (ds:List D)
 |sct (kvs:List (ah×Int))
 |fn (x:ah) (cs:List D)
noncomputable def kvI(kvs:List (ah×Int)):List (Key×V):=kvs.map λp=>(.inr p.1,.int p.2)
noncomputable def jq(x:ah):ah:=x ++ ".<locals>." ++ "<lambda>"
noncomputable abbrev Tx:=d7×aj×aY
noncomputable def jje:aj->Option Tx
 |.Lambda a b sc _=>a3 (a,b,sc)
 |.Call _ es _ _=>match es.getLast? with
  |some (.Lambda a b sc _)=>a3 (a,b,sc)
  |_=>a6
 |_=>a6
noncomputable def Wz(b:List aX):Option Tx:=match b.getLast? with
 |some (.Return (a3 e) _)=>jje e
 |_=>a6
noncomputable def Q3(K:k8o)(x:ah):Option Tx:=match W.nsIn K aq x with
 |some (a3 (.ref f))=>match K.lookup f with
  |some ⟨_,_,.func fd,_⟩=>match fd.body with
   |.stmts b=>Wz b
   |_=>a6
  |_=>a6
 |_=>a6
noncomputable def zf(sc:aY):List ah:=((sc.names.filter λp=>p.2==.free).map (·.1)).reverse
def v6(H:Hp):List aa->List V->Prop
 |[],vs=>vs=[]
 |c::cs,vs=>∃v r o u,vs=v::r/\H c=a3 (.frz o (.own 0))/\o.data=.cell (a3 u)/\RelV v u/\v6 H cs r
theorem v6.mono{H H':Hp}(g:j0 H H'):∀{cs:List aa}{vs:List V},v6 H cs vs->v6 H' cs vs
 |[],_,h=>h
 |_::_,_,⟨v,r,o,u,e,h,d,rv,l⟩=>⟨v,r,o,u,e,g _ _ h,d,rv,l.mono g⟩
structure LamAt(K:k8o)(H:Hp)(x:ah)(a c:aa)(t:Tx)(cl:List (ah×aa))(vs:List V):Prop where
 tx:Q3 K x=a3 t
 fo:∃pm ctv,H a=a3 (.frz (W.kla_obj "<lambda>" (jq x) t.1 t.2.1 t.2.2 cl pm c ctv) (.own 0))
 co:∃oc,H c=a3 (.frz oc (.own 0))/\O1 oc (jq x)
 nm:cl.map (·.1)=zf t.2.2
 nd:(cl.map (·.2)).Nodup
 cs:v6 H (cl.map (·.2)) vs
theorem LamAt.mono{K:k8o}{H H':Hp}{x:ah}{a c:aa}{tx:Tx}{cl:List (ah×aa)}{vs:List V}(g:j0 H H')(h:LamAt K H x a c tx cl vs):LamAt K H' x a c tx cl vs :=
 ⟨h.tx,let ⟨pm,ctv,e⟩:=h.fo;⟨pm,ctv,g _ _ e⟩,let ⟨oc,e,q⟩:=h.co;⟨oc,g _ _ e,q⟩,h.nm,h.nd,h.cs.mono g⟩
noncomputable def del(H:Hp)(A:List aa):Hp:=λb=>if b∈A then a6 else H b
section
variable{H H' F:Hp}{A A':List aa}{a b:aa}{o:HO}
theorem qt(h:b∈A):del H A b=a6:=if_pos h
theorem j5(h:b∉A):del H A b=H b:=if_neg h
theorem of_del(h:del H A b=a3 o):b∉A/\H b=a3 o:=by
 by_cases e:b∈A
 .rw[qt e]at h;cases h
 .rw[j5 e]at h;exact⟨e,h⟩
theorem je(g:j0 H H'):j0 (del H A) (del H' A):=λb o h=>by obtain⟨n,e⟩:=of_del h;rw[j5 n];exact g b o e
end
theorem j0.seqT{K:k8o}{H H':Hp}{a:aa}{xs:List V}(e:j0 H H')(h:SqT K H a xs):SqT K H' a xs:=by
 rcases h with (h|⟨o,h⟩)|h
 .exact .inl (.inl (e _ _ h))
 .exact .inl (.inr ⟨o,e _ _ h⟩)
 .exact .inr h
mutual
def Enc(K:k8o)(H:Hp):D->V->Prop
 |.non,v=>v=.non
 |.bl b,v=>v=.bl b
 |.int i,v=>v=.int i
 |.str x,v=>v=.str x
 |.tup ds,v=>∃a xs,v=.ref a/\SqT K H a xs/\j4 K H ds xs
 |.lst ds,v=>∃a xs,v=.ref a/\SqL K H a xs/\j4 K H ds xs
 |.dct ks ds,v=>∃(a:aa)(xs:List (List Int×aa×a8)) (ep:Nat) (vs:List V),v=.ref a/\H a=a3 (.dI xs ep)/\ks=(xs.map λx=>x.1)/\(∀x∈xs,SqT K H x.2.1 (x.1.map V.int))/\Vals vs (xs.map λx=>x.2.2)/\j4 K H ds vs
 |.sct kvs,v=>∃a:aa,v=.ref a/\H a=a3 (.dK (kvI kvs))
 |.fn x ds,v=>∃(a c:aa)(tx:Tx)(cl:List (ah×aa)) (vs:List V),v=.ref a/\LamAt K H x a c tx cl vs/\j4 K (del H (cl.map (·.2))) ds vs
def j4(K:k8o)(H:Hp):List D->List V->Prop
 |[],xs=>xs=[]
 |d::ds,xs=>∃x r,xs=x::r/\Enc K H d x/\j4 K H ds r
end
mutual
theorem Enc.mono{K:k8o}{H H':Hp}(g:j0 H H'):∀{d:D}{v:V},Enc K H d v->Enc K H' d v
 |.non,_,h=>h
 |.bl _,_,h=>h
 |.int _,_,h=>h
 |.str _,_,h=>h
 |.tup _,_,⟨a,xs,e,q,l⟩=>⟨a,xs,e,g.seqT q,j4.mono g l⟩
 |.lst _,_,⟨a,xs,e,q,l⟩=>⟨a,xs,e,g.seq q,j4.mono g l⟩
 |.dct _ _,_,⟨a,xs,ep,vs,e,q,ek,kt,rv,l⟩=>⟨a,xs,ep,vs,e,g _ _ q,ek,λx hx=>g.seqT (kt x hx),rv,j4.mono g l⟩
 |.sct _,_,⟨a,e,q⟩=>⟨a,e,g _ _ q⟩
 |.fn _ _,_,⟨a,c,tx,cl,vs,e,q,l⟩=>⟨a,c,tx,cl,vs,e,q.mono g,j4.mono (je g) l⟩
theorem j4.mono{K:k8o}{H H':Hp}(g:j0 H H'):∀{ds:List D}{xs:List V},j4 K H ds xs->j4 K H' ds xs
 |[],_,h=>h
 |_::_,_,⟨x,r,e,h,l⟩=>⟨x,r,e,Enc.mono g h,j4.mono g l⟩
end
section
variable{K:k8o}{H H':Hp}{ds ds':List D}{xs ys:List V}
theorem j4.length:∀{ds:List D}{xs:List V},j4 K H ds xs->xs.length=ds.length
 |[],_,h=>by cases h;rfl
 |_::_,_,⟨x,r,e,_,l⟩=>by subst e;simp[j4.length l]
theorem j4.get:∀{ds:List D}{xs:List V}{i:Nat}{d:D},j4 K H ds xs->ds[i]?=a3 d->∃x,xs[i]?=a3 x/\Enc K H d x
 |[],_,i,d,_,e=>by simp at e
 |_::_,_,0,d,⟨x,r,e,h,_⟩,q=>by subst e;simp at q;subst q;exact⟨x,rfl,h⟩
 |_::_,_,i+1,d,⟨x,r,e,_,l⟩,q=>by subst e;simp at q;obtain⟨y,hy,hd⟩:=j4.get l q;exact⟨y,by simpa using hy,hd⟩
theorem j4.get':∀{ds:List D}{xs:List V}{i:Nat}{x:V},j4 K H ds xs->xs[i]?=a3 x->∃d,ds[i]?=a3 d/\Enc K H d x
 |[],_,i,d,h,e=>by cases h;simp at e
 |d::_,_,0,y,⟨x,r,e,h,_⟩,q=>by subst e;simp at q;subst q;exact⟨d,rfl,h⟩
 |_::_,_,i+1,y,⟨x,r,e,_,l⟩,q=>by subst e;simp at q;obtain⟨y,hy,hd⟩:=j4.get' l q;exact⟨y,by simpa using hy,hd⟩
theorem j4.append:∀{ds ds':List D}{xs ys:List V},j4 K H ds xs->j4 K H ds' ys->j4 K H (ds++ds') (xs++ys)
 |[],_,_,_,h,h'=>by cases h;exact h'
 |_::_,_,_,_,⟨x,r,e,h,l⟩,h'=>by subst e;exact⟨x,_,rfl,h,j4.append l h'⟩
theorem j4.one{d:D}{x:V}(h:Enc K H d x):j4 K H [d] [x]:=⟨x,[],rfl,h,rfl⟩
theorem j4.take:∀{ds:List D}{xs:List V}(n:Nat),j4 K H ds xs->j4 K H (ds.take n) (xs.take n)
 |[],_,n,h=>by cases h;simp;exact rfl
 |_::_,_,0,⟨x,r,e,h,l⟩=>by simp;exact rfl
 |_::_,_,n+1,⟨x,r,e,h,l⟩=>by subst e;exact⟨x,_,rfl,h,j4.take n l⟩
theorem j4.drop:∀{ds:List D}{xs:List V}(n:Nat),j4 K H ds xs->j4 K H (ds.drop n) (xs.drop n)
 |[],_,n,h=>by cases h;simp;exact rfl
 |_::_,_,0,h=>h
 |_::_,_,n+1,⟨x,r,e,h,l⟩=>by subst e;exact j4.drop n l
theorem j4.rep{ds:List D}{xs:List V}(h:j4 K H ds xs):∀k:Nat,j4 K H (ae k ds).flatten (ae k xs).flatten
 |0=>rfl
 |k+1=>by rw[Xz,Xz,Tf,Tf];exact h.append (j4.rep h k)
theorem j4.ints(ns:List Int):j4 K H (ns.map D.int) (ns.map V.int):=by
 induction ns with
 |nil=>exact rfl
 |cons n ns ih=>exact⟨_,_,rfl,rfl,ih⟩
end
section
variable{H H' F:Hp}{A A':List aa}{a b:aa}{o:HO}
theorem Jk:del H []=H:=funext λb=>if_neg (by simp)
theorem jx:j0 (del H A) H:=λ_ _ h=>(of_del h).2
theorem J0(h:∀b,b∈A'->b∈A):j0 (del H A) (del H A'):=λb o e=>by obtain⟨n,e⟩:=of_del e;rw[j5 λz=>n (h b z)];exact e
theorem Uw(h:a∈A):del (upd H a o) A=del H A:=funext λb=>by
 by_cases e:b∈A
 .rw[qt e,qt e]
 .rw[j5 e,j5 e,ji];rintro rfl;exact e h
noncomputable def mrg(A:List aa)(H F:Hp):Hp:=λb=>if b∈A then H b else F b
theorem J2(h:b∈A):mrg A H F b=H b:=if_pos h
theorem jj(h:b∉A):mrg A H F b=F b:=if_neg h
theorem Y7(h:∀a∈A,F a=a6):del (mrg A H F) A=F:=funext λb=>by
 by_cases e:b∈A
 .rw[qt e,h b e]
 .rw[j5 e,jj e]
theorem Oo(g:j0 (del H A) F):j0 H (mrg A H F):=λb o e=>by
 by_cases z:b∈A
 .rw[J2 z];exact e
 .rw[jj z];exact g b o (by rw[j5 z];exact e)
theorem j7(h:H a=a6):j0 H (upd H a o):=λb u q=>by rw[ji (zq q h)];exact q
end
def Hd(o:Option HO):Prop:=(∃xs,o=a3 (.lst xs))\/∃xs ep,o=a3 (.dI xs ep)
section
variable{X:Cx}{pins:k8q}{σ σ':St}{H F:Hp}{s s':af}{A:List aa}
theorem Inv.noFs(I:Inv X pins σ H s){b:aa}(hb:b∈X.fs):H b=a6:=by
 have q:b∈frs X.stack:=by
  rcases I.ok.stk with e|⟨e,_⟩
  .rw[e];exact hb
  .rw[e];have hb:b∈frs X.outer:=hb;unfold frs at hb ⊢;rw[bT];split
   .exact hb
   .exact km _ hb
 exact I.stkFree b q
theorem Inv.hide(I:Inv X pins σ H s)(hA:∀a∈A,Hd (H a)):Inv X (pins++Yg A s.heap) σ (del H A) s where
 ok:=I.ok
 os:=I.os
 bare:=I.bare
 base:={
  keep:=I.base.keep
  slot:=I.base.slot
  free:=λb o e n hx=>by
   have q:=I.base.free b o e n hx
   by_cases z:b∈A
   .exact qt z
   .rw[j5 z];exact q
  there:=I.base.there
  tups:=λb xs e=>by
   have q:=I.base.tups b xs e
   rw[j5];exact q
   intro z;rcases hA b z with ⟨ys,e'⟩|⟨ys,ep,e'⟩<;>(rw[q]at e';cases e')
  frzs:=λb o u e=>by
   have q:=I.base.frzs b o u e
   rw[j5];exact q
   intro z;rcases hA b z with ⟨ys,e'⟩|⟨ys,ep,e'⟩<;>(rw[q]at e';cases e')
  tbls:=λb ps e=>by
   obtain⟨more,q⟩:=I.base.tbls b ps e
   refine⟨more,?_⟩
   rw[j5];exact q
   intro z;rcases hA b z with ⟨ys,e'⟩|⟨ys,ep,e'⟩<;>(rw[q]at e';cases e') }
 loc:=I.loc
 cell:=I.cell
 free:=by
  by_cases z:X.env.locals∈A
  .exact qt z
  .rw[j5 z];exact I.free
 freeC:=λx c e=>by
  by_cases z:c∈A
  .exact qt z
  .rw[j5 z];exact I.freeC x c e
 pin:=λp hp=>by
  rw[<-t6]at hp;rcases Pj.mp hp with hp|hp
  .obtain⟨h1,h2,h3⟩:=I.pin p hp;refine⟨h1,?_,h3⟩;by_cases z:p.1∈A
   .exact qt z
   .rw[j5 z];exact h2
  .obtain⟨h1,h2⟩:=Lg hp;rcases hA _ h1 with ⟨xs,e⟩|⟨xs,ep,e⟩
   .refine⟨h2,qt h1,λz=>?_,λz=>?_,λv z=>?_⟩
    .rw[z,I.free]at e;cases e
    .rw[I.noFs z]at e;cases e
    .obtain⟨_,its,n,_,q⟩:=(show jg X.prog X.w H s.heap p.1 (.lst xs)from I.hok _ _ e)
     rw[h2]at q;rw[av q]at z;cases z
   .refine⟨h2,qt h1,λz=>?_,λz=>?_,λv z=>?_⟩
    .rw[z,I.free]at e;cases e
    .rw[I.noFs z]at e;cases e
    .obtain⟨_,_,_,ob,es,q,_,qd,_⟩:=(show jg X.prog X.w H s.heap p.1 (.dI xs ep)from I.hok _ _ e)
     rw[h2]at q;rw[av q,qd]at z;cases z
 hok:=λa o e=>by
  obtain⟨n,e⟩:=of_del e;refine jg.stay (I.hok a o e) (λb u _ q=>q) (λb q=>?_) (λb xs q=>?_) (λb _ _ q=>?_)
  .rw[j5];exact q;intro z;rcases hA b z with ⟨ys,e'⟩|⟨ys,ep,e'⟩<;>(rw[q]at e';cases e')
  .rw[j5];exact q;intro z;rcases hA b z with ⟨ys,e'⟩|⟨ys,ep,e'⟩<;>(rw[q]at e';cases e')
  .rw[j5];exact q;intro z;rcases hA b z with ⟨ys,e'⟩|⟨ys,ep,e'⟩<;>(rw[q]at e';cases e')
 len:=I.len
theorem Inv.unhide(I0:Inv X pins σ H s)(hA:∀a∈A,Hd (H a))(I:Inv X (pins++Yg A s.heap) σ' F s') :
  (∀a∈A,F a=a6)/\Inv X pins σ' (mrg A H F) s':=by
 have pinned:∀a∈A,∃o,s.heap.get? a=a3 o/\s'.heap.get? a=a3 o/\F a=a6:=λa ha=>by
  have ob:∃o,s.heap.get? a=a3 o:=by
   rcases hA a ha with ⟨xs,e⟩|⟨xs,ep,e⟩
   .obtain⟨_,its,n,_,q⟩:=(show jg X.prog X.w H s.heap a (.lst xs)from I0.hok _ _ e)
    exact⟨_,q⟩
   .obtain⟨_,_,_,o,es,q,_⟩:=(show jg X.prog X.w H s.heap a (.dI xs ep)from I0.hok _ _ e)
    exact⟨_,q⟩
  obtain⟨o,q⟩:=ob;obtain⟨h1,h2,_⟩:=I.pin (a,_) (Xe _ (Xe _ (Qp ha q)));exact⟨_,q,h1,h2⟩
 have hF:∀a∈A,F a=a6:=λa ha=>let ⟨_,_,_,q⟩:=pinned a ha;q;have out:∀{b:aa}{o:HO},F b=a3 o->b∉A:=λ{b o} e z=>by rw[hF b z]at e;cases e
 refine⟨hF,?_⟩;exact{
  ok:=I.ok
  os:=I.os
  bare:=I.bare
  base:={
   keep:=I.base.keep
   slot:=I.base.slot
   free:=λb o e n hx=>by
    by_cases z:b∈A
    .rw[J2 z];exact I0.base.free b o e n hx
    .rw[jj z];exact I.base.free b o e n hx
   there:=I.base.there
   tups:=λb xs e=>by
    have q:=I.base.tups b xs e
    rw[jj (out q)];exact q
   frzs:=λb o u e=>by
    have q:=I.base.frzs b o u e
    rw[jj (out q)];exact q
   tbls:=λb ps e=>by
    obtain⟨more,q⟩:=I.base.tbls b ps e
    exact⟨more,by rw[jj (out q)];exact q⟩ }
  loc:=I.loc
  cell:=I.cell
  free:=by
   by_cases z:X.env.locals∈A
   .rw[J2 z];exact I0.free
   .rw[jj z];exact I.free
  freeC:=λx c e=>by
   by_cases z:c∈A
   .rw[J2 z];exact I0.freeC x c e
   .rw[jj z];exact I.freeC x c e
  pin:=λp hp=>by
   obtain⟨h1,h2,h3⟩:=I.pin p (by rw[<-t6];exact T7 _ hp)
   refine⟨h1,?_,h3⟩
   by_cases z:p.1∈A
   .rw[J2 z];exact(I0.pin p hp).2.1
   .rw[jj z];exact h2
  hok:=λa o e=>by
   by_cases z:a∈A
   .rw[J2 z]at e
    obtain⟨o',q1,q2,_⟩:=pinned a z
    rcases hA a z with ⟨xs,e'⟩|⟨xs,ep,e'⟩
    .rw[e']at e;cases e
     obtain⟨hl,its,n,r,q⟩:=(show jg X.prog X.w H s.heap a (.lst xs)from I0.hok _ _ e')
     rw[q]at q1;cases q1
     exact⟨hl,its,n,r,q2⟩
    .rw[e']at e;cases e
     obtain⟨z1,z2,z3,ob,es,q,z4⟩:=(show jg X.prog X.w H s.heap a (.dI xs ep)from I0.hok _ _ e')
     rw[q]at q1;cases q1
     exact⟨z1,z2,z3,_,es,q2,z4⟩
   .rw[jj z]at e
    refine jg.stay (I.hok a o e) (λb u _ q=>q) (λb q=>?_) (λb xs q=>?_) (λb _ _ q=>?_)
    .rw[jj (out q)];exact q
    .rw[jj (out q)];exact q
    .rw[jj (out q)];exact q
  len:=I.len }
end
def Qx(X:Cx)(e:aj):TE:=λσ H Q=>∀pins s,Inv X pins σ H s->ao (aw X.prog X.w) X.A (ay e X.env) (EP X pins σ Q) X.xe s
def j70(X:Cx)(e:aj):TT:=λσ H Q=>∀pins s,Inv X pins σ H s->ao (aw X.prog X.w) X.A (fw e X.env (ay e X.env)) (TP X pins σ Q) X.xe s
def Dg(X:Cx)(es:List aj):TA:=λσ H Q=>∀pos pins s,Inv X pins σ H s->ao (aw X.prog X.w) X.A (iH (aO pos (a9 es X.env))) (AP X pins σ Q) X.xe s
def j71(X:Cx)(st:aX):TS:=λD σ H=>∀pins s,Inv X pins σ H s->ao (aw X.prog X.w) X.A (exec st X.env) (SP X pins D) X.xe s
def N5(X:Cx)(sts:List aX):TS:=λD σ H=>∀pins s,Inv X pins σ H s->ao (aw X.prog X.w) X.A (execs sts X.env) (SP X pins D) X.xe s
def Ei(X:Cx)(tg iter:aj):TI:=λσ H R=>∀pins s,Inv X pins σ H s ->
 ao (aw X.prog X.w) X.A (ay iter X.env) (λv s1=>ao (aw X.prog X.w) X.A (gP v) (PIE X pins σ tg R) X.xe s1) X.xe s
section
variable{X:Cx}{e tg:aj}{es:List aj}{st:aX}{sts:List aX}{σ:St}{H:Hp}
theorem peS:PE X e (Qx X e):=λpins s _ _ _ I h=>h pins s I
theorem ptS:PT X e (j70 X e):=λpins s _ _ _ I h=>h pins s I
theorem paS:PA X es (Dg X es):=λpos pins s _ _ _ I h=>h pos pins s I
theorem psS:PS X st (j71 X st):=λpins s _ _ _ I h=>h pins s I
theorem Oq:PSs X sts (N5 X sts):=λpins s _ _ _ I h=>h pins s I
theorem piS:PI X tg e (Ei X tg e):=λpins s _ _ _ I h=>h pins s I
theorem PE.to{t:TE}(h:PE X e t){Q:VK}(q:t σ H Q):Qx X e σ H Q:=λpins s I=>h pins s σ H Q I q
theorem PT.to{t:TT}(h:PT X e t){Q:Bool->Hp->Prop}(q:t σ H Q):j70 X e σ H Q:=λpins s I=>h pins s σ H Q I q
theorem PA.to{t:TA}(h:PA X es t){Q:List V->Hp->Prop}(q:t σ H Q):Dg X es σ H Q:=λpos pins s I=>h pos pins s σ H Q I q
theorem PS.to{t:TS}(h:PS X st t){D:Ends}(q:t D σ H):j71 X st D σ H:=λpins s I=>h pins s σ H D I q
theorem PSs.to{t:TS}(h:PSs X sts t){D:Ends}(q:t D σ H):N5 X sts D σ H:=λpins s I=>h pins s σ H D I q
theorem PI.to{t:TI}(h:PI X tg e t){R:It->Hp->Prop}(q:t σ H R):Ei X tg e σ H R:=λpins s I=>h pins s σ H R I q
theorem j36{A:List aa}{Q Q':VK}(hA:∀a∈A,Hd (H a))(h:Qx X e σ (del H A) Q')(hq:∀v F,Q' v F->(∀a∈A,F a=a6)->Q v (mrg A H F)):Qx X e σ H Q :=
 λpins s I=>thn (h _ s (I.hide hA)) λv s' ⟨x,F,I',r,q⟩=>let ⟨n,I2⟩:=I.unhide hA I';⟨x,_,I2,r,hq x F q n⟩
theorem j35{A:List aa}{R R':It->Hp->Prop}(hA:∀a∈A,Hd (H a))(h:Ei X tg e σ (del H A) R')(hq:∀J F,R' J F->(∀a∈A,F a=a6)->R J (mrg A H F)):Ei X tg e σ H R :=
 λpins s I=>thn (h _ s (I.hide hA)) λv s' h1=>thn h1 λitv s2 ⟨it,fp,tn,J,F,e,I',T,t0,fk,q⟩=>by
  obtain⟨n,I2⟩:=I.unhide hA I';refine⟨it,fp,tn,J,_,e,I2,T,t0,λb hb=>?_,hq J F q n⟩;obtain⟨f0,f1,f2,f3,f4,f5⟩:=fk b hb;refine⟨?_,f1,f2,f3,f4,λp hp=>f5 p (by rw[<-t6];exact T7 _ hp)⟩;by_cases z:b∈A
  .exfalso;have ob:∃o,s.heap.get? b=a3 o:=by
    rcases hA b z with ⟨xs,e⟩|⟨xs,ep,e⟩
    .obtain⟨_,its,n,_,q⟩:=(show jg X.prog X.w H s.heap b (.lst xs)from I.hok _ _ e)
     exact⟨_,q⟩
    .obtain⟨_,_,_,o,es,q,_⟩:=(show jg X.prog X.w H s.heap b (.dI xs ep)from I.hok _ _ e)
     exact⟨_,q⟩
   obtain⟨o,q⟩:=ob;exact f5 (b,o) (Xe _ (Xe _ (Qp z q))) rfl
  .rw[jj z];exact f0
end
inductive Sl where
 |un
 |val (d:D)
 |own (a:aa) (ds:List D)
 |raw (a:aa) (o:dn) (x:ah)
noncomputable abbrev Rho:=List Sl
noncomputable def Sl.addr:Sl->Option aa
 |.own a _=>a3 a
 |_=>a6
noncomputable def owns(ρ:Rho):List aa:=ρ.filterMap Sl.addr
theorem Qc{ρ:Rho}{i:Nat}{a:aa}{ds:List D}(h:ρ[i]?=a3 (.own a ds)):a∈owns ρ:=Tc.mpr ⟨_,Xo h,rfl⟩
theorem Vj{ρ:Rho}{a:aa}(h:a∈owns ρ):∃(i:Nat)(ds:List D),ρ[i]?=a3 (.own a ds):=by
 obtain⟨s,hs,e⟩:=Tc.mp h;obtain⟨i,hi⟩:=List.mem_iff_getElem?.mp hs;cases s with
 |own b ds=>cases e;exact⟨i,ds,hi⟩
 |un=>cases e
 |val d=>cases e
 |raw b o x=>cases e
theorem jm(s:Sl)(ρ:Rho):owns (s::ρ)=(match s.addr with|some a=>a::owns ρ|none=>owns ρ):=by unfold owns;rw[bT];cases s.addr<;>rfl
theorem jt{s:Sl}(hs:s.addr=a6):∀{ρ:Rho}{i:Nat},(owns (ρ.set i s)).Sublist (owns ρ)
 |[],_=>bS _
 |x::r,0=>by
  rw[T6,jm,jm,hs];cases x.addr with
  |none=>exact bS _
  |some a=>exact List.sublist_cons_self _ _
 |x::r,i+1=>by
  rw[Pu,jm,jm];have ih:=jt hs (ρ:=r) (i:=i);cases x.addr with
  |none=>exact ih
  |some a=>exact ih.cons_cons a
theorem Vq{a:aa}{ds ds':List D}:∀{ρ:Rho}{i:Nat},ρ[i]?=a3 (.own a ds)->owns (ρ.set i (.own a ds'))=owns ρ
 |[],_,h=>by simp at h
 |x::r,0,h=>by simp at h;subst h;rw[T6,jm,jm];rfl
 |x::r,i+1,h=>by simp at h;rw[Pu,jm,jm,Vq h]
theorem O6{s:Sl}(hs:s.addr=a6):∀{ρ:Rho}{i:Nat},(∀a l,ρ[i]?≠a3 (.own a l))->owns (ρ.set i s)=owns ρ
 |[],_,_=>rfl
 |x::r,0,h=>by
  rw[T6,jm,jm,hs];cases x with
  |own a l=>exact absurd rfl (h a l)
  |un=>rfl
  |val d=>rfl
  |raw a o x=>rfl
 |x::r,i+1,h=>by rw[Pu,jm,jm,O6 hs (λa l=>by simpa using h a l)]
theorem Jg{a:aa}{ds:List D}:∀{ρ:Rho}{i:Nat},(owns ρ).Nodup->a∉owns ρ->(owns (ρ.set i (.own a ds))).Nodup/\∀b∈owns (ρ.set i (.own a ds)),b=a\/b∈owns ρ
 |[],_,n,_=>⟨n,λb hb=>.inr hb⟩
 |x::r,0,n,h=>by
  rw[T6,jm];rw[jm]at n h;have e:(Sl.own a ds).addr=a3 a:=rfl;rw[e];cases q:x.addr with
  |none =>rw[q]at n h;exact⟨Xk.mpr ⟨h,n⟩,λb hb=>(xr.mp hb).elim .inl λz=>.inr (by rw[jm,q];exact z)⟩
  |some c =>rw[q]at n h;exact⟨Xk.mpr ⟨λz=>h (km _ z),(Xk.mp n).2⟩,λb hb=>(xr.mp hb).elim .inl λz=>.inr (by rw[jm,q];exact km _ z)⟩
 |x::r,i+1,n,h=>by
  rw[Pu,jm];rw[jm]at n h;cases q:x.addr with
  |none =>rw[q]at n h;obtain⟨i1,i2⟩:=Jg (ds:=ds) (i:=i) n h;exact⟨i1,λb hb=>(i2 b hb).elim .inl λz=>.inr (by rw[jm,q];exact z)⟩
  |some c =>
   rw[q]at n h;obtain⟨n1,n2⟩:=Xk.mp n;obtain⟨i1,i2⟩:=Jg (ds:=ds) (i:=i) n2 (λz=>h (km _ z));refine⟨Xk.mpr ⟨λz=>?_,i1⟩,λb hb=>?_⟩
   .rcases i2 c z with e|z
    .subst e;exact h (xn ..)
    .exact n1 z
   .rcases xr.mp hb with e|z
    .exact .inr (by rw[jm,q];exact e▸xn ..)
    .exact(i2 b z).elim .inl λz=>.inr (by rw[jm,q];exact km _ z)
theorem Yh{a:aa}{l l':List D}:∀{ρ:Rho}{i j:Nat},(owns ρ).Nodup->ρ[i]?=a3 (.own a l)->ρ[j]?=a3 (.own a l')->i=j
 |[],i,_,_,h,_=>by simp at h
 |x::r,0,0,_,_,_=>rfl
 |x::r,0,j+1,n,h,h'=>by simp at h h';subst h;rw[jm]at n;exact absurd (Qc h') (Xk.mp n).1
 |x::r,i+1,0,n,h,h'=>by simp at h h';subst h';rw[jm]at n;exact absurd (Qc h) (Xk.mp n).1
 |x::r,i+1,j+1,n,h,h'=>by
  simp at h h';have n':(owns r).Nodup:=by
   rw[jm]at n;cases q:x.addr with
   |none=>rw[q]at n;exact n
   |some c=>rw[q]at n;exact(Xk.mp n).2
  rw[Yh n' h h']
noncomputable def Zn:List ah:=["worst_cost_of_ask","least_numbers","whole_cost_of_ask","round_numbers"]
def TabOk(K:k8o)(H:Hp):Prop:=∀x∈Zn,∀c P,W.tabIn K x=a3 (c,P)->H P=a3 (.cod (jq x))
section
variable{K:k8o}{H H':Hp}
theorem TabOk.mono(h:TabOk K H)(g:j0 H H'):TabOk K H':=λx hx c P e=>g _ _ (h x hx c P e)
theorem TabOk.upd{a:aa}{o u:HO}(h:TabOk K H)(e:H a=a3 u)(n:∀q,u≠.cod q):TabOk K (upd H a o):=λx hx c P z=>by have q:=h x hx c P z;rw[ji];exact q;intro y;subst y;rw[e]at q;exact n _ (av q)
theorem TabOk.del{A:List aa}(h:TabOk K H)(hA:∀a∈A,∃xs,H a=a3 (.lst xs)):TabOk K (del H A):=λx hx c P z=>by have q:=h x hx c P z;rw[j5];exact q;intro y;obtain⟨xs,e⟩:=hA _ y;rw[q]at e;cases e
end
structure Rep(K:k8o)(ρ:Rho)(σ:St)(H:Hp):Prop where
 len:σ.length=ρ.length
 val:∀(i:Nat)(d:D),ρ[i]?=a3 (.val d)->∃v,σ[i]?=a3 (a3 v)/\Enc K (del H (owns ρ)) d v
 own:∀(i:Nat)(a:aa)(ds:List D),ρ[i]?=a3 (.own a ds)->σ[i]?=a3 (a3 (.ref a))/\∃xs,H a=a3 (.lst xs)/\j4 K (del H (owns ρ)) ds xs
 nd:(owns ρ).Nodup
 raw:∀(i:Nat)(a:aa)(o:dn)(x:ah),ρ[i]?=a3 (.raw a o x)->σ[i]?=a3 (a3 (.ref a))/\del H (owns ρ) a=a3 (.frz o (.own a))/\W.nsIn K aq x=a3 (a3 o.cls)
 tb:TabOk K H
section
variable{K:k8o}{ρ ρ':Rho}{σ:St}{H H':Hp}{i:Nat}{d:D}{v:V}{a:aa}{ds ds':List D}{xs:List V}
theorem Rep.owned(R:Rep K ρ σ H):∀a∈owns ρ,∃xs,H a=a3 (.lst xs):=λa h=>by obtain⟨i,ds,e⟩:=Vj h;obtain⟨_,xs,q,_⟩:=R.own i a ds e;exact⟨xs,q⟩
theorem Rep.fresh(R:Rep K ρ σ H)(h:H a=a6):a∉owns ρ:=λz=>by obtain⟨xs,e⟩:=R.owned a z;rw[h]at e;cases e
theorem Rep.grow(R:Rep K ρ σ H)(g:j0 H H'):Rep K ρ σ H' :=
 ⟨R.len,λi d e=>let ⟨v,q,h⟩:=R.val i d e;⟨v,q,h.mono (je g)⟩,λi a ds e=>let ⟨q,xs,h,l⟩:=R.own i a ds e;⟨q,xs,g _ _ h,l.mono (je g)⟩,R.nd,λi a o x e=>let ⟨q,h,z⟩:=R.raw i a o x e;⟨q,je g _ _ h,z⟩,R.tb.mono g⟩
theorem getElem?_set_of{α:Type}{l:List α}{i j:Nat}{x y:α}(h:(l.set i x)[j]?=a3 y):(i=j/\y=x/\i<l.length)\/(i≠j/\l[j]?=a3 y):=by
 rw[cq]at h;split at h
 .rename_i e;subst e;split at h
  .rename_i z;cases h;exact .inl ⟨rfl,rfl,z⟩
  .cases h
 .rename_i e;exact .inr ⟨e,h⟩
theorem Wt{α:Type}{l:List α}{i:Nat}{x:α}(h:i<l.length):(l.set i x)[i]?=a3 x:=by simp[h]
theorem zc{α:Type}{l:List α}{i j:Nat}{x:α}(h:i≠j):(l.set i x)[j]?=l[j]?:=by simp[h]
theorem Rep.set_val(R:Rep K ρ σ H)(e:Enc K (del H (owns ρ)) d v):Rep K (ρ.set i (.val d)) (σ.set i (a3 v)) H:=by
 have sub:(owns (ρ.set i (.val d))).Sublist (owns ρ):=jt rfl;have g:j0 (del H (owns ρ)) (del H (owns (ρ.set i (.val d)))):=J0 λb hb=>sub.subset hb;refine⟨by simp[R.len],λj d' h=>?_,λj a ds h=>?_,sub.nodup R.nd,λj a o x h=>?_,R.tb⟩
 .rcases getElem?_set_of h with ⟨rfl,z,hl⟩|⟨n,h⟩
  .cases z;exact⟨v,Wt (by rw[R.len];exact hl),e.mono g⟩
  .obtain⟨u,q,h⟩:=R.val j d' h;exact⟨u,by rw[zc n];exact q,h.mono g⟩
 .rcases getElem?_set_of h with ⟨rfl,z,_⟩|⟨n,h⟩
  .cases z
  .obtain⟨q,xs,h,l⟩:=R.own j a ds h;exact⟨by rw[zc n];exact q,xs,h,l.mono g⟩
 .rcases getElem?_set_of h with ⟨rfl,z,_⟩|⟨n,h⟩
  .cases z
  .obtain⟨q,h,z⟩:=R.raw j a o x h;exact⟨by rw[zc n];exact q,g _ _ h,z⟩
theorem Rep.set_un{v:Option V}(R:Rep K ρ σ H):Rep K (ρ.set i .un) (σ.set i v) H:=by
 have sub:(owns (ρ.set i .un)).Sublist (owns ρ):=jt rfl;have g:j0 (del H (owns ρ)) (del H (owns (ρ.set i .un))):=J0 λb hb=>sub.subset hb;refine⟨by simp[R.len],λj d' h=>?_,λj a ds h=>?_,sub.nodup R.nd,λj a o x h=>?_,R.tb⟩
 .rcases getElem?_set_of h with ⟨rfl,z,hl⟩|⟨n,h⟩
  .cases z
  .obtain⟨u,q,h⟩:=R.val j d' h;exact⟨u,by rw[zc n];exact q,h.mono g⟩
 .rcases getElem?_set_of h with ⟨rfl,z,_⟩|⟨n,h⟩
  .cases z
  .obtain⟨q,xs,h,l⟩:=R.own j a ds h;exact⟨by rw[zc n];exact q,xs,h,l.mono g⟩
 .rcases getElem?_set_of h with ⟨rfl,z,_⟩|⟨n,h⟩
  .cases z
  .obtain⟨q,h,z⟩:=R.raw j a o x h;exact⟨by rw[zc n];exact q,g _ _ h,z⟩
theorem Rep.set_own(R:Rep K ρ σ H)(g:j0 H H')(ha:H a=a6)(e:H' a=a3 (.lst xs))(l:j4 K (del H' (a::owns ρ)) ds xs):Rep K (ρ.set i (.own a ds)) (σ.set i (a3 (.ref a))) H':=by
 have na:=R.fresh ha;obtain⟨nd,sub⟩:=Jg (ds:=ds) (i:=i) R.nd na;have g1:j0 (del H' (a::owns ρ)) (del H' (owns (ρ.set i (.own a ds)))):=J0 λb hb=>by
  rcases sub b hb with e|z
  .exact e▸xn ..
  .exact km _ z
 have g2:j0 (del H (owns ρ)) (del H' (a::owns ρ)):=λb o q=>by
  obtain⟨n,q⟩:=of_del q;rw[j5];exact g b o q;intro z;rcases xr.mp z with e|z
  .subst e;rw[ha]at q;cases q
  .exact n z
 refine⟨by simp[R.len],λj d' h=>?_,λj b ds' h=>?_,nd,λj b o x h=>?_,R.tb.mono g⟩
 .rcases getElem?_set_of h with ⟨rfl,z,hl⟩|⟨n,h⟩
  .cases z
  .obtain⟨u,q,h⟩:=R.val j d' h;exact⟨u,by rw[zc n];exact q,h.mono (g2.trans g1)⟩
 .rcases getElem?_set_of h with ⟨rfl,z,hl⟩|⟨n,h⟩
  .cases z;exact⟨Wt (by rw[R.len];exact hl),xs,e,l.mono g1⟩
  .obtain⟨q,ys,h,l⟩:=R.own j b ds' h;exact⟨by rw[zc n];exact q,ys,g _ _ h,l.mono (g2.trans g1)⟩
 .rcases getElem?_set_of h with ⟨rfl,z,hl⟩|⟨n,h⟩
  .cases z
  .obtain⟨q,h,z⟩:=R.raw j b o x h;exact⟨by rw[zc n];exact q,g1 _ _ (g2 _ _ h),z⟩
theorem Rep.upd_own(R:Rep K ρ σ H)(h:ρ[i]?=a3 (.own a ds))(l:j4 K (del H (owns ρ)) ds' xs):Rep K (ρ.set i (.own a ds')) σ (upd H a (.lst xs)):=by
 have eo:owns (ρ.set i (.own a ds'))=owns ρ:=Vq h;have ed:del (upd H a (.lst xs)) (owns ρ)=del H (owns ρ):=Uw (Qc h);refine⟨by simp[R.len],λj d' q=>?_,λj b l' q=>?_,by rw[eo];exact R.nd,λj b o x q=>?_,let ⟨_,_,z,_⟩:=R.own i a ds h;R.tb.upd z λ_ y=>by cases y⟩
 .rw[eo,ed];rcases getElem?_set_of q with ⟨_,z,_⟩|⟨n,q⟩
  .cases z
  .exact R.val j d' q
 .rw[eo,ed];rcases getElem?_set_of q with ⟨rfl,z,_⟩|⟨n,q'⟩
  .cases z;exact⟨(R.own i a ds h).1,xs,jc,l⟩
  .obtain⟨z,ys,y,l''⟩:=R.own j b l' q';refine⟨z,ys,?_,l''⟩;have nb:b≠a:=λe=>n (Yh R.nd h (e▸q'));rw[ji nb];exact y
 .rw[eo,ed];rcases getElem?_set_of q with ⟨_,z,_⟩|⟨n,q⟩
  .cases z
  .exact R.raw j b o x q
theorem Rep.freeze(R:Rep K ρ σ H)(h:ρ[i]?=a3 (.own a ds)):Rep K (ρ.set i (.val (.lst ds))) σ H:=by
 obtain⟨hs,xs,hx,l⟩:=R.own i a ds h;have sub:(owns (ρ.set i (.val (.lst ds)))).Sublist (owns ρ):=jt rfl;have g:j0 (del H (owns ρ)) (del H (owns (ρ.set i (.val (.lst ds))))):=J0 λb hb=>sub.subset hb;have na:a∉owns (ρ.set i (.val (.lst ds))):=λz=>by
  obtain⟨j,l',q⟩:=Vj z;rcases getElem?_set_of q with ⟨_,z,_⟩|⟨n,q⟩
  .cases z
  .exact n (Yh R.nd h q)
 refine⟨by simp[R.len],λj d' q=>?_,λj b l' q=>?_,sub.nodup R.nd,λj b o x q=>?_,R.tb⟩
 .rcases getElem?_set_of q with ⟨rfl,z,_⟩|⟨n,q⟩
  .cases z;exact⟨_,hs,a,xs,rfl,.inl (.inl (by rw[j5 na];exact hx)),l.mono g⟩
  .obtain⟨u,q,h⟩:=R.val j d' q;exact⟨u,q,h.mono g⟩
 .rcases getElem?_set_of q with ⟨rfl,z,_⟩|⟨n,q⟩
  .cases z
  .obtain⟨q,ys,h,l⟩:=R.own j b l' q;exact⟨q,ys,h,l.mono g⟩
 .rcases getElem?_set_of q with ⟨_,z,_⟩|⟨n,q⟩
  .cases z
  .obtain⟨q,h,z⟩:=R.raw j b o x q;exact⟨q,g _ _ h,z⟩
end
def DE(X:Cx)(ρ:Rho)(e:aj)(d:D):Prop:=∀σ H Q,Rep X.K ρ σ H->(∀v H',j0 H H'->Enc X.K (del H' (owns ρ)) d v->Q v H')->Qx X e σ H Q
def DT(X:Cx)(ρ:Rho)(e:aj)(d:D):Prop:=∀σ H Q,Rep X.K ρ σ H->(∀v H',j0 H H'->Enc X.K H' d v->Q v H')->Qx X e σ H Q
def DO(X:Cx)(ρ:Rho)(e:aj)(ds:List D):Prop:=∀σ H Q,Rep X.K ρ σ H->(∀a xs H',j0 H H'->H a=a6->H' a=a3 (.lst xs)->j4 X.K (del H' (a::owns ρ)) ds xs->Q (.ref a) H')->Qx X e σ H Q
def DL(X:Cx)(ρ:Rho)(e:aj)(ds:List D):Prop:=∀σ H Q,Rep X.K ρ σ H->(∀a xs H',j0 H H'->H' a=a3 (.lst xs)->j4 X.K (del H' (owns ρ)) ds xs->Q (.ref a) H')->Qx X e σ H Q
def DB(X:Cx)(ρ:Rho)(e:aj)(b:Bool):Prop:=∀σ H Q,Rep X.K ρ σ H->(∀H',j0 H H'->Q b H')->j70 X e σ H Q
def DA(X:Cx)(ρ:Rho)(es:List aj)(ds:List D):Prop:=∀σ H Q,Rep X.K ρ σ H->(∀vs H',j0 H H'->j4 X.K (del H' (owns ρ)) ds vs->Q vs H')->Dg X es σ H Q
def DTA(X:Cx)(ρ:Rho)(es:List aj)(ds:List D):Prop:=∀σ H Q,Rep X.K ρ σ H->(∀vs H',j0 H H'->j4 X.K H' ds vs->Q vs H')->Dg X es σ H Q
def j6z(X:Cx)(e:aj):TT:=λσ H Q=>∀whole pins s,Inv X pins σ H s->ao (aw X.prog X.w) X.A (fw e X.env whole) (TP X pins σ Q) X.xe s
theorem pwS{X:Cx}{e:aj}:PW X e (j6z X e):=λwhole pins s _ _ _ I h=>h whole pins s I
theorem PW.to{X:Cx}{e:aj}{t:TT}{σ:St}{H:Hp}(h:PW X e t){Q:Bool->Hp->Prop}(q:t σ H Q):j6z X e σ H Q:=λwhole pins s I=>h whole pins s σ H Q I q
def DW(X:Cx)(ρ:Rho)(e:aj)(b:Bool):Prop:=∀σ H Q,Rep X.K ρ σ H->(∀H',j0 H H'->Q b H')->j6z X e σ H Q
mutual
noncomputable def Qo:D->Bool
 |.lst _=>a4
 |.dct _ _=>a4
 |.sct _=>a4
 |.fn _ _=>a4
 |.tup ds=>qy ds
 |_=>a7
noncomputable def qy:List D->Bool
 |[]=>a7
 |d::ds=>Qo d&&qy ds
end
mutual
theorem Enc.hide{K:k8o}{H:Hp}{A:List aa}(hA:∀a∈A,Hd (H a)):∀{d:D}{v:V},Qo d=a7->Enc K H d v->Enc K (del H A) d v
 |.non,_,_,h=>h
 |.bl _,_,_,h=>h
 |.int _,_,_,h=>h
 |.str _,_,_,h=>h
 |.lst _,_,n,_=>by cases n
 |.dct _ _,_,n,_=>by cases n
 |.sct _,_,n,_=>by cases n
 |.fn _ _,_,n,_=>by cases n
 |.tup ds,_,n,⟨a,xs,e,q,l⟩=>by
  refine⟨a,xs,e,?_,j4.hide hA (by simpa [Qo]using n) l⟩;have out:∀{o:HO},H a=a3 o->(∀ys,o≠.lst ys)->(∀ys ep,o≠.dI ys ep)->del H A a=a3 o:=λ{o} h z z2=>by
   rw[j5];exact h;intro y;rcases hA a y with ⟨ys,e'⟩|⟨ys,ep,e'⟩
   .rw[h]at e';cases e';exact z ys rfl
   .rw[h]at e';cases e';exact z2 ys ep rfl
  rcases q with (q|⟨o,q⟩)|q
  .exact .inl (.inl (out q (λ_ z=>by cases z) λ_ _ z=>by cases z))
  .exact .inl (.inr ⟨o,out q (λ_ z=>by cases z) λ_ _ z=>by cases z⟩)
  .exact .inr q
theorem j4.hide{K:k8o}{H:Hp}{A:List aa}(hA:∀a∈A,Hd (H a)):∀{ds:List D}{xs:List V},qy ds=a7->j4 K H ds xs->j4 K (del H A) ds xs
 |[],_,_,h=>h
 |d::ds,_,n,⟨x,r,e,h,l⟩=>by
  have n':Qo d=a7/\qy ds=a7:=by simpa [qy]using n
  exact⟨x,r,e,Enc.hide hA n'.1 h,j4.hide hA n'.2 l⟩
end
section
variable{X:Cx}{ρ:Rho}{e a b c:aj}{es:List aj}{d da db:D}{ds ds':List D}{i j:Int}{pos:aK}{k:Nat}{x:ah}
theorem DE.toT(h:DE X ρ e d):DT X ρ e d:=λσ H Q R q=>h σ H Q R λv H' g l=>q v H' g (l.mono jx)
theorem DT.toE(h:DT X ρ e d)(n:Qo d=a7:=by rfl):DE X ρ e d:=λσ H Q R q=>h σ H Q R λv H' g l=>q v H' g (l.hide (λa ha=>.inl ((R.grow g).owned a ha)) n)
theorem DO.toL(h:DO X ρ e ds):DL X ρ e ds:=λσ H Q R q=>h σ H Q R λa xs H' g n m l=>q a xs H' g m (l.mono (J0 λb hb=>km _ hb))
theorem DO.toE(h:DO X ρ e ds):DE X ρ e (.lst ds):=λσ H Q R q=>h σ H Q R λa xs H' g n m l =>q _ H' g ⟨a,xs,rfl,.inl (.inl (by rw[j5 (R.fresh n)];exact m)),l.mono (J0 λb hb=>km _ hb)⟩
theorem DL.toT(h:DL X ρ e ds):DT X ρ e (.lst ds):=λσ H Q R q=>h σ H Q R λa xs H' g m l=>q _ H' g ⟨a,xs,rfl,.inl (.inl m),l.mono jx⟩
theorem DW.toB{k:Bool}(h:DW X ρ e k):DB X ρ e k:=λσ H Q R q pins s I=>h σ H Q R q _ pins s I
theorem DE.eq(h:DE X ρ e d){d':D}(q:d=d'):DE X ρ e d':=q▸h
theorem DB.eq{b b':Bool}(h:DB X ρ e b)(q:b=b'):DB X ρ e b':=q▸h
end
section
variable{X:Cx}{ρ:Rho}{e a b c:aj}{es:List aj}{d da db:D}{ds ds':List D}{i j:Int}{pos p:aK}{k:Nat}{x:ah}
theorem DE.var(k:Nat)(h:ρ[k]?=a3 (.val d))(hN:X.N[k]?=a3 x:=by rfl)(hv:Vis X.env.scope x:=by first|exact b8 rfl|exact bF (b8 rfl)|exact bF (bF rfl))
  (hd:(x==k8s)=a4:=by decide) (hcd:(x==k8t)=a4:=by decide):DE X ρ (.Name x pos) d:=λσ H Q R q=>by
 obtain⟨v,hs,en⟩:=R.val k d h;exact(Z1 hN hv hd hcd).to ⟨v,hs,q v H (j0.refl H) en⟩
theorem DL.var(k:Nat){l:aa}(h:ρ[k]?=a3 (.own l ds))(hN:X.N[k]?=a3 x:=by rfl)(hv:Vis X.env.scope x:=by first|exact b8 rfl|exact bF (b8 rfl)|exact bF (bF rfl))
  (hd:(x==k8s)=a4:=by decide) (hcd:(x==k8t)=a4:=by decide):DL X ρ (.Name x pos) ds:=λσ H Q R q=>by
 obtain⟨hs,xs,m,en⟩:=R.own k l ds h;exact(Z1 hN hv hd hcd).to ⟨_,hs,q l xs H (j0.refl H) m en⟩
theorem DE.glob {u:a8} {v:V} (hg:Gl X x) (hm:X.mg x=a3 u) (r:RelV v u) (h:∀H,Enc X.K H d v) (hd:(x==k8s)=a4:=by decide):DE X ρ (.Name x pos) d :=
 λσ H Q R q=>(jaz hg hm r hd).to (q v H (j0.refl H) (h _))
theorem DE.int{i:Int}{n:Nat}{pos:aK}:DE X ρ (.Constant (.int i) n pos) (.int i):=λσ H Q R q=>jdq.to (q _ H (j0.refl H) rfl)
theorem DE.bl{b:Bool}{n:Nat}:DE X ρ (.Constant (.bool b) n pos) (.bl b):=λσ H Q R q=>jhc.to (q _ H (j0.refl H) rfl)
theorem DE.non{n:Nat}:DE X ρ (.Constant .none n pos) .non:=λσ H Q R q=>j00.to (q _ H (j0.refl H) rfl)
theorem DE.str{y:ah}{n:Nat}:DE X ρ (.Constant (.str y) n pos) (.str y):=λσ H Q R q=>j4t.to (q _ H (j0.refl H) rfl)
theorem DE.arI0{op:jE}{g:Int->Int->Int}(ho:OpR X (aW op) (rI0 λi j=>.int (g i j)))(ha:DT X ρ a (.int i))(hb:DT X ρ b (.int j)):DE X ρ (.BinOp a op b pos) (.int (g i j)):=λσ H Q R q =>(U6 ho peS peS).to (ha σ H _ R λv H1 g1 e1=>hb σ H1 _ (R.grow g1) λu H2 g2 e2=>⟨i,j,e1,e2,q _ H2 (g1.trans g2) rfl⟩)
theorem DE.arI{op:jE}{C:Int->Int->Prop}{g:Int->Int->Int}(ho:OpR X (aW op) (rI C λi j=>.int (g i j)))(ha:DT X ρ a (.int i))(hb:DT X ρ b (.int j))(hC:C i j):DE X ρ (.BinOp a op b pos) (.int (g i j)):=λσ H Q R q =>(U6 ho peS peS).to (ha σ H _ R λv H1 g1 e1=>hb σ H1 _ (R.grow g1) λu H2 g2 e2=>⟨i,j,e1,e2,hC,q _ H2 (g1.trans g2) rfl⟩)
theorem DE.add(ha:DT X ρ a (.int i))(hb:DT X ρ b (.int j)):DE X ρ (.BinOp a .Add b pos) (.int (i+j)):=DE.arI0 je2 ha hb
theorem DE.sub(ha:DT X ρ a (.int i))(hb:DT X ρ b (.int j)):DE X ρ (.BinOp a .Sub b pos) (.int (i-j)):=DE.arI0 jdu ha hb
theorem DE.mul(ha:DT X ρ a (.int i))(hb:DT X ρ b (.int j))(h:j43 i j):DE X ρ (.BinOp a .Mult b pos) (.int (i*j)):=DE.arI jdz ha hb h
theorem DE.mod(ha:DT X ρ a (.int i))(hb:DT X ρ b (.int j))(h:0<j):DE X ρ (.BinOp a .Mod b pos) (.int (i%j)):=DE.arI je0 ha hb h
theorem DE.pow(ha:DT X ρ a (.int i))(hb:DT X ρ b (.int j))(h:j42 i j):DE X ρ (.BinOp a .Pow b pos) (.int (i^j.toNat)):=DE.arI jdy ha hb h
theorem DE.shl(ha:DT X ρ a (.int i))(hb:DT X ρ b (.int j))(h:j42 i j):DE X ρ (.BinOp a .LShift b pos) (.int (i*2^j.toNat)):=DE.arI (g:=λi j=>i*2^j.toNat) jdw ha hb h
theorem DE.neg(ha:DT X ρ a (.int i)):DE X ρ (.UnaryOp .USub a pos) (.int (-i)):=λσ H Q R q =>(jhb jck peS).to (ha σ H _ R λv H1 g1 e1=>⟨i,e1,q _ H1 g1 rfl⟩)
theorem DE.cmpI{op:gj}{g:Int->Int->Bool}(ho:OpR X (aL op) (rI0 λi j=>.bl (g i j)))(hm:aF op b=a4)(ha:DT X ρ a (.int i))(hb:DT X ρ b (.int j)):DE X ρ (.Compare a [op] [b] pos) (.bl (g i j)):=λσ H Q R q =>(Jf ho peS peS hm).to (ha σ H _ R λv H1 g1 e1=>hb σ H1 _ (R.grow g1) λu H2 g2 e2=>⟨i,j,e1,e2,q _ H2 (g1.trans g2) rfl⟩)
theorem DB.cmpI{op:gj}{g:Int->Int->Bool}(ho:OpR X (aL op) (rI0 λi j=>.bl (g i j)))(hm:aF op b=a4)(ha:DT X ρ a (.int i))(hb:DT X ρ b (.int j)):DB X ρ (.Compare a [op] [b] pos) (g i j):=λσ H Q R q =>(Je ho peS peS hm).to (ha σ H _ R λv H1 g1 e1=>hb σ H1 _ (R.grow g1) λu H2 g2 e2=>⟨i,j,e1,e2,_,rfl,q H2 (g1.trans g2)⟩)
theorem DB.lt(ha:DT X ρ a (.int i))(hb:DT X ρ b (.int j)):DB X ρ (.Compare a [.Lt] [b] pos) (decide (i<j)):=DB.cmpI Ks (qx _) ha hb
theorem DB.le(ha:DT X ρ a (.int i))(hb:DT X ρ b (.int j)):DB X ρ (.Compare a [.LtE] [b] pos) (decide (i<=j)):=DB.cmpI j9f (qx _) ha hb
theorem DB.gt(ha:DT X ρ a (.int i))(hb:DT X ρ b (.int j)):DB X ρ (.Compare a [.Gt] [b] pos) (decide (j<i)):=DB.cmpI j9g (qx _) ha hb
theorem DB.ge(ha:DT X ρ a (.int i))(hb:DT X ρ b (.int j)):DB X ρ (.Compare a [.GtE] [b] pos) (decide (j<=i)):=DB.cmpI j9h (qx _) ha hb
theorem DE.lt(ha:DT X ρ a (.int i))(hb:DT X ρ b (.int j)):DE X ρ (.Compare a [.Lt] [b] pos) (.bl (decide (i<j))):=DE.cmpI Ks (qx _) ha hb
theorem DE.le(ha:DT X ρ a (.int i))(hb:DT X ρ b (.int j)):DE X ρ (.Compare a [.LtE] [b] pos) (.bl (decide (i<=j))):=DE.cmpI j9f (qx _) ha hb
theorem DE.gt(ha:DT X ρ a (.int i))(hb:DT X ρ b (.int j)):DE X ρ (.Compare a [.Gt] [b] pos) (.bl (decide (j<i))):=DE.cmpI j9g (qx _) ha hb
theorem DE.ge(ha:DT X ρ a (.int i))(hb:DT X ρ b (.int j)):DE X ρ (.Compare a [.GtE] [b] pos) (.bl (decide (j<=i))):=DE.cmpI j9h (qx _) ha hb
noncomputable def D.sc:D->Option V
 |.non=>a3 .non
 |.bl b=>a3 (.bl b)
 |.int i=>a3 (.int i)
 |.str x=>a3 (.str x)
 |_=>a6
theorem D.sc_enc{K:k8o}{H:Hp}{d:D}{u v:V}(h:d.sc=a3 u)(q:Enc K H d v):v=u:=by cases d<;>simp[D.sc]at h<;>subst h<;>exact q
theorem DE.eqS{u v:V}(ha:DT X ρ a da)(hb:DT X ρ b db)(h1:da.sc=a3 u:=by rfl)(h2:db.sc=a3 v:=by rfl)(h:Di u v=a7:=by rfl):DE X ρ (.Compare a [.Eq] [b] pos) (.bl (decide (u=v))):=λσ H Q R q =>
 (Jf j9i peS peS (qx _)).to (ha σ H _ R λx H1 g1 e1=>hb σ H1 _ (R.grow g1) λy H2 g2 e2=>by
  cases D.sc_enc h1 e1;cases D.sc_enc h2 e2;exact⟨h,q _ H2 (g1.trans g2) rfl⟩)
theorem DE.neS{u v:V}(ha:DT X ρ a da)(hb:DT X ρ b db)(h1:da.sc=a3 u:=by rfl)(h2:db.sc=a3 v:=by rfl)(h:Di u v=a7:=by rfl):DE X ρ (.Compare a [.NotEq] [b] pos) (.bl (!decide (u=v))):=λσ H Q R q =>
 (Jf j9e peS peS (qx _)).to (ha σ H _ R λx H1 g1 e1=>hb σ H1 _ (R.grow g1) λy H2 g2 e2=>by
  cases D.sc_enc h1 e1;cases D.sc_enc h2 e2;exact⟨h,q _ H2 (g1.trans g2) rfl⟩)
theorem DB.eqS{u v:V}(ha:DT X ρ a da)(hb:DT X ρ b db)(h1:da.sc=a3 u:=by rfl)(h2:db.sc=a3 v:=by rfl)(h:Di u v=a7:=by rfl):DB X ρ (.Compare a [.Eq] [b] pos) (decide (u=v)):=λσ H Q R q =>
 (Je j9i peS peS (qx _)).to (ha σ H _ R λx H1 g1 e1=>hb σ H1 _ (R.grow g1) λy H2 g2 e2=>by
  cases D.sc_enc h1 e1;cases D.sc_enc h2 e2;exact⟨h,_,rfl,q H2 (g1.trans g2)⟩)
theorem DB.neS{u v:V}(ha:DT X ρ a da)(hb:DT X ρ b db)(h1:da.sc=a3 u:=by rfl)(h2:db.sc=a3 v:=by rfl)(h:Di u v=a7:=by rfl):DB X ρ (.Compare a [.NotEq] [b] pos) (!decide (u=v)):=λσ H Q R q =>
 (Je j9e peS peS (qx _)).to (ha σ H _ R λx H1 g1 e1=>hb σ H1 _ (R.grow g1) λy H2 g2 e2=>by
  cases D.sc_enc h1 e1;cases D.sc_enc h2 e2;exact⟨h,_,rfl,q H2 (g1.trans g2)⟩)
theorem Wd(i j:Int):decide (V.int i=V.int j)=decide (i=j):=by
 by_cases h:i=j
 .subst h;simp
 .rw[decide_eq_false h,decide_eq_false (λz=>h (V.int.inj z))]
theorem j2e(i j:Bool):decide (V.bl i=V.bl j)=(i==j):=by cases i<;>cases j<;>rfl
theorem j0k(i j:ah):decide (V.str i=V.str j)=decide (i=j):=by
 by_cases h:i=j
 .subst h;simp
 .rw[decide_eq_false h,decide_eq_false (λz=>h (V.str.inj z))]
theorem DE.eqI(ha:DT X ρ a (.int i))(hb:DT X ρ b (.int j)):DE X ρ (.Compare a [.Eq] [b] pos) (.bl (decide (i=j))):=(DE.eqS ha hb).eq (by rw[Wd])
theorem DE.neI(ha:DT X ρ a (.int i))(hb:DT X ρ b (.int j)):DE X ρ (.Compare a [.NotEq] [b] pos) (.bl (!decide (i=j))):=(DE.neS ha hb).eq (by rw[Wd])
theorem DB.eqI(ha:DT X ρ a (.int i))(hb:DT X ρ b (.int j)):DB X ρ (.Compare a [.Eq] [b] pos) (decide (i=j)):=(DB.eqS ha hb).eq (by rw[Wd])
theorem DB.neI(ha:DT X ρ a (.int i))(hb:DT X ρ b (.int j)):DB X ρ (.Compare a [.NotEq] [b] pos) (!decide (i=j)):=(DB.neS ha hb).eq (by rw[Wd])
theorem DE.neB{x y:Bool}(ha:DT X ρ a (.bl x))(hb:DT X ρ b (.bl y)):DE X ρ (.Compare a [.NotEq] [b] pos) (.bl (x != y)):=(DE.neS ha hb).eq (by rw[j2e];rfl)
theorem DB.neB{x y:Bool}(ha:DT X ρ a (.bl x))(hb:DT X ρ b (.bl y)):DB X ρ (.Compare a [.NotEq] [b] pos) (x != y):=(DB.neS ha hb).eq (by rw[j2e];rfl)
noncomputable def D.isNon:D->Bool
 |.non=>a7
 |_=>a4
theorem Ra{K:k8o}{H:Hp}{d:D}{v:V}(q:Enc K H d v):decide (v=V.non)=d.isNon:=by
 cases d with
 |non=>cases(show v=.non from q);rfl
 |bl b=>cases(show v=.bl b from q);rfl
 |int b=>cases(show v=.int b from q);rfl
 |str b=>cases(show v=.str b from q);rfl
 |tup l=>obtain⟨a,xs,e,_⟩:=q;subst e;rfl
 |lst l=>obtain⟨a,xs,e,_⟩:=q;subst e;rfl
 |dct ks l=>obtain⟨a,xs,ep,vs,e,_⟩:=q;subst e;rfl
 |sct k=>obtain⟨a,e,_⟩:=q;subst e;rfl
 |fn x l=>obtain⟨a,c,tx,cl,vs,e,_⟩:=q;subst e;rfl
theorem DB.isN{n:Nat}{p2:aK}(ha:DT X ρ a d):DB X ρ (.Compare a [.Is] [.Constant .none n p2] pos) d.isNon:=λσ H Q R q =>(jdj (jds peS)).to (ha σ H _ R λx H1 g1 e1=>⟨_,rfl,by rw[Ra e1];exact q H1 g1⟩)
theorem DB.val{k:Bool}(ha:DT X ρ a (.bl k))(he:∀whole,fw a X.env whole=(do let v <-whole;ko a.pos;iK [v] (truthy v)):=by intro _;rfl):DB X ρ a k:=λσ H Q R q =>(jdh peS he).to (ha σ H _ R λx H1 g1 e1=>⟨_,e1,q H1 g1⟩)
theorem DW.or1{k:Bool}(ha:DB X ρ a k):DW X ρ (.BoolOp .Or [a] pos) k:=λσ H Q R q=>(jdg ptS).to (ha σ H Q R q)
theorem DW.or{k m:Bool}{rest:List aj}(ha:DB X ρ a k)(hb:k=a4->DW X ρ (.BoolOp .Or (b::rest) pos) m):DW X ρ (.BoolOp .Or (a::b::rest) pos) (k || m):=λσ H Q R q =>
 (jh9 ptS pwS).to (ha σ H _ R λH1 g1=>by
  cases k with
  |true=>exact j3j (q H1 g1)
  |false=>exact j3k (hb rfl σ H1 Q (R.grow g1) λH2 g2=>q H2 (g1.trans g2)))
theorem DB.not{k:Bool}(ha:DB X ρ a k):DB X ρ (.UnaryOp .Not a pos) (!k):=λσ H Q R q=>(jdi ptS).to (ha σ H _ R λH1 g1=>q H1 g1)
theorem DE.and{k m:Bool}{rest:List aj}(ha:DT X ρ a (.bl k))(hb:k=a7->DE X ρ (.BoolOp .And (b::rest) pos) (.bl m)):DE X ρ (.BoolOp .And (a::b::rest) pos) (.bl (k&&m)):=λσ H Q R q =>
 (jdr peS peS).to (ha σ H _ R λx H1 g1 e1=>⟨k,e1,by
  cases k with
  |false=>exact j3k (q _ H1 g1 rfl)
  |true=>exact j3j (hb rfl σ H1 Q (R.grow g1) λv H2 g2=>q v H2 (g1.trans g2))⟩)
theorem DE.not{k:Bool}(ha:DT X ρ a (.bl k)):DE X ρ (.UnaryOp .Not a pos) (.bl (!k)):=λσ H Q R q=>(jdo peS).to (ha σ H _ R λx H1 g1 e1=>⟨k,e1,q _ H1 g1 rfl⟩)
theorem DE.ite{k:Bool}{d':D}(hc:DB X ρ c k)(ha:k=a7->DE X ρ a d)(hb:k=a4->DE X ρ b d'):DE X ρ (.IfExp c a b pos) (if k=a7 then d else d'):=λσ H Q R q =>
 (j7h ptS peS peS).to (hc σ H _ R λH1 g1=>by
  cases k with
  |true=>exact j3j (ha rfl σ H1 Q (R.grow g1) λv H2 g2 z=>q v H2 (g1.trans g2) (by rw[if_pos rfl];exact z))
  |false=>exact j3k (hb rfl σ H1 Q (R.grow g1) λv H2 g2 z=>q v H2 (g1.trans g2) (by rw[if_neg xj];exact z)))
theorem DA.nil:DA X ρ [] []:=λσ H Q R q=>q8.to (q [] H (j0.refl H) rfl)
theorem DA.cons(ha:DE X ρ a d)(hr:DA X ρ es ds)(hs:a9 (a::es) X.env=(a4,ay a X.env)::a9 es X.env:=by rfl):DA X ρ (a::es) (d::ds):=λσ H Q R q =>(jf peS paS hs).to (ha σ H _ R λv H1 g1 e1=>hr σ H1 _ (R.grow g1) λvs H2 g2 e2=>q _ H2 (g1.trans g2) ⟨v,vs,rfl,e1.mono (je g2),e2⟩)
theorem DTA.nil:DTA X ρ [] []:=λσ H Q R q=>q8.to (q [] H (j0.refl H) rfl)
theorem DTA.cons(ha:DT X ρ a d)(hr:DTA X ρ es ds)(hs:a9 (a::es) X.env=(a4,ay a X.env)::a9 es X.env:=by rfl):DTA X ρ (a::es) (d::ds):=λσ H Q R q =>(jf peS paS hs).to (ha σ H _ R λv H1 g1 e1=>hr σ H1 _ (R.grow g1) λvs H2 g2 e2=>q _ H2 (g1.trans g2) ⟨v,vs,rfl,e1.mono g2,e2⟩)
theorem DE.tup{n:Nat}{x1}(h:DA X ρ es ds)(hl:ds.length<=ak:=by simp only[xq,t8];decide):DE X ρ (.Tuple es x1 pos) (.tup ds):=λσ H Q R q =>(jdn paS).to (h σ H _ R λvs H1 g1 e1=>⟨by rw[e1.length];exact hl,λp hp=>q _ _ (g1.trans (j7 hp)) ⟨p,vs,rfl,.inl (.inl (by rw[j5 ((R.grow g1).fresh hp)];exact jc)),e1.mono (je (j7 hp))⟩⟩)
theorem DO.lst(h:DA X ρ es ds)(hl:ds.length<=ak:=by simp only[xq,t8];decide):DO X ρ (.List es pos) ds:=λσ H Q R q =>
 (jdp paS).to (h σ H _ R λvs H1 g1 e1=>⟨by rw[e1.length];exact hl,λp hp=>q p vs _ (g1.trans (j7 hp)) (g1.free hp) jc (e1.mono λb o z=>by
  obtain⟨n,z⟩:=of_del z
  rw[j5];exact j7 hp b o z
  intro y
  rcases xr.mp y with y|y
  .subst y;rw[hp]at z;cases z
  .exact n y)⟩)
theorem j4.atI{K:k8o}{H:Hp}{xs:List V}(h:j4 K H ds xs)(q:atI ds i=a3 d):∃x,L2.atI xs i=a3 x/\Enc K H d x:=by
 unfold L2.atI at q ⊢;rw[h.length];cases z:ixN ds.length i with
 |none=>rw[z]at q;cases q
 |some k =>rw[z]at q;exact h.get q
noncomputable def cutD(ds:List D)(lo hi:Option Int):List D:=(ds.drop (HT.sIx ds.length 0 lo)).take (HT.sIx ds.length ds.length hi-HT.sIx ds.length 0 lo)
theorem j4.cut{K:k8o}{H:Hp}{xs:List V}(h:j4 K H ds xs)(lo hi:Option Int):j4 K H (cutD ds lo hi) (Rr xs lo hi):=by unfold cutD Rr;rw[h.length];exact(h.drop _).take _
theorem Wa{K:k8o}{H1:Hp}{A:List aa}{ds:List D}{xs:List V}{p:aa}{o:HO}(hp:H1 p=a6)(e1:j4 K (del H1 A) ds xs):j4 K (del (upd H1 p o) (p::A)) ds xs:=e1.mono λb o z=>by
 obtain⟨n,z⟩:=of_del z;rw[j5];exact j7 hp b o z;intro y;rcases xr.mp y with y|y
 .subst y;rw[hp]at z;cases z
 .exact n y
theorem DO.rep(ha:DL X ρ a ds)(hb:DT X ρ b (.int i))(h1:-(2^63)<=i)(h2:i<2^63)(hl:ds.length*i.toNat<=ak):DO X ρ (.BinOp a .Mult b pos) (ae i.toNat ds).flatten:=λσ H Q R q =>
 (U6 jdx peS peS).to (ha σ H _ R λl xs H1 g1 m1 e1=>hb σ H1 _ (R.grow g1) λu H2 g2 e2 =>
  ⟨l,i,xs,rfl,e2,g2 _ _ m1,h1,h2,by rw[e1.length];exact hl,λp hp=>q p _ _ ((g1.trans g2).trans (j7 hp)) ((g1.trans g2).free hp) jc (Wa hp ((e1.mono (je g2)).rep _))⟩)
theorem DE.lenT (ha:DT X ρ a (.tup ds)) (hm:X.mg "len" = a6) (hg:Gl X "len":=by rfl) (hs:a9 [a] X.env=[(a4,ay a X.env)]:=by rfl) {p2:aK}:DE X ρ (.Call (.Name "len" p2) [a] [] pos) (.int ds.length):=λσ H Q R q =>(J9 Rv hg hm dN (jf peS q8 hs) (by decide) (by decide) hs).to (ha σ H _ R λv H1 g1 ⟨l,xs,e,sq,en⟩=>⟨l,xs,by rw[e],.inr sq,q _ H1 g1 (by rw[en.length];rfl)⟩)
theorem DE.lenL (ha:DT X ρ a (.lst ds)) (hm:X.mg "len" = a6) (hg:Gl X "len":=by rfl) (hs:a9 [a] X.env=[(a4,ay a X.env)]:=by rfl) {p2:aK}:DE X ρ (.Call (.Name "len" p2) [a] [] pos) (.int ds.length):=λσ H Q R q =>(J9 Rv hg hm dN (jf peS q8 hs) (by decide) (by decide) hs).to (ha σ H _ R λv H1 g1 ⟨l,xs,e,sq,en⟩=>⟨l,xs,by rw[e],.inl sq,q _ H1 g1 (by rw[en.length];rfl)⟩)
end
def framed(sp:Sp):Sp:=λvs H Q E=>∃A:List aa,(∀a∈A,∃xs,H a=a3 (.lst xs))/\sp vs (del H A) (λv F=>(∀a∈A,F a=a6)->Q v (mrg A H F)) E
theorem FnOk.framed{P:au}{w:ax}{K:k8o}{mg:k8r}{base:aA}{k:Nat}{f:aa}{fd:aJ}{ps:List ah}{sp:Sp}(F:FnOk P w K mg base CX0 k f fd ps sp) :
  FnOk P w K mg base CX0 k f fd ps (framed sp) where
 len:=λvs H Q E ⟨A,_,h⟩=>F.len vs _ _ _ h
 run:=by
  rintro A0 outer s H args us vs Q E hr e0 hb rv ⟨A,hA,h⟩;have nd:∀{b:aa},H b=a6->del H A b=a6:=λ{b} q=>by
   by_cases z:b∈A
   .exact qt z
   .rw[j5 z];exact q
  have out:∀{b:aa}{o:HO},H b=a3 o->(∀ys,o≠.lst ys)->del H A b=a3 o:=λ{b o} q z=>by rw[j5];exact q;intro y;obtain⟨ys,e'⟩:=hA b y;rw[q]at e';cases e';exact z ys rfl
  have e1:Env0 P w K mg base A0 outer s (del H A):=⟨e0.frames,e0.mod,λb o q=>⟨(e0.bs b o q).1,nd (e0.bs b o q).2⟩,e0.bsz,e0.funs,λb hb=>nd (e0.frf b hb),
   λa o q=>by
    obtain⟨_,q⟩:=of_del q
    exact jg.stay (e0.hok a o q) (λb u _ z=>z) (λb z=>out z λ_ y=>by cases y) (λb xs z=>out z λ_ y=>by cases y) (λb _ _ z=>out z λ_ y=>by cases y),e0.bare⟩
  refine bf (F.run A0 outer s (del H A) args us vs _ E hr e1 hb rv h) λr s' hq=>?_;cases r with
  |error e=>exact(show False from hq).elim
  |ok fl =>
   cases fl with
   |next=>exact(show False from hq).elim
   |brk=>exact(show False from hq).elim
   |cont=>exact(show False from hq).elim
   |ret u =>
    obtain⟨v,H',os,bare,un,hok',rel,q⟩:=(show CE outer P w (del H A) s _ u s' from hq)
    have kept:∀a∈A,∃o,s.heap.get? a=a3 o/\s'.heap.get? a=a3 o/\H' a=a6:=λa ha=>by
     obtain⟨xs,e⟩:=hA a ha;obtain⟨_,its,n,_,z⟩:=(show jg P w H s.heap a (.lst xs)from e0.hok _ _ e)
     have nf:a∉frs outer:=λy=>by rw[e0.frf a y]at e;cases e
     exact⟨_,z,un.keep a _ z (qt ha) nf (by simp),un.free a _ z (qt ha) (by simp)⟩
    have hF:∀a∈A,H' a=a6:=λa ha=>let ⟨_,_,_,z⟩:=kept a ha;z;have outF:∀{b:aa}{o:HO},H' b=a3 o->b∉A:=λ{b o} e z=>by rw[hF b z]at e;cases e
    refine⟨v,mrg A H H',os,bare,?_,λa o e=>?_,rel,q hF⟩
    .exact{
      keep:=λb o e n=>un.keep b o e (nd n)
      slot:=λb o e n=>un.slot b o e (nd n)
      free:=λb o e n hx=>by
       by_cases z:b∈A
       .rw[J2 z];exact n
       .rw[jj z];exact un.free b o e (nd n) hx
      there:=un.there
      tups:=λb xs e=>by
       have z:=un.tups b xs (out e λ_ y=>by cases y)
       rw[jj (outF z)];exact z
      frzs:=λb o u e=>by
       have z:=un.frzs b o u (out e λ_ y=>by cases y)
       rw[jj (outF z)];exact z
      tbls:=λb ps e=>by
       obtain⟨more,z⟩:=un.tbls b ps (out e λ_ y=>by cases y)
       exact⟨more,by rw[jj (outF z)];exact z⟩ }
    .by_cases z:a∈A
     .rw[J2 z]at e;obtain⟨xs,e'⟩:=hA a z;rw[e']at e;cases e;obtain⟨hl,its,n,r,y⟩:=(show jg P w H s.heap a (.lst xs)from e0.hok _ _ e')
      obtain⟨o',q1,q2,_⟩:=kept a z;rw[y]at q1;cases q1;exact⟨hl,its,n,r,q2⟩
     .rw[jj z]at e;refine jg.stay (hok' a o e) (λb u _ q=>q) (λb q=>?_) (λb xs q=>?_) (λb _ _ q=>?_)
      .rw[jj (outF q)];exact q
      .rw[jj (outF q)];exact q
      .rw[jj (outF q)];exact q
def spP(K:k8o)(S:List D->D->Prop):Sp:=λvs H Q _=>∃A ds d,TabOk K H/\(∀a∈A,∃xs,H a=a3 (.lst xs))/\j4 K (del H A) ds vs/\S ds d/\∀v H',j0 H H'->Enc K (del H' A) d v->Q v H'
def spF(K:k8o)(S:List D->List D->Prop):Sp:=λvs H Q _=>∃A ds l,TabOk K H/\(∀a∈A,∃xs,H a=a3 (.lst xs))/\j4 K (del H A) ds vs/\S ds l /\
 ∀a xs H',j0 H H'->H a=a6->H' a=a3 (.lst xs)->j4 K (del H' (a::A)) l xs->Q (.ref a) H'
def jj6(K:k8o)(S:List D->D->Prop):Sp:=λvs H Q _=>∃ds d,TabOk K H/\j4 K H ds vs/\S ds d/\∀v H',j0 H H'->Enc K H' d v->Q v H'
def jj7(K:k8o)(S:List D->List D->Prop):Sp:=λvs H Q _=>∃ds l,TabOk K H/\j4 K H ds vs/\S ds l/\∀a xs H',j0 H H'->H a=a6->H' a=a3 (.lst xs)->j4 K (del H' [a]) l xs->Q (.ref a) H'
section
variable{P:au}{w:ax}{K:k8o}{mg:k8r}{base:aA}{k:Nat}{f:aa}{fd:aJ}{ps:List ah}
theorem FnOk.toP{S:List D->D->Prop}(F:FnOk P w K mg base CX0 k f fd ps (jj6 K S)):FnOk P w K mg base CX0 k f fd ps (spP K S) :=
 F.framed.imp λvs H Q E ⟨A,ds,d,tb,hA,en,hS,q⟩=>⟨A,hA,ds,d,tb.del hA,en,hS,λv F g e hF=>q v _ (Oo g) (by rw[Y7 hF];exact e)⟩
theorem FnOk.toF{S:List D->List D->Prop}(F:FnOk P w K mg base CX0 k f fd ps (jj7 K S)):FnOk P w K mg base CX0 k f fd ps (spF K S) :=
 F.framed.imp λvs H Q E ⟨A,ds,l,tb,hA,en,hS,q⟩=>⟨A,hA,ds,l,tb.del hA,en,hS,λa xs F g n e l' hF=>by
  have na:a∉A:=λz=>by rw[hF a z]at e;cases e
  refine q a xs _ (Oo g) (by rw[j5 na]at n;exact n) (by rw[jj na];exact e) (l'.mono λb o z=>?_)
  obtain⟨n1,z⟩:=of_del z
  have nb:b∉A:=λy=>by rw[hF b y]at z;cases z
  rw[j5,jj nb];exact z
  intro y
  rcases xr.mp y with y|y
  .exact n1 (by rw[y];exact xm.mpr rfl)
  .exact nb y⟩
end
noncomputable def j3q:List ah:=["dearest_way","cost_on_whole","worst_table","worst_plan","foe_answer","whole_table","whole_plan","mean_price"]
noncomputable def kG(us ws:List a8):List a8:=match ws with
 |[w]=>us++[w]
 |_=>[]
noncomputable def kGV(vs zs:List V):List V:=match zs with
 |[z]=>vs++[z]
 |_=>[]
def Dfl(K:k8o)(x:ah)(fd:aJ)(ps:List ah):Prop:=x∈j3q->Binds K fd ps [.none]/\KBinds K fd ps ["prices"] kG kGV
structure Cal(X:Cx)(x:ah)(sp:Sp):Prop where
 ex:∃(k:Nat)(f:aa)(fd:aJ)(ps:List ah),FnOk X.prog X.w X.K X.mg X.base CX0 k f fd ps sp/\Room (k+1) X.A/\X.mg x=a3 (.ref f)/\W.keepIn X.K (.ref f)=a7/\Binds X.K fd ps []/\Dfl X.K x fd ps
section
variable{X:Cx}{ρ:Rho}{e a:aj}{es:List aj}{d:D}{ds l:List D}{pos p:aK}{x:ah}
theorem DE.call{S:List D->D->Prop}(c:Cal X x (spP X.K S))(ha:DA X ρ (e::es) ds)(hS:S ds d)(hg:Gl X x:=by rfl)(hdb:(x==k8s)=a4:=by decide)
  (he:a9 (e::es) X.env=(a4,ay e X.env)::a9 es X.env:=by rfl) (hpl:(aO pos (a9 es X.env)).any (·.1)=a4:=by rfl):DE X ρ (.Call (.Name x p) (e::es) [] pos) d:=λσ H Q R q=>by
 obtain⟨k,f,fd,ps,F,hr,hm,hk,hb,_⟩:=c.ex;refine(Mh F (hr.mono (Py _)) hg hm hk hb .nil Kr paS hdb he hpl).to (ha σ H _ R λvs H1 g1 e1=>?_);show spP X.K S (vs++[]) H1 Q E0;rw[Xn];exact⟨owns ρ,ds,d,R.tb.mono g1,(R.grow g1).owned,e1,hS,λv H2 g2 z=>q v H2 (g1.trans g2) z⟩
theorem DT.call{S:List D->D->Prop}(c:Cal X x (spP X.K S))(ha:DTA X ρ (e::es) ds)(hS:S ds d)(hg:Gl X x:=by rfl)(hdb:(x==k8s)=a4:=by decide)
  (he:a9 (e::es) X.env=(a4,ay e X.env)::a9 es X.env:=by rfl) (hpl:(aO pos (a9 es X.env)).any (·.1)=a4:=by rfl):DT X ρ (.Call (.Name x p) (e::es) [] pos) d:=λσ H Q R q=>by
 obtain⟨k,f,fd,ps,F,hr,hm,hk,hb,_⟩:=c.ex;refine(Mh F (hr.mono (Py _)) hg hm hk hb .nil Kr paS hdb he hpl).to (ha σ H _ R λvs H1 g1 e1=>?_);show spP X.K S (vs++[]) H1 Q E0;rw[Xn];exact⟨[],ds,d,R.tb.mono g1,(λa h=>nomatch h),by rw[Jk];exact e1,hS,λv H2 g2 z=>q v H2 (g1.trans g2) (by rw[Jk]at z;exact z)⟩
theorem DO.call{S:List D->List D->Prop}(c:Cal X x (spF X.K S))(ha:DA X ρ (e::es) ds)(hS:S ds l)(hg:Gl X x:=by rfl)(hdb:(x==k8s)=a4:=by decide)
  (he:a9 (e::es) X.env=(a4,ay e X.env)::a9 es X.env:=by rfl) (hpl:(aO pos (a9 es X.env)).any (·.1)=a4:=by rfl):DO X ρ (.Call (.Name x p) (e::es) [] pos) l:=λσ H Q R q=>by
 obtain⟨k,f,fd,ps,F,hr,hm,hk,hb,_⟩:=c.ex;refine(Mh F (hr.mono (Py _)) hg hm hk hb .nil Kr paS hdb he hpl).to (ha σ H _ R λvs H1 g1 e1=>?_);show spF X.K S (vs++[]) H1 Q E0;rw[Xn];exact⟨owns ρ,ds,l,R.tb.mono g1,(R.grow g1).owned,e1,hS,λa xs H2 g2 n m z=>q a xs H2 (g1.trans g2) (g1.free n) m z⟩
end
inductive Rt where
 |val (d:D)
 |fresh (ds:List D)
noncomputable def Rt.d:Rt->D
 |.val d=>d
 |.fresh l=>.lst l
structure Po where
 nx:Rho->Prop
 rt:Rt->Prop
 bk:Rho->Prop:=λ_=>False
 ct:Rho->Prop:=λ_=>False
 ex:ah->Rho->Prop:=λ_ _=>False
structure Fl(N:aa->Prop)(H:Hp)(h:aA)(e:aa)(C:a8):Prop where
 new:∀b,N b->b≠e
 free:H e=a6
 obj:∃(oe:dn)(vs:Array a8)(a0:a8),h.get? e=a3 oe/\oe.cls=C/\oe.data=.fields vs/\vs[0]?=a3 a0 /\
  (vs[1]?=a3 .none\/∃(T:aa)(oT:dn)(ts:Array a8),vs[1]?=a3 (.ref T)/\T≠e/\h.get? T=a3 oT/\oT.data=.fields ts/\ts[3]?=a3 .none/\H T=a6/\∀b,N b->b≠T)
def Old(X:Cx)(pins:k8q)(b:aa):Prop:=(∃o,X.s₀.heap.get? b=a3 o/\b∉X.ex)\/(∃p∈X.pn++pins,p.1=b)\/b=X.env.locals\/∃x,X.env.cells.lookup x=a3 b
def Cm(X:Cx)(σ:St)(H:Hp)(x:ah):Prop:=∀(pins:k8q) (H':Hp) (s':af) (e:aa) (C:a8),Inv X pins σ H' s'->j0 H H'->X.mg x=a3 C->Fl (Old X pins) H' s'.heap e C->X.xe (.ref e) s'
def Fr0(ρ ρ':Rho)(H H':Hp):Prop:=j0 (del H (owns ρ)) (del H' (owns ρ'))
def Cp(K:k8o)(ρ:Rho)(H H':Hp)(v:V):Rt->Prop
 |.val d=>j0 (del H (owns ρ)) H'/\Enc K H' d v
 |.fresh ds=>∃a xs,v=.ref a/\j0 (del H (owns ρ)) (del H' [a])/\H' a=a3 (.lst xs)/\j4 K (del H' [a]) ds xs
structure EndsOk(X:Cx)(ρ:Rho)(H:Hp)(P:Po)(E:Ends):Prop where
 nx:∀ρ' σ' H',P.nx ρ'->Rep X.K ρ' σ' H'->Fr0 ρ ρ' H H'->E.nx σ' H'
 bk:∀ρ' σ' H',P.bk ρ'->Rep X.K ρ' σ' H'->Fr0 ρ ρ' H H'->E.bk σ' H'
 ct:∀ρ' σ' H',P.ct ρ'->Rep X.K ρ' σ' H'->Fr0 ρ ρ' H H'->E.ct σ' H'
 rt:∀r v H',P.rt r->Cp X.K ρ H H' v r->E.rt v H'
 ex:∀x ρ' σ' H',P.ex x ρ'->Rep X.K ρ' σ' H'->Fr0 ρ ρ' H H'->Cm X σ' H' x
theorem Cp.step{K:k8o}{ρ ρ1:Rho}{H H1 H':Hp}{v:V}{r:Rt}(f:Fr0 ρ ρ1 H H1)(h:Cp K ρ1 H1 H' v r):Cp K ρ H H' v r:=by
 cases r with
 |val d=>exact⟨f.trans h.1,h.2⟩
 |fresh ds=>obtain⟨a,xs,e,g,m,l⟩:=h;exact⟨a,xs,e,f.trans g,m,l⟩
theorem EndsOk.step{X:Cx}{ρ ρ1:Rho}{H H1:Hp}{P:Po}{E:Ends}(h:EndsOk X ρ H P E)(f:Fr0 ρ ρ1 H H1):EndsOk X ρ1 H1 P E :=
 ⟨λρ' σ' H' n R g=>h.nx ρ' σ' H' n R (f.trans g),λρ' σ' H' n R g=>h.bk ρ' σ' H' n R (f.trans g),λρ' σ' H' n R g=>h.ct ρ' σ' H' n R (f.trans g),λr v H' n g=>h.rt r v H' n (Cp.step f g),λx ρ' σ' H' n R g=>h.ex x ρ' σ' H' n R (f.trans g)⟩
theorem Fr0.grow{ρ:Rho}{H H':Hp}(g:j0 H H'):Fr0 ρ ρ H H':=je g
theorem Fr0.refl(ρ:Rho)(H:Hp):Fr0 ρ ρ H H:=j0.refl _
theorem Fr0.drop{ρ ρ':Rho}{H:Hp}(h:∀b∈owns ρ',b∈owns ρ):Fr0 ρ ρ' H H:=J0 h
theorem Fr0.new{ρ:Rho}{H H':Hp}{i:Nat}{a:aa}{ds:List D}{K:k8o}{σ:St}(R:Rep K ρ σ H)(g:j0 H H')(n:H a=a6):Fr0 ρ (ρ.set i (.own a ds)) H H':=λb o q=>by
 obtain⟨nb,q⟩:=of_del q;rw[j5];exact g b o q;intro z;rcases(Jg (ds:=ds) (i:=i) R.nd (R.fresh n)).2 b z with e|z
 .subst e;rw[n]at q;cases q
 .exact nb z
def DS(X:Cx)(ρ:Rho)(st:aX)(P:Po):Prop:=∀σ H E,Rep X.K ρ σ H->EndsOk X ρ H P E->j71 X st E σ H
def DSs(X:Cx)(ρ:Rho)(sts:List aX)(P:Po):Prop:=∀σ H E,Rep X.K ρ σ H->EndsOk X ρ H P E->N5 X sts E σ H
section
variable{X:Cx}{ρ:Rho}{e a b c:aj}{es:List aj}{st:aX}{rest sa sb body:List aX}{P:Po}{d:D}{ds ds':List D}{pos p p1 p2 p3:aK}{x:ah}{i:Nat}
theorem DSs.nil(h:P.nx ρ):DSs X ρ [] P:=λσ H E R q=>jat.to (q.nx ρ σ H h R (Fr0.refl ρ H))
theorem DSs.cons{N:Rho->Prop}(h1:DS X ρ st { P with nx:=N })(h2:∀ρ1,N ρ1->DSs X ρ1 rest P):DSs X ρ (st::rest) P:=λσ H E R q =>(W3 psS Oq).to (h1 σ H { E with nx:=N5 X rest E } R ⟨λρ' σ' H' n R' f=>h2 ρ' n σ' H' E R' (q.step f),q.bk,q.ct,q.rt,q.ex⟩)
theorem DSs.freeze(i:Nat){l:aa}(h:ρ[i]?=a3 (.own l ds))(h2:DSs X (ρ.set i (.val (.lst ds))) body P):DSs X ρ body P:=λσ H E R q =>h2 σ H E (R.freeze h) (q.step (.drop λb hb=>(jt rfl).subset hb))
theorem DSs.forget(i:Nat)(h2:DSs X (ρ.set i .un) body P):DSs X ρ body P:=λσ H E R q=>by
 have z:=R.set_un (i:=i) (v:=a6);have R':Rep X.K (ρ.set i .un) σ H:=by
  have q:=R.set_un (i:=i) (v:=(σ[i]?).join);have e:σ.set i ((σ[i]?).join)=σ:=by
   apply Tw;intro j;rw[cq];split
   .rename_i h;subst h;split
    .rename_i h;rw[kh h];rfl
    .rename_i h;rw[Xx nofun]
   .rfl
  rw[e]at q;exact q
 exact h2 σ H E R' (q.step (.drop λb hb=>(jt rfl).subset hb))
theorem DS.set(i:Nat)(he:DE X ρ e d)(h:P.nx (ρ.set i (.val d)))(hN:X.N.Nodup)(hi:X.N[i]?=a3 x:=by rfl)(hx:Loc X.env.scope x:=by first|exact b8 rfl|exact bF rfl)
  (hs:aQ e (a3 (.Name x p)) pos.line X.env=pure a4:=by rfl) (hf:X.fn x=a7\/X.env.scope.names.lookup x=a3 .local:=by first|exact .inl rfl|exact .inr rfl):DS X ρ (.Assign [.Name x p] e pos) P:=λσ H E R q =>
 (Ut hN hi hx peS hs hf).to (he σ H _ R λv H1 g1 e1=>q.nx _ _ H1 h ((R.grow g1).set_val e1) (j0.trans (Fr0.grow g1) (Fr0.drop λb hb=>(jt rfl).subset hb)))
theorem DS.setO(i:Nat)(he:DO X ρ e ds)(h:∀l,P.nx (ρ.set i (.own l ds)))(hN:X.N.Nodup)(hi:X.N[i]?=a3 x:=by rfl)(hx:Loc X.env.scope x:=by first|exact b8 rfl|exact bF rfl)
  (hs:aQ e (a3 (.Name x p)) pos.line X.env=pure a4:=by rfl) (hf:X.fn x=a7\/X.env.scope.names.lookup x=a3 .local:=by first|exact .inl rfl|exact .inr rfl):DS X ρ (.Assign [.Name x p] e pos) P:=λσ H E R q =>
 (Ut hN hi hx peS hs hf).to (he σ H _ R λl xs H1 g1 n m e1=>q.nx _ _ H1 (h l) (R.set_own g1 n m e1) (.new R g1 n))
theorem DS.if{k:Bool}(hc:DB X ρ c k)(ha:k=a7->DSs X ρ sa P)(hb:k=a4->DSs X ρ sb P):DS X ρ (.If c sa sb pos) P:=λσ H E R q =>
 (jha ptS Oq Oq).to (hc σ H _ R λH1 g1=>by
  cases k with
  |true=>exact j3j (ha rfl σ H1 E (R.grow g1) (q.step (.grow g1)))
  |false=>exact j3k (hb rfl σ H1 E (R.grow g1) (q.step (.grow g1))))
theorem DS.ret(he:DT X ρ e d)(h:P.rt (.val d)):DS X ρ (.Return (a3 e) pos) P:=λσ H E R q =>(Wv peS).to (he σ H _ R λv H1 g1 e1=>q.rt _ v H1 h ⟨jx.trans g1,e1⟩)
theorem DS.retO(he:DO X ρ e ds)(h:P.rt (.fresh ds)):DS X ρ (.Return (a3 e) pos) P:=λσ H E R q =>
 (Wv peS).to (he σ H _ R λl xs H1 g1 n m e1=>q.rt _ _ H1 h ⟨l,xs,rfl,(λb o z=>by
  obtain⟨nb,z⟩:=of_del z
  rw[j5];exact g1 b o z
  intro y;rw[xm.mp y,n]at z;cases z),m,e1.mono (J0 λb hb=>by rw[xm.mp hb];exact xn ..)⟩)
theorem DS.retV(k:Nat){l:aa}(hk:ρ[k]?=a3 (.own l ds))(h:P.rt (.fresh ds))(hN:X.N[k]?=a3 x:=by rfl)(hv:Vis X.env.scope x:=by first|exact b8 rfl|exact bF (b8 rfl)|exact bF (bF rfl))
  (hd:(x==k8s)=a4:=by decide) (hcd:(x==k8t)=a4:=by decide):DS X ρ (.Return (a3 (.Name x p)) pos) P:=λσ H E R q=>by
 obtain⟨hs,xs,m,en⟩:=R.own k l ds hk;have g:j0 (del H (owns ρ)) (del H [l]):=J0 λb hb=>by rw[xm.mp hb];exact Qc hk
 exact(Wv (Z1 hN hv hd hcd)).to ⟨_,hs,q.rt _ _ H h ⟨l,xs,rfl,g,m,en.mono g⟩⟩
theorem DS.expr(he:DT X ρ e d)(h:P.nx ρ)(hs:aQ e a6 pos.line X.env=pure a4:=by rfl):DS X ρ (.Expr e pos) P:=λσ H E R q =>(M8 peS hs).to (he σ H _ R λv H1 g1 e1=>q.nx ρ σ H1 h (R.grow g1) (.grow g1))
theorem j5n{σ:St}{H H':Hp}{l:aa}{o:HO}(hk:ρ[i]?=a3 (.own l ds))(g:j0 H H'):Fr0 ρ (ρ.set i (.own l ds')) H (upd H' l o):=by unfold Fr0;rw[Vq hk,Uw (Qc hk)];exact je g
theorem DS.append(i:Nat){l:aa}(hk:ρ[i]?=a3 (.own l ds))(he:DE X ρ e d)(hl:ds.length<ak)(h:P.nx (ρ.set i (.own l (ds++[d]))))
  (hN:X.N[i]?=a3 x:=by rfl) (hv:Vis X.env.scope x:=by first|exact b8 rfl|exact bF (b8 rfl)|exact bF (bF rfl)) (hd:(x==k8s)=a4:=by decide) (hcd:(x==k8t)=a4:=by decide)
  (hst:a9 [e] X.env=[(a4,ay e X.env)]:=by rfl) (hline:(p1.endLine==p2.line)=a7:=by rfl)
  (hbase:aN (.Name x p) "append" X.env (ay (.Name x p) X.env)=ay (.Name x p) X.env:=by rfl) (hfew:((aO p2 (a9 [e] X.env)).all (λx=>!x.1)&&(bu p2 (aT [] X.env)).all (λx=>x.1.isSome)
   && decide (([e]:List aj).length+([]:List aR).length+(if ([]:List aR).isEmpty then 0 else 1)<30))=a7:=by rfl)
  (hs:aQ (.Call (.Attribute (.Name x p) "append" p1) [e] [] p2) a6 pos.line X.env=pure a4:=by rfl) :
  DS X ρ (.Expr (.Call (.Attribute (.Name x p) "append" p1) [e] [] p2) pos) P:=λσ H E R q=>by
 obtain⟨hσ,xs,m,en⟩:=R.own i l ds hk;refine(M8 (W4 bU gK PySem.F.type_list_append Li (Z1 hN hv hd hcd) (jf peS q8 hst) hbase hfew hline hst rfl) hs).to ?_;refine⟨_,hσ,.inl ⟨rfl,xs,.inl (.inl m)⟩,he σ H _ R λv H1 g1 e1=>⟨l,xs,v,rfl,rfl,g1 _ _ m,by rw[en.length];exact hl,?_⟩⟩;exact q.nx _ σ _ h ((R.grow g1).upd_own hk ((en.mono (je g1)).append (.one e1))) (j5n (σ:=σ) hk g1)
theorem DS.extend(i:Nat){l:aa}(hk:ρ[i]?=a3 (.own l ds))(he:DO X ρ e ds')(hl:ds.length+ds'.length<=ak)(h:P.nx (ρ.set i (.own l (ds++ds'))))
  (hN:X.N[i]?=a3 x:=by rfl) (hv:Vis X.env.scope x:=by first|exact b8 rfl|exact bF (b8 rfl)|exact bF (bF rfl)) (hd:(x==k8s)=a4:=by decide) (hcd:(x==k8t)=a4:=by decide)
  (hst:a9 [e] X.env=[(a4,ay e X.env)]:=by rfl) (hline:(p1.endLine==p2.line)=a7:=by rfl)
  (hbase:aN (.Name x p) "extend" X.env (ay (.Name x p) X.env)=ay (.Name x p) X.env:=by rfl) (hfew:((aO p2 (a9 [e] X.env)).all (λx=>!x.1)&&(bu p2 (aT [] X.env)).all (λx=>x.1.isSome)
   && decide (([e]:List aj).length+([]:List aR).length+(if ([]:List aR).isEmpty then 0 else 1)<30))=a7:=by rfl)
  (hs:aQ (.Call (.Attribute (.Name x p) "extend" p1) [e] [] p2) a6 pos.line X.env=pure a4:=by rfl) :
  DS X ρ (.Expr (.Call (.Attribute (.Name x p) "extend" p1) [e] [] p2) pos) P:=λσ H E R q=>by
 obtain⟨hσ,xs,m,en⟩:=R.own i l ds hk;refine(M8 (W4 bU gJ PySem.F.type_list_extend j56 (Z1 hN hv hd hcd) (jf peS q8 hst) hbase hfew hline hst rfl) hs).to ?_;refine⟨_,hσ,.inl ⟨rfl,xs,.inl (.inl m)⟩,he σ H _ R λb ys H1 g1 n1 m1 e1=>⟨l,b,xs,ys,rfl,rfl,g1 _ _ m,m1,by rw[en.length,e1.length];exact hl,?_⟩⟩;exact q.nx _ σ _ h ((R.grow g1).upd_own hk ((en.mono (je g1)).append (e1.mono (J0 λc hc=>km _ hc)))) (j5n (σ:=σ) hk g1)
def Ul(K:k8o)(F:Hp)(J:It)(ds:List D):Prop:=∀(i:Nat)(H:Hp)(A:List aa),j0 F (del H A)->(∀a∈A,H a≠a6) ->
 (i<ds.length->J.go i H)/\(ds.length<=i->J.stop i H)/\∀x H',J.yld i H x H'->j0 H H'/\∀d,ds[i]?=a3 d->Enc K (del H' A) d x
def DI(X:Cx)(ρ:Rho)(tg it:aj)(ds:List D):Prop:=∀σ H R,Rep X.K ρ σ H->(∀J H',j0 H H'->Ul X.K (del H' (owns ρ)) J ds->R J H')->Ei X tg it σ H R
variable{tg it:aj}
theorem j5h{K:k8o}{F:Hp}{l:aa}{xs:List V}(sq:SqL K F l xs)(en:j4 K F ds xs):Ul K F (Itl K l) ds:=λi H A g hA=>by
 have sq':SqL K H l xs:=jx.seq (g.seq sq);refine⟨λh=>?_,λh=>⟨xs,sq',by rw[en.length];exact h⟩,λx H' ⟨e,y⟩=>?_⟩
 .obtain⟨v,hv,_⟩:=en.get (kh h);exact⟨xs,v,sq',hv⟩
 .subst e;refine⟨j0.refl _,λd hd=>?_⟩;obtain⟨v,hv,ev⟩:=en.get hd;have e:=y xs sq';rw[hv]at e;cases e;exact ev.mono g
theorem j7w{K:k8o}{F:Hp}{l:aa}{xs:List V}(sq:SqT K F l xs)(en:j4 K F ds xs):Ul K F (Itt K l) ds:=λi H A g hA=>by
 have sq':SqT K H l xs:=jx.seqT (g.seqT sq);refine⟨λh=>?_,λh=>⟨xs,sq',by rw[en.length];exact h⟩,λx H' ⟨e,y⟩=>?_⟩
 .obtain⟨v,hv,_⟩:=en.get (kh h);exact⟨xs,v,sq',hv⟩
 .subst e;refine⟨j0.refl _,λd hd=>?_⟩;obtain⟨v,hv,ev⟩:=en.get hd;have e:=y xs sq';rw[hv]at e;cases e;exact ev.mono g
theorem DI.lst(h:DE X ρ it (.lst ds)):DI X ρ tg it ds:=λσ H R r q=>(jax peS).to (h σ H _ r λv H1 g1 ⟨l,xs,e,sq,en⟩=>⟨l,e,⟨xs,jx.seq sq⟩,q _ H1 g1 (j5h sq en)⟩)
theorem DI.tup(h:DE X ρ it (.tup ds)):DI X ρ tg it ds:=λσ H R r q=>(jdl peS).to (h σ H _ r λv H1 g1 ⟨l,xs,e,sq,en⟩=>⟨l,e,⟨xs,jx.seqT sq⟩,q _ H1 g1 (j7w sq en)⟩)
noncomputable def upto(lo:Int)(n:Nat):List D:=(ar n).map λk=>D.int (lo+(k:Nat))
theorem Nj{K:k8o}{F:Hp}(lo:Int)(n:Nat):Ul K F (Itr lo n) (upto lo n):=λi H A g hA=>by
 have hl:(upto lo n).length=n:=by unfold upto;rw[xf,Xm]
 rw[hl];refine⟨λh=>h,λh=>h,λx H' ⟨e,y⟩=>?_⟩;subst e;refine⟨j0.refl _,λd hd=>?_⟩;unfold upto at hd;rw[xx]at hd;cases z:(ar n)[i]? with
 |none=>rw[z]at hd;cases hd
 |some k =>
  rw[z]at hd;have ek:k=i:=by have:=Pb (n:=n) (i:=i) (by have:=(X7.mp z).1;rwa [Xm]at this);rw[this]at z;exact(av z).symm
  subst ek;cases hd;exact y
theorem DI.range1 {n:Int} (h:DT X ρ a (.int n)) (hm:X.mg "range" = a6) (h1:-(2^62)<=n) (h2:n<2^62) (hg:Gl X "range":=by rfl) (hs:a9 [a] X.env=[(a4,ay a X.env)]:=by rfl):DI X ρ tg (.Call (.Name "range" p) [a] [] pos) (upto 0 n.toNat):=λσ H R r q =>(j4s hg hm (jf peS q8 hs) hs).to (h σ H _ r λv H1 g1 e=>⟨n,by rw[show v=.int n from e],h1,h2,q _ H1 g1 (Nj 0 _)⟩)
theorem DI.range2 {m n:Int} (h:DT X ρ a (.int m)) (h':DT X ρ b (.int n)) (hm:X.mg "range" = a6) (h1:-(2^62)<=m) (h2:m<2^62) (h3:-(2^62)<=n) (h4:n<2^62) (hg:Gl X "range":=by rfl) (hs:a9 [a,b] X.env=[(a4,ay a X.env),(a4,ay b X.env)]:=by rfl)
  (hs2:a9 [b] X.env=[(a4,ay b X.env)]:=by rfl) (hs3:a9 [a,b] X.env=(a4,ay a X.env)::a9 [b] X.env:=by rfl):DI X ρ tg (.Call (.Name "range" p) [a,b] [] pos) (upto m (n-m).toNat):=λσ H R r q =>
 (j4r hg hm (jf peS (jf peS q8 hs2) hs3) hs hs2).to (h σ H _ r λv H1 g1 e=>h' σ H1 _ (r.grow g1) λu H2 g2 e2=>⟨m,n,by rw[show v=.int m from e,show u=.int n from e2],⟨h1,h2,h3,h4⟩,q _ H2 (g1.trans g2) (Nj m _)⟩)
def j72(X:Cx)(tg:aj):TG:=λv σ H Q=>∀pins s u,Inv X pins σ H s->RelV v u->ao (aw X.prog X.w) X.A (eU tg X.env u) (λ_ s'=>∃σ' H',Inv X pins σ' H' s'/\Q σ' H') X.xe s
theorem pgS:PG X tg (j72 X tg):=λpins s σ H v u Q I r h=>h pins s u I r
theorem PG.to{t:TG}{σ:St}{H:Hp}{v:V}{Q:St->Hp->Prop}(h:PG X tg t)(q:t v σ H Q):j72 X tg v σ H Q:=λpins s u I r=>h pins s σ H v u Q I r q
def DG(X:Cx)(ρ:Rho)(tg:aj)(d:D)(ρ':Rho):Prop:=(∀b∈owns ρ',b∈owns ρ)/\∀σ H v Q,Rep X.K ρ σ H->Enc X.K (del H (owns ρ)) d v->(∀σ',Rep X.K ρ' σ' H->Q σ' H)->j72 X tg v σ H Q
theorem DG.name(i:Nat)(hN:X.N.Nodup)(hi:X.N[i]?=a3 x:=by rfl)(hx:Loc X.env.scope x:=by first|exact b8 rfl|exact bF rfl)(hf:X.fn x=a7\/X.env.scope.names.lookup x=a3 .local:=by first|exact .inl rfl|exact .inr rfl):DG X ρ (.Name x p) d (ρ.set i (.val d)) :=
 ⟨λb hb=>(jt rfl).subset hb,λσ H v Q R en q=>(Mg hN hi hx hf).to (q _ (R.set_val en))⟩
theorem DS.for(W:Nat->Rho->Prop)(hi:DI X ρ tg it ds)(h0:W 0 ρ)(hs:∀i d ρ',ds[i]?=a3 d->W i ρ'->∃ρ2,DG X ρ' tg d ρ2/\DSs X ρ2 body { nx:=W (i+1),rt:=P.rt,bk:=P.nx,ct:=W (i+1),ex:=P.ex })
  (hd:∀ρ',W ds.length ρ'->P.nx ρ') (hc:X.calm=a7) (hp:fX (aw X.prog X.w) X.A X.env X.xe) (hf:∀x,aD it X.env x=pure x:=by intro _;rfl):DS X ρ (.For tg it body [] pos) P:=λσ H E R q=>by
 refine(j4n hp hc piS pgS Oq hf).to (hi σ H _ R λJ H1 g1 ok=>?_);refine⟨λi m σ' H'=>∃ρ',W i ρ'/\Rep X.K ρ' σ' H'/\Fr0 ρ ρ' H1 H'/\m=ds.length-i/\i<=ds.length,⟨ds.length,ρ,h0,R.grow g1,Fr0.refl _ _,rfl,bI _⟩,?_⟩;rintro i m σ' H' ⟨ρ',w,R',f,rfl,hle⟩;obtain⟨go,stop,yld⟩:=ok i H' (owns ρ') f λa ha=>by obtain⟨xs,e⟩:=R'.owned a ha;rw[e];simp
 by_cases hlt:i<ds.length
 .refine .inr ⟨go hlt,λσ2 H2=>∃ρ2,W (i+1) ρ2/\Rep X.K ρ2 σ2 H2/\Fr0 ρ ρ2 H1 H2,λσ2 H2 ⟨ρ2,w2,R2,f2⟩=>⟨ds.length-(i+1),by omega,ρ2,w2,R2,f2,rfl,hlt⟩,λx H2 y=>?_⟩;obtain⟨g2,en⟩:=yld x H2 y;obtain⟨ρ2,⟨sub,hG⟩,hB⟩:=hs i ds[i] ρ' (kh hlt) w;refine hG σ' H2 x _ (R'.grow g2) (en _ (kh hlt)) λσ3 R3=>?_;have f2:Fr0 ρ ρ2 H1 H2:=j0.trans f (j0.trans (Fr0.grow g2) (Fr0.drop sub));refine hB σ3 H2 _ R3 ⟨λρ3 σ4 H4 n R4 f4=>⟨ρ3,n,R4,f2.trans f4⟩,λρ3 σ4 H4 n R4 f4=>q.nx ρ3 σ4 H4 n R4 ((Fr0.grow g1).trans (f2.trans f4)),λρ3 σ4 H4 n R4 f4=>⟨ρ3,n,R4,f2.trans f4⟩,λr v H4 n z=>q.rt r v H4 n (Cp.step ((Fr0.grow g1).trans f2) z),λx ρ3 σ4 H4 n R4 f4=>q.ex x ρ3 σ4 H4 n R4 ((Fr0.grow g1).trans (f2.trans f4))⟩
 .have e:i=ds.length:=by omega
  subst e;exact .inl ⟨stop (X3 _),q.nx ρ' σ' H' (hd ρ' w) R' ((Fr0.grow g1).trans f)⟩
end
noncomputable def qp(N:List ah)(ds:List D):Rho:=ds.map Sl.val++ae (N.length-ds.length) Sl.un
theorem Vh(N:List ah)(ds:List D):owns (qp N ds)=[]:=by
 unfold owns qp;rw[List.filterMap_append];have h1:(ds.map Sl.val).filterMap Sl.addr=[]:=List.filterMap_eq_nil_iff.mpr λs hs=>by obtain⟨d,_,rfl⟩:=X5.mp hs;rfl
 have h2:(ae (N.length-ds.length) Sl.un).filterMap Sl.addr=[]:=List.filterMap_eq_nil_iff.mpr λs hs=>by rw[(List.mem_replicate.mp hs).2];rfl
 rw[h1,h2];rfl
theorem U3{K:k8o}{H:Hp}{N:List ah}{ds:List D}{vs:List V}(tb:TabOk K H)(h:j4 K H ds vs):Rep K (qp N ds) (start N vs) H:=by
 have ho:=Vh N ds;have hl:=h.length;refine⟨by unfold qp start;simp[hl],λi d e=>?_,λi a l e=>?_,by rw[ho];exact dR,λi a o y e=>?_,tb⟩
 .rw[ho,Jk];unfold qp at e;by_cases z:i<ds.length
  .rw[t7 (by simpa using z),xx]at e;rw[kh z]at e;cases e;obtain⟨v,hv,en⟩:=h.get (kh z);refine⟨v,?_,en⟩;unfold start;rw[t7 (by rw[xf,hl];exact z),xx,hv];rfl
  .rw[cR (by simpa using z)]at e;have:=Xo e;cases(List.mem_replicate.mp this).2
 .have:=Qc e;rw[ho]at this;cases this
 .unfold qp at e;rcases Pj.mp (Xo e)with z|z
  .obtain⟨d,_,q⟩:=X5.mp z;cases q
  .cases(List.mem_replicate.mp z).2
section
variable{P:au}{w:ax}{K:k8o}{mg:k8r}{base:aA}{x qual:ah}{st:aX}{f:aa}{fd:aJ}{N ps:List ah}{k:Nat}
def M3(K:k8o)(f:aa)(cdv:a8):Prop:=∃(oc:a8)(od:Option aa)(fd:aJ)(sl:Array (Option a8)),K.lookup f=a3 ⟨oc,od,.func fd,sl⟩/\fd.code=cdv
theorem Fun.okC{sp:Sp}(F:Fun K x qual st f fd)(S:FnScope N ps (jb st))(len:∀vs H Q E,sp vs H Q E->vs.length=ps.length)
  (hbody:∀(cdv:a8)(A:az)(outer:List dy)(s:af)(H:Hp)(vs:List V)(Q:VK) (E:XK),M3 K f cdv->Room k (A.deeper (bo qual (jb st) s.heap.objs.size f cdv))->sp vs H Q E ->
   ∃t,PSs (v9 CX0 P w K mg base N qual (jb st) f cdv A outer s H E).nox (jn st) t/\t { nx:=λ_ H'=>Q .non H',rt:=Q } (start N vs) H):FnOk P w K mg base CX0 (k+1) f fd ps sp:=by
 obtain⟨oc,od,dV,kV,doc,pm,an,cdv,ct,osl,rfl,lk,hcd⟩:=F.ex;refine j9r lk hcd S len λA outer s H vs Q E hr hsp=>?_;obtain⟨t,h,q⟩:=hbody cdv A outer s H vs Q E ⟨oc,od,_,osl,lk,rfl⟩ hr hsp;exact⟨t,h.nox,q⟩
theorem Ds{S:List D->D->Prop}(F:Fun K x qual st f fd)(Sc:FnScope N ps (jb st))(hl:∀ds d,S ds d->ds.length=ps.length)
  (hbody:∀(cdv:a8)(A:az)(outer:List dy)(s:af)(H:Hp)(E:XK),M3 K f cdv->Room k (A.deeper (bo qual (jb st) s.heap.objs.size f cdv))->∀ds d,S ds d ->
   DSs (v9 CX0 P w K mg base N qual (jb st) f cdv A outer s H E).nox (qp N ds) (jn st) { nx:=λ_=>d=.non,rt:=λr=>r.d=d }):FnOk P w K mg base CX0 (k+1) f fd ps (spP K S):=by
 refine FnOk.toP (F.okC Sc (λvs H Q E ⟨ds,d,tb,en,hS,_⟩=>by rw[en.length];exact hl ds d hS) λcdv A outer s H vs Q E hcv hr ⟨ds,d,tb,en,hS,q⟩=>⟨_,Oq,?_⟩);have ho:=Vh N ds;refine hbody cdv A outer s H E hcv hr ds d hS (start N vs) H _ (U3 tb en) ⟨λρ' σ' H' n R f=>?_,λ_ _ _ z=>z.elim,λ_ _ _ z=>z.elim,λr v H' n z=>?_,λ_ _ _ _ z=>z.elim⟩
 .subst n;unfold Fr0 at f;rw[ho,Jk]at f;exact q _ H' (f.trans jx) rfl
 .cases r with
  |val d' =>cases(show d'=d from n);obtain⟨g,en'⟩:=z;rw[ho,Jk]at g;exact q v H' g en'
  |fresh l =>cases(show D.lst l=d from n);obtain⟨a,xs,e,g,m,en'⟩:=z;rw[ho,Jk]at g;exact q v H' (g.trans jx) ⟨a,xs,e,.inl (.inl m),en'.mono jx⟩
theorem j86{S:List D->List D->Prop}(F:Fun K x qual st f fd)(Sc:FnScope N ps (jb st))(hl:∀ds d,S ds d->ds.length=ps.length)
  (hbody:∀(cdv:a8)(A:az)(outer:List dy)(s:af)(H:Hp)(E:XK),M3 K f cdv->Room k (A.deeper (bo qual (jb st) s.heap.objs.size f cdv))->∀ds l,S ds l ->
   DSs (v9 CX0 P w K mg base N qual (jb st) f cdv A outer s H E).nox (qp N ds) (jn st) { nx:=λ_=>False,rt:=λr=>r=.fresh l }):FnOk P w K mg base CX0 (k+1) f fd ps (spF K S):=by
 refine FnOk.toF (F.okC Sc (λvs H Q E ⟨ds,d,tb,en,hS,_⟩=>by rw[en.length];exact hl ds d hS) λcdv A outer s H vs Q E hcv hr ⟨ds,l,tb,en,hS,q⟩=>⟨_,Oq,?_⟩);have ho:=Vh N ds;refine hbody cdv A outer s H E hcv hr ds l hS (start N vs) H _ (U3 tb en) ⟨λρ' σ' H' n R f=>n.elim,λ_ _ _ z=>z.elim,λ_ _ _ z=>z.elim,λr v H' n z=>?_,λ_ _ _ _ z=>z.elim⟩;cases(show r=.fresh l from n);obtain⟨a,xs,e,g,m,en'⟩:=z;rw[ho,Jk]at g;subst e;refine q a xs H' (g.trans jx) ?_ m en';cases y:H a with
 |none=>rfl
 |some o=>have:=g a o y;rw[qt (xm.mpr rfl)]at this;cases this
end
section
variable{prog:au}{w:ax}{A:az}{R:fB->af->Prop}{s:af}
theorem j0m{elt target iter:aj}{ifs:List aj}{scope:aY}{pos:aK}{it acc:a8}{env:dy}(I:Nat->af->Prop)
  (turn:∀n s,I n s->ao (aw prog w) A (dB it) (λr s₁=>match r with
   |none=>R (.ok .next) s₁
   |some v=>ao (aw prog w) A (eA target it v) (λ_ s₁'=>ao (aw prog w) A (eU target env v) (λ_ s₂ =>
     ao (aw prog w) A (forIn ifs a7 λc r=>if r=a7 then do let ok <-fw c env (ay c env);pure (bN ok)else pure (bN r)) (λok s₃ =>
      if ok=a7 then ao (aw prog w) A (ay elt env) (λx s₄ =>
       ao (aw prog w) A (call (.builtin "list.append") [acc,x]) (λ_ s₅=>∃m,m<n/\I m s₅) (λ_ _=>False) s₄) (λ_ _=>False) s₃
      else ∃m,m<n/\I m s₃) (λ_ _=>False) s₂) (λ_ _=>False) s₁') (λ_ _=>False) s₁) (λ_ _=>False) s)
  (n:Nat) (h:I n s) :
  cj (aw prog w) A (.compLoop (.ListComp elt [⟨target,iter,ifs,0⟩] scope pos) 0 it acc env) R s:=by
 refine codeAny_loop rfl I (λn s hI=>?_) n h;show ao _ A ((compTurn (.ListComp elt [⟨target,iter,ifs,0⟩] scope pos) 0 it acc env).onRaise (λx=>do noteFrame x env;theTreesLotGoes x)) _ _ s;refine wpAny_noted ?_;rw[compTurn_list];refine a5 (ic (a5 (bg (turn n s hI) (λr s₁ h₁=>?_) λ_ _ h'=>h'.elim)));cases r with
 |none=>exact ai h₁
 |some v =>
  refine a5 (bg h₁ (λ_ s₁' h₁'=>?_) λ_ _ h'=>h'.elim);refine a5 (bg h₁' (λ_ s₂ h₂=>a5 (bg h₂ (λok s₃ h₃=>?_) λ_ _ h'=>h'.elim)) λ_ _ h'=>h'.elim);cases ok with
  |false=>exact ai ⟨rfl,h₃⟩
  |true =>exact a5 (a5 (bg h₃ (λx s₄ h₄=>a5 (bg h₄ (λ_ s₅ h₅=>ai (ai ⟨rfl,h₅⟩)) λ_ _ h'=>h'.elim)) λ_ _ h'=>h'.elim))
end
noncomputable def zg(env:dy):List (ah×ba)->List (ah×aa)->List (ah×aa)
 |[],acc=>acc
 |(n,k)::r,acc=>zg env r (if k==.free then(match env.cells.lookup n with|some a=>(n,a)::acc|none=>acc)else acc)
theorem Fb{scope:aY}{env:dy}(h:∀y∈scope.names,y.2=.free->(env.cells.lookup y.1).isSome=a7):dk scope env=pure (zg env scope.names []):=by
 simp only[dk];have step:∀(names:List (ah×ba)) (acc:List (ah×aa)),(∀y∈names,y.2=.free->(env.cells.lookup y.1).isSome=a7) ->
   (forIn names acc (λx r=>(do if (x.2==aZ)=a7 then(do let a <-cellOf env x.1;pure (bN ((x.1,a)::r)))else pure (bN r):lJ _)):lJ _)=pure (zg env names acc):=by
  intro names;induction names with
  |nil=>intro acc _;rfl
  |cons y r ih =>
   intro acc hy;obtain⟨n,k⟩:=y;rw[List.forIn_cons];by_cases e:(k==aZ)=a7
   .have hk:k=.free:=by simpa using e
    have hs:=hy (n,k) (xn ..) hk;obtain⟨a,ha⟩:=Xw.mp hs;have hc:cellOf env n=pure a:=by unfold cellOf;rw[ha]
    simp only[e,if_true,hc,pure_bind];rw[ih _ λz hz=>hy z (km _ hz)];simp only[zg,e,if_true,ha]
   .have e':(k==aZ)=a4:=by simpa using e
    simp only[e',ph,if_false,pure_bind];rw[ih _ λz hz=>hy z (km _ hz)];simp only[zg,e',ph,if_false]
 have:=step scope.names [] h;rw[show(forIn scope.names ([]:List (ah×aa)) λx r=>_)=_ from this];rfl
theorem Lx{env:dy}{y:ah}{c:aa}:∀{names:List (ah×ba)} {acc:List (ah×aa)},(∀y c,acc.lookup y=a3 c->env.cells.lookup y=a3 c)->(zg env names acc).lookup y=a3 c->env.cells.lookup y=a3 c
 |[],acc,h,q=>h y c q
 |(n,k)::r,acc,h,q=>by
  unfold zg at q;refine Lx (acc:=_) ?_ q;intro z d hz;split at hz
  .split at hz
   .rename_i a ha;rw[Xj]at hz;split at hz
    .rename_i e;have e':z=n:=by simpa using e
     subst e';cases hz;exact ha
    .exact h z d hz
   .exact h z d hz
  .exact h z d hz
theorem Fd{env:dy}{y:ah}:∀{names:List (ah×ba)} {acc:List (ah×aa)},(acc.lookup y).isSome=a7->((zg env names acc).lookup y).isSome=a7
 |[],acc,h=>h
 |(n,k)::r,acc,h=>by
  unfold zg;refine Fd ?_;split
  .split
   .rw[Xj];split
    .rfl
    .exact h
   .exact h
  .exact h
theorem Wg{env:dy}{y:ah}(hs:(env.cells.lookup y).isSome=a7):∀{names:List (ah×ba)} {acc:List (ah×aa)},(y,aZ)∈names->((zg env names acc).lookup y).isSome=a7
 |[],acc,h=>nomatch h
 |(n,k)::r,acc,h=>by
  unfold zg;rcases xr.mp h with e|h
  .cases e;refine Fd ?_;obtain⟨a,ha⟩:=Xw.mp hs;rw[if_pos (by rfl),ha];rw[Xj];simp
  .exact Wg hs h
noncomputable def Jl(scope:aY)(env:dy)(N:List ah)(cs:List Nat):Bool :=
 scope.names.all (λy=>(y.2 != .cell || scope.names.lookup y.1==a3 .cell)&&(y.2 != .local || scope.names.lookup y.1==a3 .local)&&(y.2 != .free || ((env.cells.lookup y.1).isSome&&(env.kindOf y.1==a3 .cell || env.kindOf y.1==a3 .free)))) &&
 (ar N.length).all (λj=>cs.contains j || (match N[j]? with|some y=>scope.names.lookup y != a3 .local&&scope.names.lookup y != a3 .cell|none=>a7))
theorem lookup_mem{α β:Type}[BEq α][LawfulBEq α]{l:List (α×β)}{a:α}{b:β}(h:l.lookup a=a3 b):(a,b)∈l:=by
 induction l with
 |nil=>cases h
 |cons x r ih =>
  obtain⟨c,d⟩:=x;rw[Xj]at h;split at h
  .rename_i e;cases h;have e':a=c:=by simpa using e
   subst e';exact xn ..
  .exact km _ (ih h)
theorem J3{env:dy}{x:ah}{k':ba}:∀{names:List (ah×ba)},
  (names.map λ(n,k)=>if (k==aZ&&env.scope.kind==.function&&env.kindOf n==a3 .cell) then(n,bp) else(n,k)).lookup x=a3 k' ->
  ∃k,names.lookup x=a3 k/\(k'=k\/(k=.free/\k'=.cell))
 |[],h=>by cases h
 |(n,k)::r,h=>by
  rw[X4]at h;rw[Xj];by_cases hc:(k==aZ&&env.scope.kind==.function&&env.kindOf n==a3 .cell)=a7
  .dsimp only at h;rw[if_pos hc,Xj]at h;cases e:x==n with
   |true =>
    rw[e]at h;cases h;have:(k==aZ)=a7:=by
     cases z:k==aZ with
     |true=>rfl
     |false=>rw[z]at hc;simp at hc
    exact⟨k,rfl,.inr ⟨by simpa using this,rfl⟩⟩
   |false=>rw[e]at h;exact J3 h
  .dsimp only at h;rw[if_neg hc,Xj]at h;cases e:x==n with
   |true=>rw[e]at h;cases h;exact⟨_,rfl,.inl rfl⟩
   |false=>rw[e]at h;exact J3 h
theorem Yu:∀(names:List (ah×ba)) (n:Nat) (acc:List (ah×aa)),aM n names acc=aM n names []++acc
 |[],_,_=>rfl
 |(x,k)::r,n,acc=>by
  unfold aM;split
  .rw[Yu r (n+1) ((x,n)::acc),Yu r (n+1) [(x,n)],t6];rfl
  .exact Yu r n acc
theorem Ff:∀{names:List (ah×ba)} {n:Nat} {x:ah} {c:aa},(x,c)∈aM n names []->(x,bp)∈names/\n<=c
 |[],_,_,_,h=>nomatch h
 |(y,k)::r,n,x,c,h=>by
  unfold aM at h;split at h
  .rename_i hk;rw[Yu]at h;rcases Pj.mp h with h|h
   .have q:=Ff h;exact⟨km _ q.1,Nat.le_of_succ_le q.2⟩
   .cases xm.mp h;have hk:k=bp:=by simpa using hk
    subst hk;exact⟨xn ..,X3 _⟩
  .have q:=Ff h;exact⟨km _ q.1,q.2⟩
theorem Vz{β:Type}:∀{l m:List (ah×β)} {y:ah},(l++m).lookup y=(l.lookup y).or (m.lookup y)
 |[],m,y=>rfl
 |(x,b)::r,m,y=>by
  rw[cC,Xj,Xj];split
  .rfl
  .exact Vz
theorem Ly{names:List (ah×ba)}{n:Nat}{acc:List (ah×aa)}{y:ah}{c:aa}(h:(aM n names acc).lookup y=a3 c) :
  ((y,c)∈aM n names []/\(y,bp)∈names/\n<=c)\/((aM n names []).lookup y=a6/\acc.lookup y=a3 c):=by
 rw[Yu,Vz]at h;cases e:(aM n names []).lookup y with
 |some c'=>rw[e]at h;cases h;have q:=lookup_mem e;exact .inl ⟨q,Ff q⟩
 |none=>rw[e]at h;exact .inr ⟨rfl,h⟩
theorem jfr{names:List (ah×ba)}{n:Nat}{acc:List (ah×aa)}{y:ah}(h:(y,bp)∉names):(aM n names acc).lookup y=acc.lookup y:=by
 rw[Yu,Vz];cases e:(aM n names []).lookup y with
 |some c'=>exact absurd (Ff (lookup_mem e)).1 h
 |none=>rfl
theorem jc4{names:List (ah×ba)}{n:Nat}{acc:List (ah×aa)}{y:ah}(h:(acc.lookup y).isSome=a7):∃c,(aM n names acc).lookup y=a3 c:=by
 rw[Yu,Vz];cases e:(aM n names []).lookup y with
 |some c'=>exact⟨c',rfl⟩
 |none=>obtain⟨c,hc⟩:=Xw.mp h;exact⟨c,hc⟩
theorem j05{M:jF}{A:az}{E:k8p}{s:af}{scope:aY}{globals:aa}{closure:List (ah×aa)}{qual:ah}{env:dy}{Q:dy->af->Prop}
  (hQ:Q { scope:=scope,locals:=s.heap.objs.size,globals:=globals,cells:=aM (s.heap.objs.size+1) scope.names closure,qual:=qual,func:=a6,code:=env.code,frame:=env.frame,builtins:=env.builtins }
   { s with heap:=iu (s.heap.push { cls:=.type "dict",data:=.dict #[] }) scope.names }) :
  ao M A (gQ scope globals closure [] qual a6 .none (a3 env)) Q E s:=by
 simp only[gQ,eB,if_true];refine a5 (wpAny_alloc ?_);refine a5 (wpAny_layCells _ (λname kind cells=>by cases hkc:kind==bp<;>simp[hkc]) _ _ _ _ ?_);rw[show({ s with heap:=s.heap.push { cls:=.type "dict",data:=.dict #[] } }:af).heap.objs.size=s.heap.objs.size+1 from Tj ..];exact a5 (ai (ai hQ))
noncomputable abbrev cCx(X:Cx)(scope:aY)(C:aa)(s:af)(H:Hp)(fp:List aa)(pn:k8q):Cx :=
 { X with env:=compEnvC scope (aM (C+1) scope.names (zg X.env scope.names [])) C X.env,s₀:=s,H₀:=H,outer:=X.stack,stack:=X.stack,ex:=fp,fn:=λx=>scope.names.lookup x==a3 .cell,pn:=pn,xe:=λ_ _=>False }
noncomputable def Yy(scope:aY)(y:ah):Bool:=scope.names.lookup y==a3 .local || scope.names.lookup y==a3 .cell
theorem Zy{env:dy}:∀{names:List (ah×ba)} {x:ah},names.lookup x=a3 .cell ->
  (names.map λ(n,k)=>if (k==aZ&&env.scope.kind==.function&&env.kindOf n==a3 .cell) then(n,bp) else(n,k)).lookup x=a3 .cell
 |[],_,h=>by simp at h
 |(n,k)::r,x,h=>by
  have ih:=@Zy env r x;rw[X4];cases hx:x==n with
  |true =>simp only[Xj,hx]at h;cases h;simp[Xj,hx]
  |false =>
   simp only[Xj,hx]at h;dsimp only;by_cases hc:(k==aZ&&env.scope.kind==.function&&env.kindOf n==a3 .cell)=a7
   .rw[if_pos hc];simp only[Xj,hx];exact ih h
   .rw[if_neg hc];simp only[Xj,hx];exact ih h
theorem M5{X:Cx}{scope:aY}{C:aa}{s:af}{H:Hp}{fp:List aa}{pn:k8q}{y:ah}(h:Yy scope y=a7):Loc (cCx X scope C s H fp pn).env.scope y:=by
 unfold Yy at h;rw[bY]at h;rcases h with h|h
 .exact .inl (jB (by simpa using h))
 .exact .inr (Zy (by simpa using h))
theorem Bu{X:Cx}{scope:aY}{C:aa}{s:af}{H:Hp}{fp:List aa}{pn:k8q}{y:ah}(h:Yy scope y=a7):(cCx X scope C s H fp pn).fn y=a7\/(cCx X scope C s H fp pn).env.scope.names.lookup y=a3 .local:=by
 unfold Yy at h;rw[bY]at h;rcases h with h|h
 .exact .inr (jB (by simpa using h))
 .exact .inl h
def DTs(X:Cx)(ρ:Rho)(ifs:List aj)(b:Bool):Prop:=match ifs with
 |[]=>b=a7
 |[c]=>DB X ρ c b
 |_=>False
theorem DTs.nil{X:Cx}{ρ:Rho}:DTs X ρ [] a7:=rfl
theorem DTs.one{X:Cx}{ρ:Rho}{c:aj}{b:Bool}(h:DB X ρ c b):DTs X ρ [c] b:=h
theorem DTs.run{X:Cx}{ρ:Rho}{ifs:List aj}{b:Bool}(h:DTs X ρ ifs b){pins:k8q}{σ:St}{H:Hp}{s:af}(I:Inv X pins σ H s)(R:Rep X.K ρ σ H) :
  ao (aw X.prog X.w) X.A (forIn ifs a7 λc r=>if r=a7 then do let ok <-fw c X.env (ay c X.env);pure (bN ok)else pure (bN r)) (λok s'=>ok=b/\∃H',Inv X pins σ H' s'/\j0 H H') X.xe s:=by
 match ifs,h with
 |[],h=>exact wpAny_tests_nil ⟨h.symm,H,I,j0.refl H⟩
 |[c],h=>exact wpAny_tests_one (thn (h σ H (λk H'=>k=b/\j0 H H') R (λH' g=>⟨rfl,g⟩) pins s I) λk s' ⟨H',I',e,g⟩=>⟨e,H',I',g⟩)
theorem Rep.weaken{K:k8o}{ρ:Rho}{σ σ':St}{H:Hp}(R:Rep K ρ σ H)(hl:σ'.length=σ.length)(h:∀(i:Nat),ρ[i]?≠a3 .un->σ'[i]?=σ[i]?):Rep K ρ σ' H :=
 ⟨by rw[hl,R.len],λi d e=>let ⟨v,q,z⟩:=R.val i d e;⟨v,by rw[h i (by rw[e];simp)];exact q,z⟩,λi a ds e=>let ⟨q,z⟩:=R.own i a ds e;⟨by rw[h i (by rw[e];simp)];exact q,z⟩,R.nd,λi a o x e=>let ⟨q,z⟩:=R.raw i a o x e;⟨by rw[h i (by rw[e];simp)];exact q,z⟩,R.tb⟩
noncomputable def mask(cs:List Nat)(σ:St):St:=σ.mapIdx λj v=>if cs.contains j then a6 else v
theorem O8(cs:List Nat)(σ:St):(mask cs σ).length=σ.length:=by unfold mask;simp
theorem j7p{cs:List Nat}{σ:St}{j:Nat}{v:V}(h:(mask cs σ)[j]?=a3 (a3 v)):j∉cs/\σ[j]?=a3 (a3 v):=by
 unfold mask at h;rw[i9]at h;cases e:σ[j]? with
 |none=>rw[e]at h;cases h
 |some u =>
  rw[e]at h;have h':(if cs.contains j then a6 else u)=a3 v:=av h;by_cases z:cs.contains j=a7
  .rw[if_pos z]at h';cases h'
  .rw[if_neg z]at h';subst h';exact⟨λy=>z (by simpa using y),rfl⟩
theorem j7o{cs:List Nat}{σ:St}{j:Nat}(h:j∉cs):(mask cs σ)[j]?=σ[j]?:=by
 unfold mask;rw[i9];cases e:σ[j]? with
 |none=>rfl
 |some u=>simp[h]
def Wk(ρ2 ρ:Rho):Prop:=∀K σ H,Rep K ρ2 σ H->Rep K ρ σ H
theorem Zh(H:Hp)(A B:List aa):del (del H A) B=del H (A++B):=funext λb=>by unfold del;by_cases h1:b∈A<;>by_cases h2:b∈B<;>simp[h1,h2]
structure Loose(X:Cx)(pins:k8q)(H:Hp)(C:aa):Prop where
 free:H C=a6
 loc:C≠X.env.locals
 new:X.s₀.heap.objs.size<=C
 cell:∀x c,X.env.cells.lookup x=a3 c->c≠C
 pin:∀p∈X.pn++pins,p.1≠C
section
variable{X:Cx}{pins:k8q}{σ:St}{H2:Hp}{s2:af}{ρ:Rho}{tg elt iter:aj}{ifs:List aj}{scope:aY}{pos:aK}{ds:List D}{cs:List Nat}{p:D->Bool}{g:D->D}
theorem Ls{J:It}{fp:List aa}{it:aa}{tn:Nat->aA->Prop}(I2:Inv X pins σ H2 s2)(R2:Rep X.K ρ σ H2)(T:Turn X.prog X.w X.K tg J fp it tn)(st2:tn 0 s2.heap)(f2:∀b∈fp,Z0 X pins H2 b)
  (ok:Ul X.K (del H2 (owns ρ)) J ds) (hc:X.calm=a7) (hkind:scope.kind=.function) (hok:Jl scope X.env X.N cs=a7) (hcs:∀j∈cs,ρ[j]?=a3 .un) (hsz:ds.length<=ak)
  (hb:∀C s H fp pn,∀d∈ds,∃ρ2,DG (cCx X scope C s H fp pn) ρ tg d ρ2/\Wk ρ2 ρ/\owns ρ2=owns ρ/\DTs (cCx X scope C s H fp pn) ρ2 ifs (p d)/\(p d=a7->DE (cCx X scope C s H fp pn) ρ2 elt (g d)))
  {E:k8p} {RR:a8->aa->fB->af->Prop}
  (hRR:∀D C xs H' s' m,Inv X pins σ H' s'->j0 H2 H'->H2 D=a6->H' D=a3 (.lst xs)->j4 X.K (del H' (D::owns ρ)) ((ds.filter p).map g) xs->s'.heap.Ns C m->Loose X pins H' C->RR (.ref D) C (.ok .next) s') :
  ao (aw X.prog X.w) X.A (newList []) (λacc s₃=>ao (aw X.prog X.w) X.A (gQ scope X.env.globals (zg X.env scope.names []) [] X.env.qual a6 .none (a3 X.env)) (λcenv s₄ =>
   cj (aw X.prog X.w) X.A (.compStart (.ListComp elt [⟨tg,iter,ifs,0⟩] scope pos) 0 (.ref it) acc { cenv with scope:=relabel scope X.env }) (RR acc cenv.locals) s₄) E s₃) E s2:=by
 unfold Jl at hok;rw[Xi]at hok;obtain⟨hn,hN⟩:=hok;have hn':∀y∈scope.names,(y.2=.cell->scope.names.lookup y.1=a3 .cell)/\(y.2=.free->(X.env.cells.lookup y.1).isSome=a7/\(X.env.kindOf y.1=a3 .cell\/X.env.kindOf y.1=a3 .free)):=λy hy=>by have:=T5.mp hn y hy;simp only[Xi,bne_iff_ne,ne_eq,bY,beq_iff_eq]at this;obtain⟨⟨a,_⟩,c⟩:=this;exact⟨λe=>a.elim (λz=>absurd e z) id,λe=>c.elim (λz=>absurd e z) id⟩
 have nocell:∀{y:ah},scope.names.lookup y=a3 .free->(y,bp)∉scope.names:=λ{y} h z=>by have q:=(hn' _ z).1 rfl;rw[h]at q;cases q
 have hloc:∀(j:Nat)(y:ah),X.N[j]?=a3 y->j∉cs->scope.names.lookup y≠a3 .local/\scope.names.lookup y≠a3 .cell:=λj y hj hc=>by
  have hlt:j<X.N.length:=(X7.mp hj).1;have:=T5.mp hN j (Xd.mpr hlt);rw[hj]at this;simp only[bY,Xi,bne_iff_ne,ne_eq]at this;rcases this with z|z
  .exact absurd (by simpa using z) hc
  .exact z
 have cl_of:∀{y:ah}{c:aa},(zg X.env scope.names []).lookup y=a3 c->X.env.cells.lookup y=a3 c:=λ{y c} h=>Lx (λ_ _ z=>by cases z) h;refine aG (j05 ?_);dsimp only;generalize hH2:s2.heap.push { cls:=.type "list",dict:=a6,data:=.seq ([]:List a8).toArray }=hp2;have keep1:∀b o,hp2.get? b=a3 o->(iu (hp2.push { cls:=.type "dict",data:=.dict #[] }) scope.names).get? b=a3 o:=λb o e=>lr _ _ b o (xg _ e);have hns₁:(iu (hp2.push { cls:=.type "dict",data:=.dict #[] }) scope.names).Ns hp2.objs.size (λ_=>a6):=(Heap.Ns.new hp2 (.type "dict")).keeps (lr _ _);have okl:=cellsFrom_ok scope.names (hp2.push { cls:=.type "dict",data:=.dict #[] }) (hp2.objs.size+1) [] ⟨λ_ _ hm=>(nomatch hm),List.Pairwise.nil⟩ (by rw[Tj];exact X3 _);rw[Tj]at okl;generalize iu (hp2.push { cls:=.type "dict",data:=.dict #[] }) scope.names=h₁ at keep1 hns₁ okl ⊢;have hC:hp2.objs.size=s2.heap.objs.size+1:=by rw[<-hH2,Tj]
 have hDC:s2.heap.objs.size≠hp2.objs.size:=by rw[hC];exact Xa (cE _)
 have hCle:s2.heap.objs.size<=hp2.objs.size:=by rw[hC];exact Py _
 have below:∀b,b<s2.heap.objs.size->b≠hp2.objs.size/\b≠s2.heap.objs.size:=λb hb=>⟨by rw[hC];exact Xa (Tz hb),Xa hb⟩
 have old:∀b o,s2.heap.get? b=a3 o->h₁.get? b=a3 o:=λb o e=>keep1 b o (hH2▸xg _ e);have hacc:h₁.get? s2.heap.objs.size=a3 { cls:=.type "list",dict:=a6,data:=.seq ([]:List a8).toArray }:=keep1 _ _ (hH2▸X6 _ rfl);have none_of:∀b,s2.heap.objs.size<=b->s2.heap.get? b=a6:=λb hb=>by
  cases e:s2.heap.get? b with
  |none=>rfl
  |some o'=>exact absurd (xu e) (Nat.not_lt.mpr hb)
 have hD0:H2 s2.heap.objs.size=a6:=I2.fresh;generalize hDd:s2.heap.objs.size=Dd at *;generalize hCc:hp2.objs.size=C at *;have hC0:H2 C=a6:=I2.hok.fresh (by rw[hDd];exact hCle);have pinlt:∀p∈X.pn++pins,p.1<Dd:=λp hp=>by rw[<-hDd];exact xu (I2.pin p hp).1
 have celllt:∀y c,X.env.cells.lookup y=a3 c->c<Dd:=λy c h=>by obtain⟨v,o,e,_⟩:=I2.cell y c h;rw[<-hDd];exact xu e
 have loclt:X.env.locals<Dd:=by rw[<-hDd];exact I2.lt
 have fplt:∀b∈fp,b<Dd:=λb hb=>by obtain⟨o,e,_⟩:=T.obj _ _ st2 b hb;rw[<-hDd];exact xu e
 have hDlt:Dd<C:=by omega
 have cellD:∀{y:ah}{c:aa},(aM (C+1) scope.names (zg X.env scope.names [])).lookup y=a3 c->((y,c)∈aM (C+1) scope.names []/\C+1<=c)\/X.env.cells.lookup y=a3 c:=λ{y c} h=>by
  rcases Ly h with ⟨q,_,z⟩|⟨_,q⟩
  .exact .inl ⟨q,z⟩
  .exact .inr (cl_of q)
 have celln:∀{y:ah}{c b:aa},(aM (C+1) scope.names (zg X.env scope.names [])).lookup y=a3 c->b<Dd->(∀c,X.env.cells.lookup y=a3 c->c≠b)->c≠b:=λ{y c b} h hb ho=>by
  rcases cellD h with ⟨_,z⟩|q
  .exact T3 (P0 hb (P0 hDlt (sr z)))
  .exact ho c q
 have okc:(cCx X scope C s2 H2 fp (X.pn++pins)).Ok:={
  mod:=I2.ok.mod
  kind:=hkind
  glob:=I2.ok.glob
  blt:=I2.ok.blt
  above:=by show s2.heap.objs.size<=C;rw[hDd];exact hCle
  inj:=λx y c h1 h2=>by
   rcases cellD h1 with ⟨m1,z1⟩|q1<;>rcases cellD h2 with ⟨m2,z2⟩|q2
   .exact name_of_addr okl.apart m1 m2
   .exact absurd (P0 (celllt y c q2) (P0 hDlt (sr z1))) (pq _)
   .exact absurd (P0 (celllt x c q1) (P0 hDlt (sr z2))) (pq _)
   .exact I2.ok.inj x y c q1 q2
  has:=λx h=>by
   have key:∀k',(relabel scope X.env).names.lookup x=a3 k'->(k'=.cell\/k'=.free)->∃c,(aM (C+1) scope.names (zg X.env scope.names [])).lookup x=a3 c:=λk' hk hk'=>by
    obtain⟨k,hl,e⟩:=J3 hk
    have hm:=lookup_mem hl
    have hk0:k=.free\/k=.cell:=by
     rcases e with e|e
     .subst e
      exact hk'.symm
     .exact .inl e.1
    rcases hk0 with hk0|hk0
    .subst hk0
     exact jc4 (Wg ((hn' _ hm).2 rfl).1 hm)
    .subst hk0
     exact Xw.mp (W.cellsFrom_some _ _ _ (.inl hl))
   rcases h with h|h
   .exact key _ h (.inl rfl)
   .exact key _ h (.inr rfl)
  cab:=λx c h h2=>by
   have hx:scope.names.lookup x=a3 .cell:=by simpa using h
   show s2.heap.objs.size<=c
   rw[hDd]
   rcases Ly h2 with ⟨_,_,z⟩|⟨z,_⟩
   .exact cP (P0 hDlt (sr z))
   .obtain⟨c',hc'⟩:=Xw.mp (W.cellsFrom_some scope.names (C+1) [] (.inl hx))
    rw[z]at hc';cases hc'
  hd:=I2.ok.hd
  frames:=I2.ok.frames
  stk:=.inl rfl
  exf:=λb hb=>⟨Xa (P0 (fplt b hb) hDlt),λx c h=>celln h (fplt b hb) λc q=>(f2 b hb).2.2.2.2.1 x c q⟩
  bs:=I2.bs
  bsz:=Xg I2.ok.bsz I2.sz
  noex:=λb o e hb=>by
   rcases(f2 b hb).2.2.2.1 with z|z
   .exact I2.ok.noex b o e z
   .exact absurd (xu e) (Nat.not_lt.mpr (Xg I2.ok.bsz z))
  exfs:=λb hb hf=>by
   rcases xr.mp (I2.stkSub b hf)with z|z
   .exact(f2 b hb).2.1 z
   .exact(f2 b hb).2.2.1 z
  funs:=I2.stack
  frf:=I2.stkFree }
 have hpush:HOk X.prog X.w (upd H2 Dd (.lst [])) h₁:=HOk.laid I2.hok old (by rw[hDd];exact X3 _) ⟨bI _,[],_,.nil,hacc⟩;have I0:Inv (cCx X scope C s2 H2 fp (X.pn++pins)) [] (mask cs σ) (upd H2 Dd (.lst [])) { s2 with heap:=h₁ }:={
  ok:=okc
  os:=rfl
  bare:=I2.bare
  base:=Un.laid old (by rw[hDd];exact X3 _) hD0
  loc:=by
   refine⟨_,hns₁,λj y v hj hv hvis=>?_⟩
   obtain⟨hjc,hσ⟩:=j7p hv
   obtain⟨m,hm,hlook⟩:=I2.loc
   have key:∀k',(relabel scope X.env).names.lookup y=a3 k'->scope.names.lookup y=a3 .free:=λk' hk=>by
    obtain⟨k,hl,e⟩:=J3 hk
    have hmm:=lookup_mem hl
    have:k=.free:=by
     rcases e with e|e
     .subst e
      rcases hvis with z|z|z
      .have z:=hk.symm.trans z;cases z;exact absurd hl (hloc j y hj hjc).1
      .have z:=hk.symm.trans z;cases z;exact absurd hl (hloc j y hj hjc).2
      .have z:=hk.symm.trans z;cases z;rfl
     .exact e.1
    rw[hl,this]
   have hfree:scope.names.lookup y=a3 .free:=by rcases hvis with z|z|z<;>exact key _ z
   have hmm:=lookup_mem hfree
   obtain⟨hs,hk⟩:=(hn' _ hmm).2 rfl
   have hvis':Vis X.env.scope y:=by rcases hk with z|z;exact .inr (.inl z);exact .inr (.inr z)
   obtain⟨u,ru,look⟩:=hlook j y v hj hσ hvis'
   refine⟨u,ru,?_⟩
   rcases look with ⟨z,_⟩|⟨_,c,hcl,hcv⟩
   .rcases hk with y'|y'<;>rw[y']at z<;>cases z
   .refine .inr ⟨?_,c,?_,?_⟩
    .rcases hvis with z|z|z
     .exfalso
      obtain⟨k,hl,e⟩:=J3 z
      rw[hfree]at hl;cases hl
      rcases e with e|e
      .cases e
      .cases e.2
     .exact .inl z
     .exact .inr z
    .obtain⟨c',hc'⟩:=Xw.mp (Wg (acc:=[]) hs hmm)
     have:=cl_of hc'
     rw[hcl]at this;cases this
     exact(jfr (nocell hfree)).trans hc'
    .obtain⟨o,e,d⟩:=hcv
     exact⟨o,old _ _ e,d⟩
  cell:=λx c h=>by
   rcases cellD h with ⟨q,_⟩|q
   .exact⟨_,(okl.empty x c q).1⟩
   .obtain⟨v,o,e,d⟩:=I2.cell x c q
    exact⟨v,o,old _ _ e,d⟩
  free:=by show upd H2 Dd (.lst []) C=a6;rw[ji (T3 hDlt)];exact hC0
  freeC:=λx c h=>by
   rcases cellD h with ⟨_,z⟩|q
   .rw[ji (T3 (P0 hDlt (sr z)))];exact I2.hok.fresh (by rw[hDd];exact cP (P0 hDlt (sr z)))
   .rw[ji (Xa (celllt x c q))];exact I2.freeC x c q
  pin:=λp hp=>by
   rw[Xn]at hp
   obtain⟨h1,h2,h3,h4,h5⟩:=I2.pin p hp
   have hlt:=pinlt p hp
   refine⟨old _ _ h1,by rw[ji (Xa hlt)];exact h2,Xa (P0 hlt hDlt),λz=>?_,h5⟩
   rcases xr.mp (I2.stkSub _ z)with y|y
   .exact h3 y
   .exact h4 y
  hok:=hpush
  len:=by rw[O8];exact I2.len }
 have hDo:Dd∉owns ρ:=R2.fresh hD0;have fpok:∀{H':Hp},(∀b∈fp,H' b=a6)->∀b∈fp,Z0 (cCx X scope C s2 H2 fp (X.pn++pins)) [] H' b:=λ{H'} hn b hb =>⟨hn b hb,Xa (P0 (fplt b hb) hDlt),okc.exfs b hb,.inl hb,λx c h=>celln h (fplt b hb) λc q=>(f2 b hb).2.2.2.2.1 x c q,λp hp=>by rw[Xn]at hp;exact(f2 b hb).2.2.2.2.2 p hp⟩
 have R0:Rep X.K ρ (mask cs σ) H2:=R2.weaken (O8 _ _) λj hj=>j7o λz=>hj (hcs j z);have e0:del (upd H2 Dd (.lst [])) [Dd]=H2:=by
  rw[Uw (xm.mpr rfl)]
  funext b
  by_cases z:b∈[Dd]
  .rw[qt z,xm.mp z,hD0]
  .exact j5 z
 have loop:∀s₃:af,s₃={ s2 with heap:=h₁ } ->
   cj (aw X.prog X.w) X.A (.compLoop (.ListComp elt [⟨tg,iter,ifs,0⟩] scope pos) 0 (.ref it) (.ref Dd) (compEnvC scope (aM (C+1) scope.names (zg X.env scope.names [])) C X.env)) (RR (.ref Dd) C) s₃:=by
  rintro s₃ rfl;refine j0m (λn s=>∃i σ' H' ys,Inv (cCx X scope C s2 H2 fp (X.pn++pins)) [] σ' H' s/\tn i s.heap/\(∀b∈fp,H' b=a6)/\i<=ds.length/\n=ds.length-i/\Rep X.K ρ σ' (del H' [Dd])/\j0 H2 (del H' [Dd])/\H' Dd=a3 (.lst ys) /\
   j4 X.K (del H' (Dd::owns ρ)) (((ds.take i).filter p).map g) ys) ?_ ds.length
   ⟨0,mask cs σ,upd H2 Dd (.lst []),[],I0,T.keep _ _ _ st2 (λb _ o e=>old b o e),λb hb=>by rw[ji (Xa (fplt b hb))];exact(f2 b hb).1,bI _,rfl,by rw[e0];exact R0,by rw[e0];exact j0.refl _,jc,rfl⟩
  rintro n s3 ⟨i,σ3,H3,ys,I3,st3,fr3,hle,rfl,R3,g3,m3,en3⟩;have F3:j0 (del H2 (owns ρ)) (del H3 (Dd::owns ρ)):=by
   have:del H3 (Dd::owns ρ)=del (del H3 [Dd]) (owns ρ):=by rw[Zh];rfl
   rw[this];exact je g3
  obtain⟨go,stop,yld⟩:=ok i H3 (Dd::owns ρ) F3 λa ha=>by
   rcases xr.mp ha with e|ha
   .rw[e,m3];simp
   .obtain⟨xs,e⟩:=R3.owned a ha;rw[(of_del e).2];simp
  by_cases hlt:i<ds.length
  .refine thn (T.item (cCx X scope C s2 H2 fp (X.pn++pins)) rfl rfl rfl hc i [] s3 σ3 H3 (λ_ _=>False) I3 (fpok fr3) st3 (go hlt)) λr s4 ⟨u,hr,h4⟩=>?_;subst hr;refine thn h4 λ_ s5 ⟨x,H5,I5,r5,y5,st5,fr5⟩=>?_;obtain⟨g5,en5⟩:=yld x H5 y5;have hd:ds[i]?=a3 ds[i]:=kh hlt;obtain⟨ρ2,⟨sub,hG⟩,wk,eo,hT,hE⟩:=hb C s2 H2 fp (X.pn++pins) ds[i] (Xr hlt);have m5:H5 Dd=a3 (.lst ys):=g5 _ _ m3;have hA:∀a∈[Dd],Hd (H5 a):=λa ha=>.inl ⟨ys,by rw[xm.mp ha];exact m5⟩;have I5p:=I5.pinned (fpok fr5) (T.obj _ _ st5);have I5h:=I5p.hide hA;have R5:Rep X.K ρ σ3 (del H5 [Dd]):=R3.grow (je g5);have en5':Enc X.K (del (del H5 [Dd]) (owns ρ)) ds[i] x:=by rw[Zh];exact en5 _ hd
   refine thn (hG σ3 (del H5 [Dd]) x (λσ6 F6=>F6=del H5 [Dd]/\Rep X.K ρ2 σ6 F6) R5 en5' (λσ6 R6=>⟨rfl,R6⟩) _ s5 u I5h r5) λ_ s6 ⟨σ6,F6,I6,e6,R6⟩=>?_;subst e6;refine thn (hT.run I6 R6) λokv s7 ⟨e7,F7,I7,g7⟩=>?_;subst e7;have R7:Rep X.K ρ σ6 F7:=wk _ _ _ (R6.grow g7);have g27:j0 H2 F7:=g3.trans ((je g5).trans g7);have en7:j4 X.K (del F7 (owns ρ)) (((ds.take i).filter p).map g) ys:=en3.mono (by
    have:del H3 (Dd::owns ρ)=del (del H3 [Dd]) (owns ρ):=by rw[Zh];rfl
    rw[this];exact je ((je g5).trans g7))
   have iy:∀{F:Hp}{s':af},Inv (cCx X scope C s2 H2 fp (X.pn++pins)) ([]++Yg fp s5.heap) σ6 F s'->Inv (cCx X scope C s2 H2 fp (X.pn++pins)) [] σ6 F s'/\tn (i+1) s'.heap/\∀b∈fp,F b=a6:=λ{F s'} I=>by refine⟨I.unpinned,T.keep _ _ _ st5 λb hb o e=>(I.pin (b,o) (Xe _ (Xe _ (Qp hb e)))).1,λb hb=>?_⟩;obtain⟨o,e,d⟩:=T.obj _ _ st5 b hb;exact(I.pin (b,o) (Xe _ (Xe _ (Qp hb e)))).2.1
   have tk:ds.take (i+1)=ds.take i++[ds[i]]:=by rw[su,hd];rfl
   cases hp:p ds[i] with
   |false =>
    rw[if_neg xj];obtain⟨hF,I8⟩:=I5p.unhide hA I7;obtain⟨I9,st9,fr9⟩:=iy I8;refine⟨ds.length-(i+1),by omega,i+1,σ6,_,ys,I9,st9,fr9,hlt,rfl,by rw[Y7 hF];exact R7,by rw[Y7 hF];exact g27,by rw[J2 (xm.mpr rfl)];exact m5,?_⟩;have:del (mrg [Dd] H5 F7) (Dd::owns ρ)=del F7 (owns ρ):=by
     have e:del (mrg [Dd] H5 F7) (Dd::owns ρ)=del (del (mrg [Dd] H5 F7) [Dd]) (owns ρ):=by rw[Zh];rfl
     rw[e,Y7 hF]
    rw[this,tk,c7];have e:[ds[i]].filter p=[]:=by simp[hp]
    rw[e,Xn];exact en7
   |true =>
    rw[if_pos rfl];refine thn (hE hp σ6 F7 (λv F8=>j0 F7 F8/\Enc X.K (del F8 (owns ρ2)) (g ds[i]) v) (R6.grow g7) (λv F8 g8 e8=>⟨g8,e8⟩) _ s7 I7) λy s8 ⟨v,F8,I8,r8,g8,e8⟩=>?_;obtain⟨hF,I8'⟩:=I5p.unhide hA I8;rw[eo]at e8;have eH:del (mrg [Dd] H5 F8) (Dd::owns ρ)=del F8 (owns ρ):=by
     have e:del (mrg [Dd] H5 F8) (Dd::owns ρ)=del (del (mrg [Dd] H5 F8) [Dd]) (owns ρ):=by rw[Zh];rfl
     rw[e,Y7 hF]
    have hlen:ys.length<ak:=by have e1:=en7.length;have e2:((ds.take i).filter p).length<=(ds.take i).length:=Pq _ _;rw[xf]at e1;rw[Xp]at e2;omega
    refine thn (Li _ s8 σ6 (mrg [Dd] H5 F8) (.ref Dd) [v] (.ref Dd) [y] (λ_ H9=>H9=upd (mrg [Dd] H5 F8) Dd (.lst (ys++[v]))) I8' rfl (.cons r8 .nil)
     ⟨Dd,ys,v,rfl,rfl,by rw[J2 (xm.mpr rfl)];exact m5,hlen,rfl⟩) λ_ s9 ⟨_,H9,I9,_,e9⟩=>?_
    subst e9;obtain⟨I10,st10,fr10⟩:=iy I9;have ed:del (upd (mrg [Dd] H5 F8) Dd (.lst (ys++[v]))) [Dd]=F8:=by rw[Uw (xm.mpr rfl),Y7 hF]
    refine⟨ds.length-(i+1),by omega,i+1,σ6,_,ys++[v],I10,st10,fr10,hlt,rfl,by rw[ed];exact R7.grow g8,by rw[ed];exact g27.trans g8,jc,?_⟩;rw[Uw (xn ..),eH,tk,c7,Xq];have e:[ds[i]].filter p=[ds[i]]:=by simp[hp]
    rw[e];exact(en7.mono (je g8)).append (.one e8)
  .have hi:i=ds.length:=by omega
   subst hi;refine thn (T.done (cCx X scope C s2 H2 fp (X.pn++pins)) rfl rfl rfl hc ds.length [] s3 σ3 H3 (λ_ _=>False) I3 (fpok fr3) st3 (stop (X3 _))) λr s4 ⟨hr,I4⟩=>?_;subst hr;rw[bM]at en3;obtain⟨m,hm,_⟩:=I4.loc;refine hRR Dd C ys H3 s4 m ?_ (g3.trans jx) hD0 m3 en3 hm ⟨I4.free,T3 (P0 loclt hDlt),?_,λx c h=>Xa (P0 (celllt x c h) hDlt),λp hp=>Xa (P0 (pinlt p hp) hDlt)⟩
   .exact I2.call' (ch:=fp) I4.os I4.base I4.hok I4.bare λb hb=>⟨(f2 b hb).2.2.2.1,(f2 b hb).2.1,(f2 b hb).2.2.2.2.1,(f2 b hb).2.2.2.2.2⟩
   .have:=I2.sz;omega
 exact codeAny_compStart_list (loop _ rfl) (T.self _ 0 _ _ _ (T.keep _ _ _ st2 (λb _ o e=>old b o e)) (loop _ rfl))
end
section
variable{X:Cx}{ρ:Rho}{tg elt iter:aj}{ifs:List aj}{scope:aY}{pos p1 spos:aK}{ds:List D}{cs:List Nat}{p:D->Bool}{g:D->D}{x:ah}{P:Po}
theorem Od{env:dy}{N:List ah}(h:Jl scope env N cs=a7):∀y∈scope.names,y.2=.free->(env.cells.lookup y.1).isSome=a7:=λy hy e=>by unfold Jl at h;rw[Xi]at h;have:=T5.mp h.1 y hy;simp only[Xi,bne_iff_ne,ne_eq,bY]at this;exact this.2.elim (λz=>absurd e z) λz=>z.1
theorem Ru{env:dy}{N:List ah}(h:Jl scope env N cs=a7):∀y∈scope.names,y.2=.local->scope.names.lookup y.1=a3 .local:=λy hy e=>by unfold Jl at h;rw[Xi]at h;have:=T5.mp h.1 y hy;simp only[Xi,bne_iff_ne,ne_eq,bY,beq_iff_eq]at this;exact this.1.2.elim (λz=>absurd e z) λz=>z
theorem Inv.loose{pins:k8q}{σ:St}{H:Hp}{s:af}{C:aa}{h':aA}(I:Inv X pins σ H s)(L:Loose X pins H C)(sb:cg C s.heap h'):Inv X pins σ H { s with heap:=h' } :=
 I.turned (t':=s.toks) (λb o hb e=>sb.extBut b o hb e) L.free L.loc (.inr L.new) L.cell L.pin
theorem DO.comp(cs:List Nat)(p:D->Bool)(g:D->D)(hi:DI X ρ tg iter ds)
  (hb:∀C s H fp pn,∀d∈ds,∃ρ2,DG (cCx X scope C s H fp pn) ρ tg d ρ2/\Wk ρ2 ρ/\owns ρ2=owns ρ/\DTs (cCx X scope C s H fp pn) ρ2 ifs (p d)/\(p d=a7->DE (cCx X scope C s H fp pn) ρ2 elt (g d)))
  (hcs:∀j∈cs,ρ[j]?=a3 .un) (hsz:ds.length<=ak) (hc:X.calm=a7:=by rfl) (hkind:scope.kind=.function:=by rfl) (hok:Jl scope X.env X.N cs=a7:=by rfl)
  (hs:∀x,aD iter X.env x=pure x:=by intro _;rfl):DO X ρ (.ListComp elt [⟨tg,iter,ifs,0⟩] scope pos) ((ds.filter p).map g):=λσ H Q R q pins s I=>by
 rw[eval_ListComp];refine ie (use:=a6) rfl hs (Fb (Od hok)) hkind (Ru hok) (thn (hi σ H (λJ H'=>j0 H H'/\Ul X.K (del H' (owns ρ)) J ds) R (λJ H' g1 ok=>⟨g1,ok⟩) pins s I) λv s1 h1=>thn h1 λitv s2 h2=>?_);obtain⟨it,fp,tn,J,H2,e,I2,T,st2,f2,g2,ok⟩:=h2;subst e;refine Ls (RR:=λacc C=>compPost (aw X.prog X.w) X.A X.xe a6 (EP X pins σ Q) acc C) I2 (R.grow g2) T st2 f2 ok hc hkind hok hcs hsz hb ?_;intro D C xs H' s' m I' gg n m' en hm L;exact⟨m,hm,λh' sb=>⟨.ref D,H',I'.loose L sb,rfl,q D xs H' (g2.trans gg) (g2.free n) m' en⟩⟩
theorem Wk.set{i:Nat}{d:D}(h:ρ[i]?=a3 .un):Wk (ρ.set i (.val d)) ρ:=λK σ H R=>by
 have q:=R.set_un (i:=i) (v:=(σ[i]?).join);have e:σ.set i ((σ[i]?).join)=σ:=by
  apply Tw;intro j;rw[cq];split
  .rename_i h;subst h;split
   .rename_i h;rw[kh h];rfl
   .rename_i h;rw[Xx nofun]
  .rfl
 have e2:(ρ.set i (.val d)).set i .un=ρ:=by
  rw[List.set_set];apply Tw;intro j;rw[cq];split
  .rename_i z;subst z;split
   .rw[h]
   .rename_i z;rw[Xx nofun]at h;cases h
  .rfl
 rw[e,e2]at q;exact q
theorem Vi{i:Nat}{d:D}(h:ρ[i]?=a3 .un):owns (ρ.set i (.val d))=owns ρ:=O6 rfl λa l z=>by rw[h]at z;cases z
end
section
variable{prog:au}{w:ax}{A:az}{E:k8p}{s:af}
theorem j3n{j t:aa}{k:Nat}{its:Array a8}{y:a8}{Q:k8p}(hj:s.heap.IsTupleIter j t k)(ht:s.heap.IsTuple t its)(hy:its[k]?=a3 y)
  (q:∀h',h'.IsTupleIter j t (k+1)->cg j s.heap h'->Q y { s with heap:=h' }):ao (aw prog w) A (aS (.ref j)) Q E s:=by
 obtain⟨o,ho,hc,hd⟩:=id hj;obtain⟨ot,hot,_,m,hdt⟩:=ht;unfold aS;refine a5 (br (name:=cN "__next__") hj.typeIs bP (bq bP hj.typeIs gb ?_ (fR _)));show ao _ _ (field (.ref j) 0 >>= _) _ _ s;refine a5 (cy ho hd (x:=.ref t) rfl ?_);show ao _ _ (if (aC t==aP)=a7 then _ else _) _ _ s;rw[if_neg (show ¬((aC t==aP)=a7)from xj)];show ao _ _ (field (.ref j) 1 >>= _) _ _ s;refine a5 (cy ho hd (x:=.int k 0) rfl ?_);show ao _ _ (fU (.ref t) >>= _) _ _ s;refine a5 (dj hot hdt ?_);simp only[Xh,hy];refine a5 (eN ho hd (by simp) (ai ⟨y,rfl,ai (q _ ?_ (T8 ..))⟩));exact⟨_,gE _ ho (hW (cU hd _)),(iU ..).trans hc,by rw[cU hd];simp[dA]⟩
theorem j5r{j t:aa}{k:Nat}{its:Array a8}{Q:k8p}(hh:A.handled=a6)(hj:s.heap.IsTupleIter j t k)(ht:s.heap.IsTuple t its)(hy:its[k]?=a6)
  (q:∀h' x,dP j s.heap h'->(∃o,h'.get? x=a3 o/\o.cls=.type "StopIteration")->E (.ref x) { s with heap:=h' }):ao (aw prog w) A (aS (.ref j)) Q E s:=by
 obtain⟨o,ho,hc,hd⟩:=id hj;obtain⟨ot,hot,_,m,hdt⟩:=ht;unfold aS;refine a5 (br (name:=cN "__next__") hj.typeIs bP (bq bP hj.typeIs gb ?_ (fR _)));show ao _ _ (field (.ref j) 0 >>= _) _ _ s;refine a5 (cy ho hd (x:=.ref t) rfl ?_);show ao _ _ (if (aC t==aP)=a7 then _ else _) _ _ s;rw[if_neg (show ¬((aC t==aP)=a7)from xj)];show ao _ _ (field (.ref j) 1 >>= _) _ _ s;refine a5 (cy ho hd (x:=.int k 0) rfl ?_);show ao _ _ (fU (.ref t) >>= _) _ _ s;refine a5 (dj hot hdt ?_);simp only[Xh,hy];refine a5 (wpAny_rule (a5 (eN ho hd (by simp) ?_)));show ao _ _ (lI (.type "StopIteration") [] >>= _) _ _ _;refine a5 ?_;simp only[lI,newTuple];refine a5 (aG ?_ (by size_fits));refine a5 (m:=eQ _ _) (gc (a:=aP) (by first|rfl|(simp only[eQ];rfl)) ?_);refine aG ?_ (by size_fits);simp only[raiseNew];refine a5 (lN ?_)
 first|rw[show A.in1.handled=a6 from hh]|rw[hh]
 refine a5 (ai (wpAny_throw ?_));exact q _ _ (((T8 ..).extBut.push _).push _) ⟨_,X6 _ rfl,rfl⟩
end
def qw(lst:Bool)(h:aA)(j t:aa)(k:Nat):Prop:=if lst=a7 then h.IsListIter j t k else h.IsTupleIter j t k
def qj(lst:Bool)(h:aA)(t:aa)(its:Array a8):Prop:=if lst=a7 then h.IsList t its else h.IsTuple t its
section
variable{prog:au}{w:ax}{A:az}{E:k8p}{s:af}{lst:Bool}{h h':aA}{j t b:aa}{k:Nat}{its:Array a8}
theorem qw.ext(x:qw lst h j t k)(e:dP b h h')(n:j≠b):qw lst h' j t k:=by
 unfold qw at x ⊢;cases lst with
 |true=>rw[if_pos rfl]at x ⊢;exact x.extBut e n
 |false=>rw[if_neg xj]at x ⊢;exact x.extBut e n
theorem qw.stay(x:qw lst h j t k)(e:∀o,h.get? j=a3 o->h'.get? j=a3 o):qw lst h' j t k:=by
 unfold qw at x ⊢;cases lst with
 |true=>rw[if_pos rfl]at x ⊢;exact x.at e
 |false=>rw[if_neg xj]at x ⊢;exact x.at e
theorem qw.obj(x:qw lst h j t k):∃o,h.get? j=a3 o/\∀v,o.data≠.cell v:=by
 unfold qw at x;cases lst with
 |true=>rw[if_pos rfl]at x;obtain⟨o,e,c,d⟩:=x;exact⟨o,e,λv z=>by rw[d]at z;cases z⟩
 |false=>rw[if_neg xj]at x;obtain⟨o,e,c,d⟩:=x;exact⟨o,e,λv z=>by rw[d]at z;cases z⟩
theorem qj.ext(x:qj lst h t its)(e:dP b h h')(n:t≠b):qj lst h' t its:=by
 unfold qj at x ⊢;cases lst with
 |true=>rw[if_pos rfl]at x ⊢;exact x.extBut e n
 |false=>rw[if_neg xj]at x ⊢;exact x.extBut e n
theorem j4c{y:a8}{Q:k8p}(hj:qw lst s.heap j t k)(ht:qj lst s.heap t its)(hy:its[k]?=a3 y)
  (q:∀h',qw lst h' j t (k+1)->cg j s.heap h'->Q y { s with heap:=h' }):ao (aw prog w) A (aS (.ref j)) Q E s:=by
 unfold qw at hj q;unfold qj at ht;cases lst with
 |true=>rw[if_pos rfl]at hj ht;simp only[if_true]at q;exact wpAny_nextOf_list_item hj ht hy q
 |false=>rw[if_neg xj]at hj ht;simp only[ph,if_false]at q;exact j3n hj ht hy q
theorem Ec{Q:k8p}(hh:A.handled=a6)(hj:qw lst s.heap j t k)(ht:qj lst s.heap t its)(hy:its[k]?=a6)
  (q:∀h' x,dP j s.heap h'->(∃o,h'.get? x=a3 o/\o.cls=.type "StopIteration")->E (.ref x) { s with heap:=h' }):ao (aw prog w) A (aS (.ref j)) Q E s:=by
 unfold qw at hj;unfold qj at ht;cases lst with
 |true=>rw[if_pos rfl]at hj ht;exact wpAny_nextOf_list_end hh hj ht hy q
 |false=>rw[if_neg xj]at hj ht;exact j5r hh hj ht hy q
end
section
variable{prog:au}{w:ax}{A:az}{E:k8p}{s:af}{l1 l2:Bool}{z TI TO i1 i2 t1 t2:aa}{k:Nat}{us vs:Array a8}{x y a b:a8}
end
noncomputable def Ed(lst:Bool):String:=if lst=a7 then "list_iterator" else "tuple_iterator"
noncomputable abbrev zh1(h:aA)(l1:Bool)(t1:aa):aA:=h.push { cls:=.type (Ed l1),data:=.fields #[.ref t1,.int 0 0] }
section
variable{prog:au}{w:ax}{A:az}{E:k8p}{s:af}{l1 l2:Bool}{t1 t2:aa}{us vs:Array a8}
theorem R9{lst:Bool}{t:aa}{its:Array a8}{Q:k8p}(h:qj lst s.heap t its)(q:Q (.ref s.heap.objs.size) { s with heap:=zh1 s.heap lst t }):ao (aw prog w) A (gP (.ref t)) Q E s:=by
 unfold qj at h;cases lst with
 |true=>rw[if_pos rfl]at h;exact bc h q
 |false=>rw[if_neg xj]at h;exact fm h q
end
def SqB(K:k8o)(lst:Bool)(H:Hp)(a:aa)(xs:List V):Prop:=if lst=a7 then SqL K H a xs else SqT K H a xs
section
variable{X:Cx}{pins:k8q}{σ:St}{H:Hp}{s:af}{a p:aa}{xs ys:List V}{lst:Bool}{ch:List aa}{h':aA}
theorem j0.seqB{K:k8o}{H':Hp}(e:j0 H H')(h:SqB K lst H a xs):SqB K lst H' a xs:=by
 unfold SqB at h ⊢;cases lst with
 |true=>rw[if_pos rfl]at h ⊢;exact e.seq h
 |false=>rw[if_neg xj]at h ⊢;exact e.seqT h
theorem Inv.side(I:Inv X pins σ H s)(h:SqB X.K lst H a xs):∃us:List a8,Vals xs us/\qj lst s.heap a us.toArray/\xs.length<=ak:=by
 unfold SqB at h;unfold qj;cases lst with
 |true=>rw[if_pos rfl]at h;obtain⟨its,r,q,l⟩:=I.list h;exact⟨its,r,by rw[if_pos rfl];exact q.isList,l⟩
 |false=>rw[if_neg xj]at h;obtain⟨its,r,q,l⟩:=I.tuple h;exact⟨its,r,by rw[if_neg xj];exact q,l⟩
theorem Inv.side_inj(I:Inv X pins σ H s)(h:SqB X.K lst H a xs)(h':SqB X.K lst H a ys):xs=ys:=by
 unfold SqB at h h';cases lst with
 |true=>rw[if_pos rfl]at h h';exact I.list_inj h h'
 |false=>rw[if_neg xj]at h h';exact I.tuple_inj h h'
theorem Inv.chg(I:Inv X pins σ H s)(hf:∀b∈ch,Z0 X pins H b)(kp:∀c o,c∉ch->s.heap.get? c=a3 o->h'.get? c=a3 o):Inv X pins σ H { s with heap:=h' }:=by
 refine I.step (g':=s.gens) (t':=s.toks) (d':=s.drawn) (ch:=ch) (λb hb=>⟨(hf b hb).2.2.2.1,(hf b hb).2.1,(hf b hb).2.2.2.2.1,(hf b hb).2.2.2.2.2⟩) (λb o _ _ nc e _=>kp b o nc e) (λb o _ _ nc e _=>⟨o.slots,kp b o nc e⟩)
  (λb o _ _ n=>n) (λb o nc e=>⟨o,kp b o nc e⟩) (λb xs e=>e) (λb o u e=>e) (λb ps e=>⟨#[],by rw[e];simp⟩) (λm hm=>hm.at' λo e=>kp _ o (λz=>(hf _ z).2.1 rfl) e) (λc o e=>?_) I.bare
 have out:∀{b:aa}{u:HO},H b=a3 u->b∉ch:=λ{b u} q z=>by rw[(hf b z).1]at q;cases q
 refine jg.stay (I.hok c o e) (λb u hb q=>kp b u ?_ q) (λb q=>q) (λb xs q=>q) (λb _ _ q=>q);rcases hb with hb|hb
 .subst hb;exact out e
 .exact out hb
theorem Inv.chgT(I:Inv X pins σ H s)(hf:∀b∈ch,Z0 X pins H b)(kp:∀c o,c∉ch->s.heap.get? c=a3 o->h'.get? c=a3 o){us:List a8}(rv:Vals xs us)(hl:xs.length<=ak)
  (hp:gR h' s.heap.objs.size us.toArray) (hq:Zx h' s.heap.objs.size):Inv X pins σ (upd H s.heap.objs.size (.tup xs)) { s with heap:=h' }:=by
 have hn:=I.fresh;have nz:∀{b:aa}{o:dn},s.heap.get? b=a3 o->b≠s.heap.objs.size:=λ{b o} e=>Xa (xu e);have tr:∀{b:aa}{u:HO},H b=a3 u->upd H s.heap.objs.size (.tup xs) b=a3 u:=λ{b u} e=>by rw[ji (zq e hn)];exact e
 refine I.step (g':=s.gens) (t':=s.toks) (d':=s.drawn) (ch:=ch) (λb hb=>⟨(hf b hb).2.2.2.1,(hf b hb).2.1,(hf b hb).2.2.2.2.1,(hf b hb).2.2.2.2.2⟩) (λb o _ _ nc e _=>kp b o nc e) (λb o _ _ nc e _=>⟨o.slots,kp b o nc e⟩)
  (λb o _ e n=>by rw[ji (nz e)];exact n) (λb o nc e=>⟨o,kp b o nc e⟩) (λb xs e=>tr e) (λb o u e=>tr e) (λb ps e=>⟨#[],by rw[tr e];simp⟩) (λm hm=>hm.at' λo e=>kp _ o (λz=>(hf _ z).2.1 rfl) e) (λc o e=>?_) I.bare
 have out:∀{b:aa}{u:HO},H b=a3 u->b∉ch:=λ{b u} q z=>by rw[(hf b z).1]at q;cases q
 by_cases z:c=s.heap.objs.size
 .subst z;rw[jc]at e;cases e;exact⟨hl,us,rv,hp,hq⟩
 .rw[ji z]at e;refine jg.stay (I.hok c o e) (λb u hb q=>kp b u ?_ q) (λb q=>tr q) (λb xs q=>tr q) (λb _ _ q=>tr q);rcases hb with hb|hb
  .subst hb;exact out e
  .exact out hb
end
section
variable{X:Cx}{ρ:Rho}{a b:aj}{es:List aj}{n:Nat}{pos p q1 q2:aK}{ds ds':List D}{l1 l2:Bool}
noncomputable def D.seq(lst:Bool)(ds:List D):D:=if lst=a7 then .lst ds else .tup ds
theorem Vb{K:k8o}{H:Hp}{lst:Bool}{v:V}(h:Enc K H (D.seq lst ds) v):∃t xs,v=.ref t/\SqB K lst H t xs/\j4 K H ds xs:=by
 unfold D.seq at h;unfold SqB;cases lst with
 |true=>rw[if_pos rfl]at h;obtain⟨t,xs,e,s,l⟩:=h;exact⟨t,xs,e,by rw[if_pos rfl];exact s,l⟩
 |false=>rw[if_neg xj]at h;obtain⟨t,xs,e,s,l⟩:=h;exact⟨t,xs,e,by rw[if_neg xj];exact s,l⟩
theorem DG.pair{x y:ah}(i j:Nat){d d':D}(hij:i≠j)(hN:X.N.Nodup)(hi:X.N[i]?=a3 x:=by rfl)(hj:X.N[j]?=a3 y:=by rfl)(hx:Loc X.env.scope x:=by first|exact b8 rfl|exact bF rfl)(hy:Loc X.env.scope y:=by first|exact b8 rfl|exact bF rfl)
  (fx:X.fn x=a7\/X.env.scope.names.lookup x=a3 .local:=by first|exact .inl rfl|exact .inr rfl) (fy:X.fn y=a7\/X.env.scope.names.lookup y=a3 .local:=by first|exact .inl rfl|exact .inr rfl) (hc:X.calm=a7:=by rfl)
  (hn:(bC [.Name x q1,.Name y q2] X.env).length=2:=by rfl) (hst:(bC [.Name x q1,.Name y q2] X.env).findIdx? (·.1)=a6:=by rfl)
  (e1:(bC [.Name x q1,.Name y q2] X.env).map (·.2)=eU (.Name x q1) X.env::(bC [.Name y q2] X.env).map (·.2):=by rfl) (e2:(bC [.Name y q2] X.env).map (·.2)=eU (.Name y q2) X.env::(bC [] X.env).map (·.2):=by rfl) :
  DG X ρ (.Tuple [.Name x q1,.Name y q2] n pos) (.tup [d,d']) ((ρ.set i (.val d)).set j (.val d')):=by
 refine⟨λb hb=>(jt rfl).subset ((jt rfl).subset hb),λσ H v Q R en q=>?_⟩;obtain⟨t,xs,ev,sq,u,r,e,eu,u',r',e',eu',er⟩:=en;subst e e' ev er;refine(jdm hc (Ez (Mg hN hi hx fx) (Ez (Mg hN hj hy fy) jay e2) e1) hn hst).to ⟨t,[u,u'],rfl,jx.seqT sq,rfl,u,[u'],rfl,u',[],rfl,rfl,?_⟩;refine q _ ?_;have R1:Rep X.K (ρ.set i (.val d)) (σ.set i (a3 u)) H:=R.set_val eu;exact R1.set_val (eu'.mono (J0 λb hb=>(jt rfl).subset hb))
end
noncomputable def D.ty:D->String
 |.non=>"NoneType"
 |.bl _=>"bool"
 |.int _=>"int"
 |.str _=>"str"
 |.tup _=>"tuple"
 |.lst _=>"list"
 |.dct _ _=>"dict"
 |.sct _=>"dict"
 |.fn _ _=>"function"
section
variable{X:Cx}{pins:k8q}{σ:St}{H:Hp}{s:af}{A:az}{E:k8p}{Q:k8p}{c:a8}{b:Bool}
end
section
variable{X:Cx}{ρ:Rho}{a b:aj}{d:D}{pos p p1 p2 p3:aK}{T T1 T2:ah}{c c1 c2:String}{k:Bool}{n:Nat}
end
mutual
noncomputable def deq:D->D->Bool
 |.non,.non=>a7
 |.bl a,.bl b=>a==b
 |.bl a,.int b=>(if a then 1 else 0)==b
 |.int a,.bl b=>a==(if b then 1 else 0)
 |.int a,.int b=>a==b
 |.str a,.str b=>a==b
 |.tup xs,.tup ys=>v8 xs ys
 |.lst xs,.lst ys=>v8 xs ys
 |.dct k xs,.dct m ys=>decide (k=m)&&v8 xs ys
 |.sct k,.sct m=>decide (k=m)
 |_,_=>a4
noncomputable def v8:List D->List D->Bool
 |[],[]=>a7
 |x::xs,y::ys=>deq x y&&v8 xs ys
 |_,_=>a4
end
theorem jfi{a b:Bool}:deq (.bl a) (.bl b)=(a==b):=(rfl)
theorem j0i{a b:Int}:deq (.int a) (.int b)=(a==b):=(rfl)
theorem j5s{a b:ah}:deq (.str a) (.str b)=(a==b):=(rfl)
theorem j0h{a b:List D}:deq (.tup a) (.tup b)=v8 a b:=(rfl)
theorem j5t{a b:List D}:deq (.lst a) (.lst b)=v8 a b:=(rfl)
theorem Yq:v8 [] []=a7:=(rfl)
theorem Qi{x y:D}{xs ys:List D}:v8 (x::xs) (y::ys)=(deq x y&&v8 xs ys):=(rfl)
theorem Ms{y:D}{ys:List D}:v8 [] (y::ys)=a4:=(rfl)
theorem Mt{x:D}{xs:List D}:v8 (x::xs) []=a4:=(rfl)
mutual
noncomputable def D.dep:D->Nat
 |.tup xs=>D.depL xs+1
 |.lst xs=>D.depL xs+1
 |.dct _ _=>20000
 |.sct _=>20000
 |.fn _ _=>20000
 |_=>0
noncomputable def D.depL:List D->Nat
 |[]=>0
 |x::xs=>max x.dep (D.depL xs)
end
mutual
theorem Bh:∀d:D,d.dep<10000->deq d d=a7
 |.non,_=>rfl
 |.bl b,_=>by rw[jfi];simp
 |.int i,_=>by rw[j0i];simp
 |.str x,_=>by rw[j5s];simp
 |.tup xs,h=>by rw[j0h];exact Rq xs (by simp only[D.dep]at h;omega)
 |.lst xs,h=>by rw[j5t];exact Rq xs (by simp only[D.dep]at h;omega)
 |.dct _ _,h=>by simp[D.dep]at h
 |.sct _,h=>by simp[D.dep]at h
 |.fn _ _,h=>by simp[D.dep]at h
theorem Rq:∀ds:List D,D.depL ds<10000->v8 ds ds=a7
 |[],_=>rfl
 |d::ds,h=>by rw[D.depL]at h;rw[Qi,Bh d nofun,Rq ds nofun];rfl
end
theorem Yr:∀{xs ys:List D},xs.length≠ys.length->v8 xs ys=a4
 |[],[],h=>absurd rfl h
 |[],_::_,_=>by simp[Yq,Qi,Ms,Mt]
 |_::_,[],_=>by simp[Yq,Qi,Ms,Mt]
 |x::xs,y::ys,h=>by have:=Yr (xs:=xs) (ys:=ys) (by simpa using h);simp[Yq,Qi,Ms,Mt,this]
theorem Zt{f:Nat->Bool}:∀{xs ys:List D},xs.length=ys.length->(∀(j:Nat) x y,xs[j]?=a3 x->ys[j]?=a3 y->f j=deq x y)->(ar xs.length).all f=v8 xs ys
 |[],[],_,_=>by simp[Yq,Qi,Ms,Mt]
 |[],_::_,h,_=>by simp at h
 |_::_,[],h,_=>by simp at h
 |x::xs,y::ys,h,hf=>by have ih:=Zt (f:=λj=>f (j+1)) (xs:=xs) (ys:=ys) (by simpa using h) (λj a b ha hb=>hf (j+1) a b (by simpa using ha) (by simpa using hb));rw[xq,ck,gm,hf 0 x y rfl rfl,kv];simp only[Qi];rw[<-ih];rfl
section
variable{X:Cx}{pins:k8q}{σ:St}{H:Hp}{s:af}
theorem j02(I:Inv X pins σ H s){a:aa}{xs ys:List V}(h:SqT X.K H a xs)(h':SqL X.K H a ys):False:=by obtain⟨_,_,⟨o,h1,h2,_⟩,_⟩:=I.tuple h;obtain⟨_,_,⟨o',n,h1',h2',_⟩,_⟩:=I.list h';rw[h1]at h1';cases h1';rw[h2]at h2';injection h2' with e;exact absurd e (by decide)
noncomputable def D.atom:D->Option V
 |.non=>a3 .non
 |.bl b=>a3 (.bl b)
 |.int i=>a3 (.int i)
 |.str x=>a3 (.str x)
 |_=>a6
theorem Enc.at_{K:k8o}{d:D}{v u:V}(h:Enc K H d v)(e:d.atom=a3 u):v=u:=by
 cases d with
 |non=>cases e;exact(show v=.non from h)
 |bl b=>cases e;exact(show v=.bl b from h)
 |int i=>cases e;exact(show v=.int i from h)
 |str x=>cases e;exact(show v=.str x from h)
 |_=>cases e
theorem Enc.ref{K:k8o}{d:D}{v:V}(h:Enc K H d v)(e:d.atom=a6):∃a,v=.ref a:=by
 cases d with
 |tup l=>obtain⟨a,_,e,_⟩:=h;exact⟨a,e⟩
 |lst l=>obtain⟨a,_,e,_⟩:=h;exact⟨a,e⟩
 |dct k l=>obtain⟨a,_,_,_,e,_⟩:=h;exact⟨a,e⟩
 |sct k=>obtain⟨a,e,_⟩:=h;exact⟨a,e⟩
 |fn x l=>obtain⟨a,_,_,_,_,e,_⟩:=h;exact⟨a,e⟩
 |_=>cases e
theorem j91{d d':D}{u:V}(h:d.atom=a3 u)(h':d'.atom=a3 u):d=d':=by cases d<;>cases d'<;>first|(cases h;done)|(cases h';done)|(cases h;cases h';rfl)|(cases h;cases h')
theorem j0x{d:D}{a:aa}(h:d.atom=a3 (.ref a)):False:=by cases d<;>cases h
theorem jew(I:Inv X pins σ H s){d d':D}{v:V}(hd:d.dep<10000)(hd':d'.dep<10000)(h:Enc X.K H d v)(h':Enc X.K H d' v) :
  d=d'\/∃ds ds' xs,((d=.tup ds/\d'=.tup ds')\/(d=.lst ds/\d'=.lst ds'))/\j4 X.K H ds xs/\j4 X.K H ds' xs:=by
 cases e:d.atom with
 |some u =>
  have ev:=h.at_ e;subst ev;cases e':d'.atom with
  |some u'=>exact .inl (j91 e ((h'.at_ e')▸e'))
  |none=>obtain⟨a,ea⟩:=h'.ref e';subst ea;exact(j0x e).elim
 |none =>
  cases e':d'.atom with
  |some u'=>have ev:=h'.at_ e';subst ev;obtain⟨a,ea⟩:=h.ref e;subst ea;exact(j0x e').elim
  |none =>
   cases d with
   |tup ds =>
    obtain⟨a,xs,ea,sq,l⟩:=h;cases d' with
    |tup ds' =>obtain⟨a',ys,eb,sq',l'⟩:=h';rw[ea]at eb;cases eb;rw[I.tuple_inj sq' sq]at l';exact .inr ⟨ds,ds',xs,.inl ⟨rfl,rfl⟩,l,l'⟩
    |lst ds'=>obtain⟨a',ys,eb,sq',l'⟩:=h';rw[ea]at eb;cases eb;exact(j02 I sq sq').elim
    |dct _ _=>simp[D.dep]at hd'
    |sct _=>simp[D.dep]at hd'
    |fn _ _=>simp[D.dep]at hd'
    |_=>cases e'
   |lst ds =>
    obtain⟨a,xs,ea,sq,l⟩:=h;cases d' with
    |lst ds' =>obtain⟨a',ys,eb,sq',l'⟩:=h';rw[ea]at eb;cases eb;rw[I.list_inj sq' sq]at l';exact .inr ⟨ds,ds',xs,.inr ⟨rfl,rfl⟩,l,l'⟩
    |tup ds'=>obtain⟨a',ys,eb,sq',l'⟩:=h';rw[ea]at eb;cases eb;exact(j02 I sq' sq).elim
    |dct _ _=>simp[D.dep]at hd'
    |sct _=>simp[D.dep]at hd'
    |fn _ _=>simp[D.dep]at hd'
    |_=>cases e'
   |dct _ _=>simp[D.dep]at hd
   |sct _=>simp[D.dep]at hd
   |fn _ _=>simp[D.dep]at hd
   |_=>cases e
theorem j82{n:Nat}(ih:∀{d d':D}{v:V},d.dep<=n->d.dep<10000->d'.dep<10000->Enc X.K H d v->Enc X.K H d' v->d=d'):∀{ds ds':List D}{xs:List V},D.depL ds<=n->D.depL ds<10000->D.depL ds'<10000->j4 X.K H ds xs->j4 X.K H ds' xs->ds=ds'
 |[],[],_,_,_,_,_,_=>rfl
 |[],_::_,_,_,_,_,h,⟨x,r,e,_⟩=>by cases h;cases e
 |_::_,[],_,_,_,_,⟨x,r,e,_⟩,h=>by cases h;cases e
 |d::ds,d'::ds',_,m,n1,n2,⟨x,r,e,h,l⟩,⟨x',r',e',h',l'⟩=>by subst e;cases e';rw[D.depL]at m n1 n2;rw[ih nofun nofun nofun h h',j82 ih nofun nofun nofun l l']
theorem j81(I:Inv X pins σ H s):∀(n:Nat){d d':D}{v:V},d.dep<=n->d.dep<10000->d'.dep<10000->Enc X.K H d v->Enc X.K H d' v->d=d'
 |0,d,d',v,hn,hd,hd',h,h'=>by
  rcases jew I hd hd' h h' with e|⟨ds,ds',xs,⟨e,_⟩|⟨e,_⟩,_⟩
  .exact e
  .subst e;simp[D.dep]at hn
  .subst e;simp[D.dep]at hn
 |n+1,d,d',v,hn,hd,hd',h,h'=>by
  rcases jew I hd hd' h h' with e|⟨ds,ds',xs,⟨e,e'⟩|⟨e,e'⟩,l,l'⟩
  .exact e
  .subst e e';simp only[D.dep]at hn hd hd';rw[j82 (λa b c=>j81 I n a b c) nofun nofun nofun l l']
  .subst e e';simp only[D.dep]at hn hd hd';rw[j82 (λa b c=>j81 I n a b c) nofun nofun nofun l l']
theorem Enc.inj(I:Inv X pins σ H s){d d':D}{v:V}(hd:d.dep<10000)(hd':d'.dep<10000)(h:Enc X.K H d v)(h':Enc X.K H d' v):d=d':=j81 I d.dep (X3 _) hd hd' h h'
end
section
variable{X:Cx}{pins:k8q}{σ:St}{H:Hp}{s:af}
theorem D.depL_le:∀{ds:List D}{j:Nat}{d:D},ds[j]?=a3 d->d.dep<=D.depL ds
 |[],_,_,h=>by simp at h
 |x::xs,0,d,h=>by simp at h;subst h;simp[D.depL];omega
 |x::xs,j+1,d,h=>by have:=D.depL_le (ds:=xs) (j:=j) (d:=d) (by simpa using h);simp[D.depL];omega
theorem Zz(I:Inv X pins σ H s):∀(n:Nat)(A:az){d d':D}{v v':V}{u u':a8},d.dep<=n->A.units+n<aI->d'.dep<10000->Enc X.K H d v->RelV v u->Enc X.K H d' v'->RelV v' u' ->
  fF A s u u' (deq d d')/\cA A s u u' (deq d d')
 |0,A,d,d',v,v',u,u',hn,hu,nd,en,r,en',r'=>by
  have hu0:A.units<aI:=by omega
  cases d with
  |tup l=>simp[D.dep]at hn
  |lst l=>simp[D.dep]at hn
  |dct ks l=>simp[D.dep]at hn
  |sct k=>simp[D.dep]at hn
  |fn x l=>simp[D.dep]at hn
  |non =>
   cases(show v=.non from en);cases(show u=aP from r);cases d' with
   |dct ks' l'=>simp[D.dep]at nd
   |sct k'=>simp[D.dep]at nd
   |fn x' l'=>simp[D.dep]at nd
   |non=>cases(show v'=.non from en');cases(show u'=aP from r');exact⟨.none_none,.same _⟩
   |bl k=>cases(show v'=.bl k from en');cases(show u'=bG k from r');exact⟨.none_bool _,.none_bool _⟩
   |int k=>cases(show v'=.int k from en');obtain⟨t,q⟩:=(show ∃t,u'=b9 k t from r');subst q;exact⟨.none_int _ _,.none_int _ _⟩
   |str k=>cases(show v'=.str k from en');obtain⟨t,q⟩:=(show ∃t,u'=bH k t from r');subst q;exact⟨.none_str _ _,.none_str _ _⟩
   |tup l=>obtain⟨a,xs,e,sq,_⟩:=en';subst e;cases(show u'=aC a from r');obtain⟨_,_,q,_⟩:=I.tuple sq;exact⟨.none_tuple q hu0,.none_tuple q hu0⟩
   |lst l=>obtain⟨a,xs,e,sq,_⟩:=en';subst e;cases(show u'=aC a from r');obtain⟨_,_,q,_⟩:=I.list sq;exact⟨.none_list q.isList hu0,.none_list q.isList hu0⟩
  |bl b =>
   cases(show v=.bl b from en);cases(show u=bG b from r);cases d' with
   |dct ks' l'=>simp[D.dep]at nd
   |sct k'=>simp[D.dep]at nd
   |fn x' l'=>simp[D.dep]at nd
   |non=>cases(show v'=.non from en');cases(show u'=aP from r');exact⟨.bool_none _,.bool_none _⟩
   |bl k=>cases(show v'=.bl k from en');cases(show u'=bG k from r');exact⟨.bool_bool _ _,.bool_bool _ _⟩
   |int k=>cases(show v'=.int k from en');obtain⟨t,q⟩:=(show ∃t,u'=b9 k t from r');subst q;exact⟨.bool_int _ _ _,.bool_int _ _ _⟩
   |str k=>cases(show v'=.str k from en');obtain⟨t,q⟩:=(show ∃t,u'=bH k t from r');subst q;exact⟨.bool_str _ _ _,.bool_str _ _ _⟩
   |tup l=>obtain⟨a,xs,e,sq,_⟩:=en';subst e;cases(show u'=aC a from r');obtain⟨_,_,q,_⟩:=I.tuple sq;exact⟨.bool_tuple _ q hu0,.bool_tuple _ q hu0⟩
   |lst l=>obtain⟨a,xs,e,sq,_⟩:=en';subst e;cases(show u'=aC a from r');obtain⟨_,_,q,_⟩:=I.list sq;exact⟨.bool_list _ q.isList hu0,.bool_list _ q.isList hu0⟩
  |int b =>
   cases(show v=.int b from en);obtain⟨tk,q0⟩:=(show ∃t,u=b9 b t from r);subst q0;cases d' with
   |dct ks' l'=>simp[D.dep]at nd
   |sct k'=>simp[D.dep]at nd
   |fn x' l'=>simp[D.dep]at nd
   |non=>cases(show v'=.non from en');cases(show u'=aP from r');exact⟨.int_none _ _,.int_none _ _⟩
   |bl k=>cases(show v'=.bl k from en');cases(show u'=bG k from r');exact⟨.int_bool _ _ _,.int_bool _ _ _⟩
   |int k=>cases(show v'=.int k from en');obtain⟨t,q⟩:=(show ∃t,u'=b9 k t from r');subst q;exact⟨.int_int _ _ _ _,.int_int _ _ _ _⟩
   |str k=>cases(show v'=.str k from en');obtain⟨t,q⟩:=(show ∃t,u'=bH k t from r');subst q;exact⟨.int_str _ _ _ _,.int_str _ _ _ _⟩
   |tup l=>obtain⟨a,xs,e,sq,_⟩:=en';subst e;cases(show u'=aC a from r');obtain⟨_,_,q,_⟩:=I.tuple sq;exact⟨.int_tuple _ _ q hu0,.int_tuple _ _ q hu0⟩
   |lst l=>obtain⟨a,xs,e,sq,_⟩:=en';subst e;cases(show u'=aC a from r');obtain⟨_,_,q,_⟩:=I.list sq;exact⟨.int_list _ _ q.isList hu0,.int_list _ _ q.isList hu0⟩
  |str b =>
   cases(show v=.str b from en);obtain⟨tk,q0⟩:=(show ∃t,u=bH b t from r);subst q0;cases d' with
   |dct ks' l'=>simp[D.dep]at nd
   |sct k'=>simp[D.dep]at nd
   |fn x' l'=>simp[D.dep]at nd
   |non=>cases(show v'=.non from en');cases(show u'=aP from r');exact⟨.str_none _ _,.str_none _ _⟩
   |bl k=>cases(show v'=.bl k from en');cases(show u'=bG k from r');exact⟨.str_bool _ _ _,.str_bool _ _ _⟩
   |int k=>cases(show v'=.int k from en');obtain⟨t,q⟩:=(show ∃t,u'=b9 k t from r');subst q;exact⟨.str_int _ _ _ _,.str_int _ _ _ _⟩
   |str k=>cases(show v'=.str k from en');obtain⟨t,q⟩:=(show ∃t,u'=bH k t from r');subst q;exact⟨.str_str _ _ _ _,.str_str _ _ _ _⟩
   |tup l=>obtain⟨a,xs,e,sq,_⟩:=en';subst e;cases(show u'=aC a from r');obtain⟨_,_,q,_⟩:=I.tuple sq;exact⟨.str_tuple _ _ q hu0,.str_tuple _ _ q hu0⟩
   |lst l=>obtain⟨a,xs,e,sq,_⟩:=en';subst e;cases(show u'=aC a from r');obtain⟨_,_,q,_⟩:=I.list sq;exact⟨.str_list _ _ q.isList hu0,.str_list _ _ q.isList hu0⟩
 |n+1,A,d,d',v,v',u,u',hn,hu,nd,en,r,en',r'=>by
  have hu0:A.units<aI:=by omega
  have hu1:A.in1.units+n<aI:=by show A.units+1+n<aI;omega
  have low:d.dep<=n->fF A s u u' (deq d d')/\cA A s u u' (deq d d'):=λh=>Zz I n A h nofun nd en r en' r';cases d with
  |non=>exact low (by simp[D.dep])
  |bl b=>exact low (by simp[D.dep])
  |int b=>exact low (by simp[D.dep])
  |str b=>exact low (by simp[D.dep])
  |dct ks l=>exfalso;have:(9900:Nat)=aI:=rfl;simp only[D.dep]at hn;omega
  |sct k=>exfalso;have:(9900:Nat)=aI:=rfl;simp only[D.dep]at hn;omega
  |fn x l=>exfalso;have:(9900:Nat)=aI:=rfl;simp only[D.dep]at hn;omega
  |tup ds =>
   have hd:D.depL ds<=n:=by simp[D.dep]at hn;omega
   obtain⟨a,xs,e,sq,l⟩:=id en;subst e;cases(show u=aC a from r);obtain⟨us,rv,q,_⟩:=I.tuple sq;cases d' with
   |dct ks' l'=>simp[D.dep]at nd
   |sct k'=>simp[D.dep]at nd
   |fn x' l'=>simp[D.dep]at nd
   |non=>cases(show v'=.non from en');cases(show u'=aP from r');exact⟨.tuple_none q hu0,.tuple_none q hu0⟩
   |bl k=>cases(show v'=.bl k from en');cases(show u'=bG k from r');exact⟨.tuple_bool _ q hu0,.tuple_bool _ q hu0⟩
   |int k=>cases(show v'=.int k from en');obtain⟨t,q'⟩:=(show ∃t,u'=b9 k t from r');subst q';exact⟨.tuple_int _ _ q hu0,.tuple_int _ _ q hu0⟩
   |str k=>cases(show v'=.str k from en');obtain⟨t,q'⟩:=(show ∃t,u'=bH k t from r');subst q';exact⟨.tuple_str _ _ q hu0,.tuple_str _ _ q hu0⟩
   |lst ds'=>obtain⟨a',ys,e,sq',_⟩:=en';subst e;cases(show u'=aC a' from r');obtain⟨_,_,q',_⟩:=I.list sq';exact⟨.tuple_list q q'.isList hu0,.tuple_list q q'.isList hu0⟩
   |tup ds' =>
    obtain⟨a',ys,e,sq',l'⟩:=id en';subst e;cases(show u'=aC a' from r');obtain⟨us',rv',q',_⟩:=I.tuple sq';have e1:us.length=ds.length:=by rw[<-rv.length,l.length]
    have e2:us'.length=ds'.length:=by rw[<-rv'.length,l'.length]
    have main:fF A s (.ref a) (.ref a') (deq (.tup ds) (.tup ds')):=by
     have item:∀(j:Nat)(h1:j<us.toArray.size)(h2:j<us'.toArray.size),cA A.in1 s us.toArray[j] us'.toArray[j] (deq (ds.getD j .non) (ds'.getD j .non)):=λj h1 h2=>by
      have k1:j<ds.length:=by rw[<-e1];simpa using h1
      have k2:j<ds'.length:=by rw[<-e2];simpa using h2
      obtain⟨x,hx,ex⟩:=l.get (kh k1);obtain⟨y,hy,ey⟩:=l'.get (kh k2);obtain⟨w1,hw1,rw1⟩:=rv.get hx;obtain⟨w2,hw2,rw2⟩:=rv'.get hy;have g1:us.toArray[j]=w1:=by simp at h1 ⊢;rw[kh (by simpa using h1)]at hw1;exact av hw1
      have g2:us'.toArray[j]=w2:=by simp at h2 ⊢;rw[kh (by simpa using h2)]at hw2;exact av hw2
      rw[g1,g2,kj,kj,kh k1,kh k2];exact(Zz I n A.in1 (Xg (D.depL_le (kh k1)) hd) hu1 (c8 (D.depL_le (kh k2)) (by simp only[D.dep]at nd;omega)) ex rw1 ey rw2).2
     have z:=SeqAt.RcAt.tuples (A:=A) (s:=s) q q' hu0 (e:=λj=>deq (ds.getD j .non) (ds'.getD j .non)) item;have ev:((ar (min us.toArray.size us'.toArray.size)).all (λj=>deq (ds.getD j .non) (ds'.getD j .non))&&us.toArray.size==us'.toArray.size)=deq (.tup ds) (.tup ds'):=by
      simp only[j0h,X8,e1,e2];by_cases hl:ds.length=ds'.length
      .rw[hl,kP,beq_self_eq_true,k9,<-hl];exact Zt hl λj x y hx hy=>by rw[kj,kj,hx,hy];rfl
      .rw[Yr hl,beq_false_of_ne hl,fP]
     rw[ev]at z;exact z
    refine⟨main,?_⟩;by_cases ea:a=a'
    .subst ea;have e9:(9900:Nat)=aI:=rfl;rw[Enc.inj I nofun nd en en',Bh _ nd];exact .same _
    .exact .of_refs ea main
  |lst ds =>
   have hd:D.depL ds<=n:=by simp[D.dep]at hn;omega
   obtain⟨a,xs,e,sq,l⟩:=id en;subst e;cases(show u=aC a from r);obtain⟨us,rv,q0,_⟩:=I.list sq;have q:=q0.isList;cases d' with
   |dct ks' l'=>simp[D.dep]at nd
   |sct k'=>simp[D.dep]at nd
   |fn x' l'=>simp[D.dep]at nd
   |non=>cases(show v'=.non from en');cases(show u'=aP from r');exact⟨.list_none q hu0,.list_none q hu0⟩
   |bl k=>cases(show v'=.bl k from en');cases(show u'=bG k from r');exact⟨.list_bool _ q hu0,.list_bool _ q hu0⟩
   |int k=>cases(show v'=.int k from en');obtain⟨t,q'⟩:=(show ∃t,u'=b9 k t from r');subst q';exact⟨.list_int _ _ q hu0,.list_int _ _ q hu0⟩
   |str k=>cases(show v'=.str k from en');obtain⟨t,q'⟩:=(show ∃t,u'=bH k t from r');subst q';exact⟨.list_str _ _ q hu0,.list_str _ _ q hu0⟩
   |tup ds'=>obtain⟨a',ys,e,sq',_⟩:=en';subst e;cases(show u'=aC a' from r');obtain⟨_,_,q',_⟩:=I.tuple sq';exact⟨.list_tuple q q' hu0,.list_tuple q q' hu0⟩
   |lst ds' =>
    obtain⟨a',ys,e,sq',l'⟩:=id en';subst e;cases(show u'=aC a' from r');obtain⟨us',rv',q0',_⟩:=I.list sq';have q':=q0'.isList;have e1:us.length=ds.length:=by rw[<-rv.length,l.length]
    have e2:us'.length=ds'.length:=by rw[<-rv'.length,l'.length]
    have main:fF A s (.ref a) (.ref a') (deq (.lst ds) (.lst ds')):=by
     have item:∀(j:Nat)(h1:j<us.toArray.size)(h2:j<us'.toArray.size),cA A.in1 s us.toArray[j] us'.toArray[j] (deq (ds.getD j .non) (ds'.getD j .non)):=λj h1 h2=>by
      have k1:j<ds.length:=by rw[<-e1];simpa using h1
      have k2:j<ds'.length:=by rw[<-e2];simpa using h2
      obtain⟨x,hx,ex⟩:=l.get (kh k1);obtain⟨y,hy,ey⟩:=l'.get (kh k2);obtain⟨w1,hw1,rw1⟩:=rv.get hx;obtain⟨w2,hw2,rw2⟩:=rv'.get hy;have g1:us.toArray[j]=w1:=by simp at h1 ⊢;rw[kh (by simpa using h1)]at hw1;exact av hw1
      have g2:us'.toArray[j]=w2:=by simp at h2 ⊢;rw[kh (by simpa using h2)]at hw2;exact av hw2
      rw[g1,g2,kj,kj,kh k1,kh k2];exact(Zz I n A.in1 (Xg (D.depL_le (kh k1)) hd) hu1 (c8 (D.depL_le (kh k2)) (by simp only[D.dep]at nd;omega)) ex rw1 ey rw2).2
     simp only[j5t];by_cases hl:ds.length=ds'.length
     .have z:=SeqAt.RcAt.lists (A:=A) (s:=s) q q' (by simp[e1,e2,hl]) hu0 (e:=λj=>deq (ds.getD j .non) (ds'.getD j .non)) item;have ev:(ar us.toArray.size).all (λj=>deq (ds.getD j .non) (ds'.getD j .non))=v8 ds ds':=by rw[X8,e1];exact Zt hl λj x y hx hy=>by rw[kj,kj,hx,hy];rfl
      rw[ev]at z;exact z
     .rw[Yr hl];exact .lists_lengths q q' (by simp[e1,e2,hl]) hu0
    refine⟨main,?_⟩;by_cases ea:a=a'
    .subst ea;have e9:(9900:Nat)=aI:=rfl;rw[Enc.inj I nofun nd en en',Bh _ nd];exact .same _
    .exact .of_refs ea main
end
section
variable{X:Cx}{pins:k8q}{σ:St}{H:Hp}{s:af}{A:az}
theorem j7y(I:Inv X pins σ H s){n:Nat}{ds ds':List D}{xs ys:List V}{us us':List a8}(l:j4 X.K H ds xs)(rv:Vals xs us)(l':j4 X.K H ds' ys)(rv':Vals ys us')(hd:D.depL ds<=n)(hu:A.units+1+n<aI)(nd:D.depL ds'<10000) :
  ∀(j:Nat)(h1:j<us.toArray.size)(h2:j<us'.toArray.size),cA A.in1 s us.toArray[j] us'.toArray[j] (deq (ds.getD j .non) (ds'.getD j .non)):=λj h1 h2=>by
 have k1:j<ds.length:=by rw[<-l.length,rv.length];simpa using h1
 have k2:j<ds'.length:=by rw[<-l'.length,rv'.length];simpa using h2
 obtain⟨x,hx,ex⟩:=l.get (kh k1);obtain⟨y,hy,ey⟩:=l'.get (kh k2);obtain⟨w1,hw1,rw1⟩:=rv.get hx;obtain⟨w2,hw2,rw2⟩:=rv'.get hy;have g1:us.toArray[j]=w1:=by simp at h1 ⊢;rw[kh (by simpa using h1)]at hw1;exact av hw1
 have g2:us'.toArray[j]=w2:=by simp at h2 ⊢;rw[kh (by simpa using h2)]at hw2;exact av hw2
 rw[g1,g2,kj,kj,kh k1,kh k2];exact(Zz I n A.in1 (Xg (D.depL_le (kh k1)) hd) hu (c8 (D.depL_le (kh k2)) nd) ex rw1 ey rw2).2
theorem j4z(hu:X.A.units+100<aI):OpR X (aL .Eq) (λx y H Q=>∃d d',Enc X.K H d x/\Enc X.K H d' y/\d.dep<=100/\d'.dep<10000/\Q (.bl (deq d d')) H):=by rintro pins s σ H x y v u Q I rx ry ⟨d,d',en,en',hd,nd,q⟩;exact(Zz I 100 X.A hd hu nd en rx en' ry).1 X.prog X.w X.xe _ ⟨.bl (deq d d'),H,I,rfl,q⟩
theorem j4x(hu:X.A.units+100<aI):OpR X (aL .NotEq) (λx y H Q=>∃ds ds' k,Enc X.K H (D.seq k ds) x/\Enc X.K H (D.seq k ds') y/\D.depL ds<=98/\D.depL ds'<10000/\Q (.bl (!v8 ds ds')) H):=by
 rintro pins s σ H x y v u Q I rx ry ⟨ds,ds',k,en,en',hd,nd,q⟩;have h0:X.A.units<aI:=by omega
 obtain⟨t,xs,e,sq,l⟩:=Vb en;obtain⟨t',ys,e',sq',l'⟩:=Vb en';subst e e';cases rx;cases ry;obtain⟨us,rv,qs,_⟩:=I.side sq;obtain⟨us',rv',qs',_⟩:=I.side sq';have e1:us.length=ds.length:=by rw[<-rv.length,l.length]
 have e2:us'.length=ds'.length:=by rw[<-rv'.length,l'.length]
 have item:=j7y (A:=X.A) I l rv l' rv' hd nofun nd;unfold qj at qs qs';cases k with
 |true =>
  rw[if_pos rfl]at qs qs';by_cases hl:ds.length=ds'.length
  .have z:=SeqAt.RcNeAt.lists (A:=X.A) (s:=s) qs qs' (by simp[e1,e2,hl]) h0 (e:=λj=>deq (ds.getD j .non) (ds'.getD j .non)) item;have ev:(ar us.toArray.size).all (λj=>deq (ds.getD j .non) (ds'.getD j .non))=v8 ds ds':=by rw[X8,e1];exact Zt hl λj x y hx hy=>by rw[kj,kj,hx,hy];rfl
   rw[ev]at z;exact z X.prog X.w X.xe _ ⟨.bl (!v8 ds ds'),H,I,rfl,q⟩
  .have z:=SeqAt.RcNeAt.lists_lengths (A:=X.A) (s:=s) qs qs' (by simp[e1,e2,hl]) h0;rw[Yr hl]at q;exact z X.prog X.w X.xe _ ⟨.bl a7,H,I,rfl,q⟩
 |false =>
  rw[if_neg xj]at qs qs';have z:=SeqAt.RcNeAt.tuples (A:=X.A) (s:=s) qs qs' h0 (e:=λj=>deq (ds.getD j .non) (ds'.getD j .non)) item;have ev:((ar (min us.toArray.size us'.toArray.size)).all (λj=>deq (ds.getD j .non) (ds'.getD j .non))&&us.toArray.size==us'.toArray.size)=v8 ds ds':=by
   simp only[X8,e1,e2];by_cases hl:ds.length=ds'.length
   .rw[hl,kP,beq_self_eq_true,k9,<-hl];exact Zt hl λj x y hx hy=>by rw[kj,kj,hx,hy];rfl
   .rw[Yr hl,beq_false_of_ne hl,fP]
  rw[ev]at z;exact z X.prog X.w X.xe _ ⟨.bl (!v8 ds ds'),H,I,rfl,q⟩
noncomputable def eqW(X:Cx)(H:Hp)(d:D)(y:a8):Bool:=@decide (∃e v,e.dep<10000/\Enc X.K H e v/\RelV v y/\deq e d=a7) (cY _)
theorem Rj(I:Inv X pins σ H s){d e:D}{v:V}{y:a8}(he:e.dep<10000)(en:Enc X.K H e v)(r:RelV v y):eqW X H d y=deq e d:=by
 unfold eqW;cases h:deq e d with
 |true=>exact @decide_eq_true _ (cY _) ⟨e,v,he,en,r,h⟩
 |false =>refine @decide_eq_false _ (cY _) λ⟨e',v',he',en',r',h'⟩=>?_;rw[r'.inj r]at en';rw[Enc.inj I he' he en' en,h]at h';cases h'
theorem Ck(I:Inv X pins σ H s){d:D}:∀{ds:List D}{xs:List V}{us:List a8},D.depL ds<10000->j4 X.K H ds xs->Vals xs us->us.any (eqW X H d)=ds.any λe=>deq e d
 |[],_,_,_,h,r=>by cases h;cases r;rfl
 |e::ds,_,_,hd,⟨x,r,eq,h,l⟩,rv=>by
  subst eq;rw[D.depL]at hd;cases rv with
  |cons a b=>rw[de,de,Ck I nofun l b,Rj I nofun h a]
theorem We(I:Inv X pins σ H s){d:D}:∀{ds:List D}{xs:List V}{us:List a8},D.depL ds<10000->j4 X.K H ds xs->Vals xs us->us.countP (eqW X H d)=ds.countP λe=>deq e d
 |[],_,_,_,h,r=>by cases h;cases r;rfl
 |e::ds,_,_,hd,⟨x,r,eq,h,l⟩,rv=>by
  subst eq;rw[D.depL]at hd;cases rv with
  |cons a b=>rw[Xu,Xu,We I nofun l b,Rj I nofun h a]
theorem V4(I:Inv X pins σ H s){d:D}{v:V}{u:a8}(en:Enc X.K H d v)(r:RelV v u)(nd:d.dep<10000){n:Nat}(hu:A.units+n<aI):∀{ds:List D}{xs:List V}{us:List a8},D.depL ds<=n->j4 X.K H ds xs->Vals xs us->∀y∈us,cA A s y u (eqW X H d y)
 |[],_,_,_,h,rv,y,hy=>by cases h;cases rv;cases hy
 |e::ds,_,_,hd,⟨x,r',eq,h,l⟩,rv,y,hy=>by
  subst eq;have hd':e.dep<=n/\D.depL ds<=n:=by simp[D.depL]at hd;omega
  cases rv with
  |cons a b =>
   rcases xr.mp hy with rfl|hy
   .have e9:(9900:Nat)=aI:=rfl;rw[Rj I nofun h a];exact(Zz I n A hd'.1 hu nd h a en r).2
   .exact V4 I en r nd hu hd'.2 l b y hy
theorem j4y(hu:X.A.units+100<aI):OpR X (aL .In) (λx y H Q=>∃d ds k,Enc X.K H d x/\Enc X.K H (D.seq k ds) y/\D.depL ds<=98/\d.dep<10000/\Q (.bl (ds.any λe=>deq e d)) H):=by
 rintro pins s σ H x y v u Q I rx ry ⟨d,ds,k,en,en',hd,nd,q⟩;obtain⟨t,xs,e,sq,l⟩:=Vb en';subst e;cases ry;obtain⟨us,rv,qs,_⟩:=I.side sq;have me:=λy (hy:y∈us.toArray)=>V4 (A:=X.A.in1) I en rx nd (n:=98) (by show X.A.units+1+98<aI;omega) hd l rv y (by simpa using hy);have ev:us.toArray.any (eqW X H d)=ds.any λe=>deq e d:=by rw[js];exact Ck I nofun l rv
 unfold qj at qs;cases k with
 |true=>rw[if_pos rfl]at qs;exact SeqAt.in_listAt (eqW X H d) qs me (by rw[ev];exact⟨.bl _,H,I,rfl,q⟩)
 |false=>rw[if_neg xj]at qs;exact SeqAt.in_tupleAt (eqW X H d) qs me (by rw[ev];exact⟨.bl _,H,I,rfl,q⟩)
theorem La(hu:X.A.units+100<aI):OpR X (aL .NotIn) (λx y H Q=>∃d ds k,Enc X.K H d x/\Enc X.K H (D.seq k ds) y/\D.depL ds<=98/\d.dep<10000/\Q (.bl (!ds.any λe=>deq e d)) H):=by
 rintro pins s σ H x y v u Q I rx ry ⟨d,ds,k,en,en',hd,nd,q⟩;obtain⟨t,xs,e,sq,l⟩:=Vb en';subst e;cases ry;obtain⟨us,rv,qs,_⟩:=I.side sq;have me:=λy (hy:y∈us.toArray)=>V4 (A:=X.A.in1) I en rx nd (n:=98) (by show X.A.units+1+98<aI;omega) hd l rv y (by simpa using hy);have ev:us.toArray.any (eqW X H d)=ds.any λe=>deq e d:=by rw[js];exact Ck I nofun l rv
 unfold qj at qs;cases k with
 |true=>rw[if_pos rfl]at qs;exact SeqAt.notIn_listAt (eqW X H d) qs me (by rw[ev];exact⟨.bl _,H,I,rfl,q⟩)
 |false=>rw[if_neg xj]at qs;exact SeqAt.notIn_tupleAt (eqW X H d) qs me (by rw[ev];exact⟨.bl _,H,I,rfl,q⟩)
theorem j57 (hu:X.A.units+100<aI):MtR X "tuple.count" (λx vs H Q=>∃t xs ds d y,x=.ref t/\vs=[y]/\SqT X.K H t xs/\j4 X.K H ds xs/\Enc X.K H d y/\D.depL ds<=97/\d.dep<10000/\Q (.int (ds.countP λe=>deq e d)) H):=by
 rintro pins s σ H x vs v us Q I rx rv ⟨t,xs,ds,d,y,e,e',sq,l,en,hd,nd,q⟩;subst e e';cases rx;obtain⟨u,eu,ru⟩:=rv.one;subst eu;obtain⟨its,ri,⟨⟨cl,dd,da,sl⟩,h1,h2,n,h3⟩,_⟩:=I.tuple sq;have h2:cl=.type "tuple":=h2;have h3:da=.seq its.toArray n:=h3;subst h2 h3;refine bj gH ⟨_,h1,rfl⟩ F.entry_tuple_count (F.args_tuple_count_2 _ _) (SeqAt.tuple_countAt t its.toArray n dd sl u (eqW X H d)) ⟨h1,λy hy=>V4 (n:=97) I en ru nd (by show X.A.units+1+97<aI;omega) hd l ri y (by simpa using hy),?_⟩;have ev:(its.toArray.toList.countP (eqW X H d):Nat)=ds.countP λe=>deq e d:=by rw[eC];exact We I nofun l ri
 rw[ev];exact⟨.int _,H,I.tok _,⟨_,rfl⟩,q⟩
theorem j7m:OpR X (aW .Add) (λx y H Q=>∃a b xs ys,x=.ref a/\y=.ref b/\SqT X.K H a xs/\SqT X.K H b ys/\xs.length+ys.length<=ak /\
  (xs=[]->Q (.ref b) H)/\(xs≠[]->ys=[]->Q (.ref a) H)/\(xs≠[]->ys≠[]->∀p,H p=a6->Q (.ref p) (upd H p (.tup (xs++ys))))):=by
 rintro pins s σ H x y v u Q I rx ry ⟨a,b,xs,ys,e,e',sa,sb,hz,q1,q2,q3⟩;by_cases hx:xs=[]
 .subst e e' hx;cases rx;cases ry;obtain⟨us,ru,⟨⟨c1,d1,f1,g1⟩,h1,k1,n1,m1⟩,_⟩:=I.tuple sa;obtain⟨vs,rv,⟨⟨c2,d2,f2,g2⟩,h2,k2,n2,m2⟩,_⟩:=I.tuple sb;cases ru;have k1:c1=.type "tuple":=k1;have m1:f1=.seq ([]:List a8).toArray n1:=m1;have k2:c2=.type "tuple":=k2;have m2:f2=.seq vs.toArray n2:=m2;subst k1 m1 k2 m2;exact fK ⟨_,h1,rfl⟩ ⟨_,h2,rfl⟩ fW ig dh cZ (cV _ _)
   (tuple_addW0 a b ([]:List a8).toArray vs.toArray n1 n2 d1 d2 g1 g2 (by simp)) ⟨h1,h2,⟨.ref b,H,I,rfl,q1 rfl⟩⟩
 .exact jb2 pins s σ H x y v u Q I rx ry ⟨a,b,xs,ys,e,e',sa,sb,hx,hz,q2 hx,q3 hx⟩
theorem all_range:∀bs:List Bool,(ar bs.length).all (λi=>(bs[i]?).getD a7)=bs.all id
 |[]=>rfl
 |b::bs=>by rw[xq,ck,gm,kv,gm,<-all_range bs];rfl
theorem j1g (hc:X.calm=a7):Q7 X (.builtin "all") (λxs H Q=>∃(l:aa)(bs:List Bool),xs=[.ref l]/\SqL X.K H l (bs.map V.bl)/\Q (.bl (bs.all id)) H):=by
 rintro pins s σ H xs us Q I r ⟨l,bs,e,sq,q⟩;subst e;obtain⟨u,eu,ru⟩:=vals1 r;subst eu;cases ru;obtain⟨its,rv,pl,_⟩:=I.list sq;have hlt:l<s.heap.objs.size:=by obtain⟨_,_,e,_⟩:=pl;exact xu e
 have hl:its.length=bs.length:=by rw[<-rv.length,xf]
 refine call_all_walk (bc pl.isList ⟨s.heap.objs.size,[s.heap.objs.size,l],[s.heap.objs.size],its.toArray.size,_,_,λi=>(bs[i]?).getD a7,rfl,Walks.list (A:=X.A.in1) (I.ok.hd hc) _ _ (Xa hlt) its.toArray,⟨⟨_,X6 _ rfl,rfl,rfl⟩,pl.isList.push _⟩,?_,λh' tk kp=>?_⟩)
 .intro i v s' Q' E' hv hq;have hi:i<its.length:=by have:=Array.getElem?_eq_some_iff.mp hv;obtain⟨h,_⟩:=this;simpa using h
  have hb:i<bs.length:=by omega
  obtain⟨w1,hw,rw1⟩:=rv.get (x:=.bl bs[i]) (i:=i) (by rw[xx,kh hb];rfl);have:its.toArray[i]?=a3 w1:=by simpa using hw
  rw[this]at hv;cases hv;cases rw1;simp only[kh hb,d9]at hq;exact aV hq
 .have ev:(ar its.toArray.size).all (λi=>(bs[i]?).getD a7)=bs.all id:=by rw[X8,hl];exact all_range bs
  rw[ev];refine⟨.bl _,H,I.kept (t':=tk) λb o e=>kp b o ?_ (xg _ e),rfl,q⟩;intro z;rw[xm.mp z]at e;exact pq _ (xu e)
end
section
variable{X:Cx}{ρ:Rho}{a b e:aj}{d d':D}{ds ds':List D}{i j:Int}{pos p p1 p2:aK}{k:Nat}{x:ah}{P:Po}
theorem DE.eqD(hu:X.A.units+100<aI)(ha:DT X ρ a d)(hb:DT X ρ b d')(hd:d.dep<=100)(nd:d'.dep<10000):DE X ρ (.Compare a [.Eq] [b] pos) (.bl (deq d d')):=λσ H Q R q =>(Jf (j4z hu) peS peS (qx _)).to (ha σ H _ R λv H1 g1 e1=>hb σ H1 _ (R.grow g1) λu H2 g2 e2=>⟨d,d',e1.mono g2,e2,hd,nd,q _ H2 (g1.trans g2) rfl⟩)
theorem DB.eqD(hu:X.A.units+100<aI)(ha:DT X ρ a d)(hb:DT X ρ b d')(hd:d.dep<=100)(nd:d'.dep<10000):DB X ρ (.Compare a [.Eq] [b] pos) (deq d d'):=λσ H Q R q =>(Je (j4z hu) peS peS (qx _)).to (ha σ H _ R λv H1 g1 e1=>hb σ H1 _ (R.grow g1) λu H2 g2 e2=>⟨d,d',e1.mono g2,e2,hd,nd,_,rfl,q H2 (g1.trans g2)⟩)
theorem DB.neD(s:Bool)(hu:X.A.units+100<aI)(ha:DT X ρ a (D.seq s ds))(hb:DT X ρ b (D.seq s ds'))(hd:D.depL ds<=98)(nd:D.depL ds'<10000):DB X ρ (.Compare a [.NotEq] [b] pos) (!v8 ds ds'):=λσ H Q R q =>(Je (j4x hu) peS peS (qx _)).to (ha σ H _ R λv H1 g1 e1=>hb σ H1 _ (R.grow g1) λu H2 g2 e2=>⟨ds,ds',s,e1.mono g2,e2,hd,nd,_,rfl,q H2 (g1.trans g2)⟩)
theorem DB.notIn(s:Bool)(hu:X.A.units+100<aI)(ha:DT X ρ a d)(hb:DT X ρ b (D.seq s ds))(hd:D.depL ds<=98)(nd:d.dep<10000)(hm:aF .NotIn b=a4:=by with_unfolding_all rfl):DB X ρ (.Compare a [.NotIn] [b] pos) (!ds.any λe=>deq e d):=λσ H Q R q =>(Je (La hu) peS peS hm).to (ha σ H _ R λv H1 g1 e1=>hb σ H1 _ (R.grow g1) λu H2 g2 e2=>⟨d,ds,s,e1.mono g2,e2,hd,nd,_,rfl,q H2 (g1.trans g2)⟩)
theorem DB.in(s:Bool)(hu:X.A.units+100<aI)(ha:DT X ρ a d)(hb:DT X ρ b (D.seq s ds))(hd:D.depL ds<=98)(nd:d.dep<10000)(hm:aF .In b=a4:=by with_unfolding_all rfl):DB X ρ (.Compare a [.In] [b] pos) (ds.any λe=>deq e d):=λσ H Q R q =>(Je (j4y hu) peS peS hm).to (ha σ H _ R λv H1 g1 e1=>hb σ H1 _ (R.grow g1) λu H2 g2 e2=>⟨d,ds,s,e1.mono g2,e2,hd,nd,_,rfl,q H2 (g1.trans g2)⟩)
theorem DE.countT (hu:X.A.units+100<aI) (ha:DT X ρ a (.tup ds)) (hb:DT X ρ b d) (hd:D.depL ds<=97) (nd:d.dep<10000) (hbase:aN a "count" X.env (ay a X.env)=ay a X.env:=by rfl)
  (hfew:((aO p2 (a9 [b] X.env)).all (λx=>!x.1)&&(bu p2 (aT [] X.env)).all (λx=>x.1.isSome)
   && decide (([b]:List aj).length+([]:List aR).length+(if ([]:List aR).isEmpty then 0 else 1)<30))=a7:=by rfl) (hline:(p1.endLine==p2.line)=a7:=by rfl)
  (hs:a9 [b] X.env=(a4,ay b X.env)::a9 [] X.env:=by rfl):DE X ρ (.Call (.Attribute a "count" p1) [b] [] p2) (.int (ds.countP λe=>deq e d)):=λσ H Q R q =>
 (W4 fG gH PySem.F.type_tuple_count (j57 hu) peS (jf peS q8 hs) hbase hfew hline hs rfl).to (ha σ H _ R λv H1 g1 ⟨t,xs,e,sq,l⟩=>⟨by rw[e];exact .inr (.inl ⟨rfl,xs,sq⟩),hb σ H1 _ (R.grow g1) λu H2 g2 e2 =>
  ⟨t,xs,ds,d,u,e,rfl,g2.seqT sq,l.mono g2,e2,hd,nd,q _ H2 (g1.trans g2) rfl⟩⟩)
theorem DE.min (ha:DT X ρ a (.int i)) (hb:DT X ρ b (.int j)) (hm:X.mg "min" = a6) (hc:X.calm=a7:=by rfl) (hg:Gl X "min":=by rfl) (hs:a9 [a,b] X.env=(a4,ay a X.env)::a9 [b] X.env:=by rfl) (hs2:a9 [b] X.env=(a4,ay b X.env)::a9 [] X.env:=by rfl)
  (hpl:(aO pos (a9 [b] X.env)).any (·.1)=a4:=by rfl):DE X ρ (.Call (.Name "min" p) [a,b] [] pos) (.int (if j<i then j else i)):=λσ H Q R q =>
 (J9 (j6c hc) hg hm jH (jf peS (jf peS q8 hs2) hs) (by decide) (by decide) hs hpl).to (ha σ H _ R λv H1 g1 e1=>hb σ H1 _ (R.grow g1) λu H2 g2 e2=>⟨i,j,by rw[show v=.int i from e1,show u=.int j from e2],q _ H2 (g1.trans g2) rfl⟩)
theorem Bd{K:k8o}{H:Hp}:∀{bs:List Bool}{xs:List V},j4 K H (bs.map D.bl) xs->xs=bs.map V.bl
 |[],_,h=>h
 |b::bs,_,⟨x,r,e,h,l⟩=>by subst e;cases(show x=.bl b from h);rw[Bd l];rfl
theorem DE.all {bs:List Bool} (ha:DT X ρ a (.lst (bs.map D.bl))) (hm:X.mg "all" = a6) (hc:X.calm=a7:=by rfl) (hg:Gl X "all":=by rfl) (hs:a9 [a] X.env=[(a4,ay a X.env)]:=by rfl):DE X ρ (.Call (.Name "all" p) [a] [] pos) (.bl (bs.all id)):=λσ H Q R q =>(J9 (j1g hc) hg hm boot_all (jf peS q8 hs) (by decide) (by decide) hs).to (ha σ H _ R λv H1 g1 ⟨l,xs,e,sq,en⟩=>⟨l,bs,by rw[e],by rw[Bd en]at sq;exact sq,q _ H1 g1 rfl⟩)
def jd2(X:Cx)(e:Option aj):TO:=λσ H Q=>∀pins s,Inv X pins σ H s->ao (aw X.prog X.w) X.A (evalPart e X.env) (λu s'=>∃o H',Inv X pins σ H' s'/\eW u o/\Q o H') X.xe s
theorem poS{e:Option aj}:PO X e (jd2 X e):=λpins s σ H Q I h=>h pins s I
def DP(X:Cx)(ρ:Rho)(e:Option aj)(o:Option Int):Prop:=∀σ H Q,Rep X.K ρ σ H->(∀H',j0 H H'->Q o H')->jd2 X e σ H Q
theorem DP.none:DP X ρ a6 a6:=λσ H Q R q pins s I=>jaw pins s σ H Q I (q H (j0.refl H))
theorem DP.some(h:DT X ρ e (.int i)):DP X ρ (a3 e) (a3 i):=λσ H Q R q pins s I=>jav peS pins s σ H Q I (h σ H _ R λv H1 g1 e1=>⟨i,e1,q H1 g1⟩)
variable{lo hi:Option aj}{l u:Option Int}
end
def jcu(K:k8o)(S:List D->List D->D->List D->Prop):Sp:=λvs H Q _=>∃(a:aa)(ds l:List D)(d:D)(l':List D)(ws xs:List V),vs=ws++[.ref a]/\TabOk K H/\H a=a3 (.lst xs)/\j4 K (del H [a]) l xs/\j4 K (del H [a]) ds ws/\S ds l d l' /\
 ∀v H' ys,j0 (del H [a]) (del H' [a])->H' a=a3 (.lst ys)->j4 K (del H' [a]) l' ys->Enc K (del H' [a]) d v->Q v H'
section
variable{X:Cx}{ρ ρ1:Rho}{e e1 e2 e3 c:aj}{st:aX}{rest sa:List aX}{a:aa}{d d1 d2 d3:D}{l l':List D}{k i:Nat}{x y f:ah}{p p1 p2 p3 p4 pos:aK}
end
noncomputable def j4p(dM n:Int):Int:=if 0<n then n%60 else(dM*48271+11)%2147483647/16
noncomputable def Ot(dM n:Int):Int:=if 0<n then n%60/6%2 else(dM*48271+11)%2147483647/128%2
noncomputable def Ma(n:Int):Int:=if 0<n then n/60 else n
noncomputable def U5:Nat->List ah->Int->Int->D×Int
 |0,_,dM,n=>(.tup [.str "tell",.int (Ot dM n)],Ma n)
 |k+1,ws,dM,n=>match ws[(j4p dM n%ws.length).toNat]? with
  |none=>(.tup [.str "tell",.int (Ot dM n)],Ma n)
  |some y=>if j4p dM n%6=0 then(.tup [.str "tell",.int (Ot dM n)],Ma n)
   else(.tup [.str "ask",.str y,(U5 k (ws.filter λz=>!(z==y)) ((dM*48271+11)%2147483647*3+1) (Ma n)).1,
     (U5 k (ws.filter λz=>!(z==y)) ((dM*48271+11)%2147483647*5+2) (U5 k (ws.filter λz=>!(z==y)) ((dM*48271+11)%2147483647*3+1) (Ma n)).2).1],
    (U5 k (ws.filter λz=>!(z==y)) ((dM*48271+11)%2147483647*5+2) (U5 k (ws.filter λz=>!(z==y)) ((dM*48271+11)%2147483647*3+1) (Ma n)).2).2)
def j9d(ds l:List D)(d:D)(l':List D):Prop:=∃(ws:List ah)(dM n:Int)(k:Nat),ds=[.lst (ws.map D.str),.int dM,.int k]/\l=[.int n]/\k<=5/\ws.length<=60/\d=(U5 k ws dM n).1/\l'=[.int (U5 k ws dM n).2]
section
variable{P:au}{w:ax}{K:k8o}{mg:k8r}{base:aA}{x qual:ah}{st:aX}{f:aa}{fd:aJ}{N ps:List ah}{k:Nat}
end
def Fz(o:Option HO):Prop:=(∃xs,o=a3 (.lst xs))\/∃oc v,o=a3 (.frz oc (.own 0))/\oc.data=.cell v
theorem j5m{P:au}{w:ax}{K:k8o}{mg:k8r}{base:aA}{A0:az}{outer:List dy}{s:af}{H:Hp}{A:List aa}(e0:Env0 P w K mg base A0 outer s H)(hA:∀a∈A,Fz (H a)) :
  Env0 P w K mg base A0 outer s (del H A)/\∀(Q:VK)(E E':XK)(r:fB)(s':af),CR CX0 outer P w (del H A) s (λv F=>(∀a∈A,F a=a6)->Q v (mrg A H F)) E r s'->CR CX0 outer P w H s Q E' r s':=by
 have nd:∀{b:aa},H b=a6->del H A b=a6:=λ{b} q=>by
  by_cases z:b∈A
  .exact qt z
  .rw[j5 z];exact q
 have out:∀{b:aa}{o:HO},H b=a3 o->(∀ys,o≠.lst ys)->(∀oc v,o=.frz oc (.own 0)->oc.data≠.cell v)->b∉A:=λ{b o} q z z2 y=>by
  rcases hA b y with ⟨ys,e'⟩|⟨oc,v,e',d⟩
  .rw[q]at e';cases e';exact z ys rfl
  .rw[q]at e';cases e';exact z2 _ _ rfl d
 have e1:Env0 P w K mg base A0 outer s (del H A):=⟨e0.frames,e0.mod,λb o q=>⟨(e0.bs b o q).1,nd (e0.bs b o q).2⟩,e0.bsz,e0.funs,λb hb=>nd (e0.frf b hb),
  λa o q=>by
   obtain⟨_,q⟩:=of_del q
   exact jg.stay (e0.hok a o q) (λb u _ z=>z) (λb z=>by rw[j5 (out z (λ_ y=>by cases y) λ_ _ y=>by cases y)];exact z) (λb xs z=>by rw[j5 (out z (λ_ y=>by cases y) λ_ _ y=>by cases y)];exact z)
    (λb o ⟨vs,d⟩ z=>by rw[j5 (out z (λ_ y=>by cases y) λ_ _ y d'=>by cases y;rw[d]at d';cases d')];exact z),e0.bare⟩
 refine⟨e1,λQ E E' r s' hq=>?_⟩;cases r with
 |error e=>exact(show False from hq).elim
 |ok fl =>
  cases fl with
  |next=>exact(show False from hq).elim
  |brk=>exact(show False from hq).elim
  |cont=>exact(show False from hq).elim
  |ret u =>
   obtain⟨v,H',os,bare,un,hok',rel,q⟩:=(show CE outer P w (del H A) s _ u s' from hq)
   have kept:∀a∈A,∃o,s.heap.get? a=a3 o/\s'.heap.get? a=a3 o/\H' a=a6:=λa ha=>by
    have nf:a∉frs outer:=λy=>by have z:=e0.frf a y;rcases hA a ha with ⟨xs,e⟩|⟨oc,v,e,_⟩<;>(rw[z]at e;cases e)
    have ob:∃o,s.heap.get? a=a3 o:=by
     rcases hA a ha with ⟨xs,e⟩|⟨oc,v,e,_⟩
     .obtain⟨_,its,n,_,z⟩:=(show jg P w H s.heap a (.lst xs)from e0.hok _ _ e);exact⟨_,z⟩
     .exact⟨_,(show jg P w H s.heap a (.frz oc (.own 0))from e0.hok _ _ e).1⟩
    obtain⟨o,z⟩:=ob;exact⟨_,z,un.keep a _ z (qt ha) nf (by simp),un.free a _ z (qt ha) (by simp)⟩
   have hF:∀a∈A,H' a=a6:=λa ha=>let ⟨_,_,_,z⟩:=kept a ha;z;have outF:∀{b:aa}{o:HO},H' b=a3 o->b∉A:=λ{b o} e z=>by rw[hF b z]at e;cases e
   refine⟨v,mrg A H H',os,bare,?_,λa o e=>?_,rel,q hF⟩
   .exact{
     keep:=λb o e n=>un.keep b o e (nd n)
     slot:=λb o e n=>un.slot b o e (nd n)
     free:=λb o e n hx=>by
      by_cases z:b∈A
      .rw[J2 z];exact n
      .rw[jj z];exact un.free b o e (nd n) hx
     there:=un.there
     tups:=λb xs e=>by
      have z:=un.tups b xs (by rw[j5 (out e (λ_ y=>by cases y) λ_ _ y=>by cases y)];exact e)
      rw[jj (outF z)];exact z
     frzs:=λb o u e=>by
      by_cases y:b∈A
      .rw[J2 y];exact e
      .have z:=un.frzs b o u (by rw[j5 y];exact e)
       rw[jj y];exact z
     tbls:=λb ps e=>by
      obtain⟨more,z⟩:=un.tbls b ps (by rw[j5 (out e (λ_ y=>by cases y) λ_ _ y=>by cases y)];exact e)
      exact⟨more,by rw[jj (outF z)];exact z⟩ }
   .by_cases z:a∈A
    .rw[J2 z]at e;obtain⟨o',q1,q2,_⟩:=kept a z;rcases hA a z with ⟨xs,e'⟩|⟨oc,v,e',_⟩
     .rw[e']at e;cases e;obtain⟨hl,its,n,r,y⟩:=(show jg P w H s.heap a (.lst xs)from e0.hok _ _ e')
      rw[y]at q1;cases q1;exact⟨hl,its,n,r,q2⟩
     .rw[e']at e;cases e;have y:=(show jg P w H s.heap a (.frz oc (.own 0))from e0.hok _ _ e').1;rw[y]at q1;cases q1;exact⟨q2,_,q2⟩
    .rw[jj z]at e;refine jg.stay (hok' a o e) (λb u _ q=>q) (λb q=>?_) (λb xs q=>?_) (λb _ _ q=>?_)
     .rw[jj (outF q)];exact q
     .rw[jj (outF q)];exact q
     .rw[jj (outF q)];exact q
structure LamScope(N ps:List ah)(sc:aY):Prop where
 kind:sc.kind=.function
 co:sc.isCoroutine=a4
 gen:sc.isGenerator=a4
 nd:N.Nodup
 nm:N=zf sc++ps
 lfr:∀x∈zf sc,sc.names.lookup x=a3 .free
 lps:∀x∈ps,sc.names.lookup x=a3 .local
 nocell:∀y∈sc.names,y.2≠.cell
 cov:∀x,sc.names.lookup x=a3 .free->x∈zf sc
noncomputable def Ua(P:au)(w:ax)(K:k8o)(mg:k8r)(base:aA)(N:List ah)(qual:ah)(scope:aY)(a:aa)(cd:a8)(cl:List (ah×aa))(A:az)(outer:List dy)(s:af)(H:Hp):Cx where
 prog:=P
 w:=w
 K:=K
 mg:=mg
 base:=base
 A:=A.deeper (W.envX qual scope s.heap.objs.size a cd cl)
 N:=N
 s₀:=s
 H₀:=H
 env:=W.envX qual scope s.heap.objs.size a cd cl
 outer:=outer
 stack:=W.envX qual scope s.heap.objs.size a cd cl::outer
 ex:=[]
 calm:=a7
 fn:=λ_=>a4
 pn:=[]
 xe:=λ_ _=>False
def Jo(h:aA):List aa->List V->Prop
 |[],vs=>vs=[]
 |c::cs,vs=>∃v r u,vs=v::r/\h.IsCell c (a3 u)/\RelV v u/\Jo h cs r
theorem Jo.get{h:aA}:∀{cs:List aa}{vs:List V}{i:Nat}{v:V},Jo h cs vs->vs[i]?=a3 v->∃c u,cs[i]?=a3 c/\h.IsCell c (a3 u)/\RelV v u
 |[],_,i,v,e,q=>by cases e;simp at q
 |c::cs,_,0,v,⟨x,r,u,e,h1,h2,_⟩,q=>by subst e;simp at q;subst q;exact⟨c,u,rfl,h1,h2⟩
 |c::cs,_,i+1,v,⟨x,r,u,e,_,_,l⟩,q=>by subst e;obtain⟨c',u',z1,z2⟩:=Jo.get l (i:=i) (by simpa using q);exact⟨c',u',by simpa using z1,z2⟩
theorem Jo.length{h:aA}:∀{cs:List aa}{vs:List V},Jo h cs vs->vs.length=cs.length
 |[],_,e=>by cases e;rfl
 |c::cs,_,⟨x,r,u,e,_,_,l⟩=>by subst e;simp[l.length]
theorem Jo.all{h:aA}:∀{cs:List aa}{vs:List V},Jo h cs vs->∀c∈cs,∃v,h.IsCell c v
 |c::cs,_,⟨x,r,u,e,h1,_,l⟩,b,hb=>(xr.mp hb).elim (λz=>z▸⟨_,h1⟩) (l.all b)
theorem lookup_at{α:Type}:∀{l:List (ah×α)} {i:Nat} {p:ah×α},(l.map (·.1)).Nodup->l[i]?=a3 p->l.lookup p.1=a3 p.2
 |[],i,p,_,h=>by simp at h
 |q::l,0,p,_,h=>by simp at h;subst h;rw[Xj,beq_self_eq_true]
 |q::l,i+1,p,nd,h=>by rw[X4]at nd;rw[dr]at h;have ne:(p.1==q.1)=a4:=beq_eq_false_iff_ne.mpr λz=>(Xk.mp nd).1 (z▸eD (Xo h));rw[Xj,ne];exact lookup_at (Xk.mp nd).2 h
theorem j3f{ps:List ah}{us:List a8}{i:Nat}{p:ah}{u:a8}(nd:ps.Nodup)(hl:us.length=ps.length)(h1:ps[i]?=a3 p)(h2:us[i]?=a3 u):(ps.zip us).reverse.lookup p=a3 u:=by
 have hm:(p,u)∈(ps.zip us).reverse:=List.mem_reverse.mpr (Xo (i:=i) (by rw[List.getElem?_zip_eq_some];exact⟨h1,h2⟩));have e:((ps.zip us).reverse.map (·.1))=ps.reverse:=by rw[List.map_reverse,List.map_fst_zip nofun]
 obtain⟨j,hj⟩:=List.mem_iff_getElem?.mp hm;exact lookup_at (by rw[e];exact(List.reverse_perm ps).nodup_iff.mpr nd) hj
section
variable{P:au}{w:ax}{K:k8o}{mg:k8r}{base:aA}{A:az}{outer:List dy}{s:af}{H:Hp}{x:ah}{a c:aa}{tx:Tx}{cl:List (ah×aa)}{pm ctv:a8}{cvs vs:List V}{us:List a8}{N ps:List ah}{k:Nat}{Q:VK}{E:XK}
theorem jbk{h1:aA}{tk:Nat}(hh:A.handled=a6)(e0:Env0 P w K mg base A outer s H)(S:LamScope N ps tx.2.2)(hn:cl.map (·.1)=zf tx.2.2)(nd:(cl.map (·.2)).Nodup)(hc:Jo s.heap (cl.map (·.2)) cvs)(hf:∀q∈cl.map (·.2),H q=a6)(rv:Vals vs us)(hl:vs.length=ps.length)
  (ns:h1.Ns s.heap.objs.size λy=>(ps.zip us).reverse.lookup y) (kp:∀b o,s.heap.get? b=a3 o->h1.get? b=a3 o) :
  Inv (Ua P w K mg base N (jq x) tx.2.2 a (.ref c) cl A outer s H) [] (start N (cvs++vs)) H { s with heap:=h1,toks:=tk }:=by
 have ndN:(zf tx.2.2).Nodup:=by have:=S.nd;rw[S.nm]at this;exact(List.nodup_append.mp this).1
 have ndP:ps.Nodup:=by have:=S.nd;rw[S.nm]at this;exact(List.nodup_append.mp this).2.1
 have ndC:(cl.map (·.1)).Nodup:=by rw[hn];exact ndN
 have lenC:cvs.length=(zf tx.2.2).length:=by rw[hc.length,<-hn,xf,xf]
 have lenN:N.length=(cvs++vs).length:=by rw[S.nm,Xb,Xb,lenC,hl]
 have noA:∀b:aa,b∉(Ua P w K mg base N (jq x) tx.2.2 a (.ref c) cl A outer s H).ex:=λb z=>absurd (show b∈([]:List aa)from z) (by simp);have mem2:∀{y:ah}{q:aa},cl.lookup y=a3 q->q∈cl.map (·.2):=λ{y q} h=>X5.mpr ⟨(y,q),Pn h,rfl⟩;have inj:∀(l:List (ah×aa)),(l.map (·.2)).Nodup->∀y z q,(y,q)∈l->(z,q)∈l->y=z:=λl=>by
  induction l with
  |nil=>intro _ y z q h;cases h
  |cons p r ih =>
   intro nd y z q h1 h2;rw[X4]at nd;obtain⟨n1,n2⟩:=Xk.mp nd;rcases xr.mp h1 with e1|h1<;>rcases xr.mp h2 with e2|h2
   .rw[<-e1]at e2;cases e2;rfl
   .exact absurd (X5.mpr ⟨(z,q),h2,by rw[<-e1]⟩) n1
   .exact absurd (X5.mpr ⟨(y,q),h1,by rw[<-e2]⟩) n1
   .exact ih n2 y z q h1 h2
 refine⟨⟨e0.mod,S.kind,rfl,rfl,X3 _,λy z q h1 h2=>inj cl nd y z q (Pn h1) (Pn h2),λy hy=>?_,λy q h=>(by cases h),λ_=>hh,Around.frames_deeper e0.frames,.inr ⟨rfl,rfl⟩,λb z=>absurd z (noA b),e0.bs,e0.bsz,λb _ _=>noA b,λb z=>absurd z (noA b),e0.funs,e0.frf⟩,
  rfl,e0.bare,Un.kept kp,⟨_,ns,λi y v h1 h2 h3=>?_⟩,λy q h=>?_,e0.hok.fresh (X3 _),λy q h=>hf q (mem2 h),λp hp=>absurd (show p∈([]:k8q)from hp) (by simp),e0.hok.kept kp,?_⟩
 .have hy:tx.2.2.names.lookup y=a3 .cell\/tx.2.2.names.lookup y=a3 .free:=hy;rcases hy with hy|hy
  .exact absurd rfl (S.nocell _ (Pn hy))
  .have m:=S.cov y hy;rw[<-hn]at m;obtain⟨p,hp,e⟩:=X5.mp m;obtain⟨i,hi⟩:=List.mem_iff_getElem?.mp hp;exact⟨p.2,by have:=lookup_at ndC hi;rw[e]at this;exact this⟩
 .have h1:N[i]?=a3 y:=h1;have hi:i<(cvs++vs).length:=by rw[<-lenN];exact(X7.mp h1).1
  have ha:(cvs++vs)[i]?=a3 v:=by
   unfold start at h2;rw[t7 (by simpa using hi),xx]at h2;cases e:(cvs++vs)[i]? with
   |none=>rw[e]at h2;cases h2
   |some a=>rw[e]at h2;cases h2;rfl
  rw[S.nm]at h1;by_cases z:i<cvs.length
  .rw[t7 z]at ha;rw[t7 nofun]at h1;obtain⟨q,u,e1,e2,r⟩:=hc.get ha;refine⟨u,r,.inr ⟨.inr (S.lfr y (Xo h1)),q,?_,e2.keeps kp⟩⟩;rw[<-hn,xx]at h1;rw[xx]at e1;obtain⟨p,hp,ep⟩:=Xv.mp h1;rw[hp]at e1;have:=lookup_at ndC hp;rw[ep]at this;show cl.lookup y=a3 q;rw[this];exact e1
  .rw[cR nofun]at ha h1;rw[<-lenC]at h1;obtain⟨u,hu,r⟩:=rv.get ha;exact⟨u,r,.inl ⟨S.lps y (Xo h1),j3f ndP (by rw[<-rv.length,hl]) h1 hu⟩⟩
 .obtain⟨v,z⟩:=hc.all q (mem2 h);exact⟨v,z.keeps kp⟩
 .unfold start;show _=N.length;rw[Xb,xf,Pg];omega
theorem j7u (hr:Room (k+1) A) (e0:Env0 P w K mg base A outer s H) (ho:s.heap.get? a=a3 (W.kla_obj "<lambda>" (jq x) tx.1 tx.2.1 tx.2.2 cl pm c ctv)) (hcd:s.heap.CodeRec (.ref c) (jq x))
  (S:LamScope N ps tx.2.2) (hn:cl.map (·.1)=zf tx.2.2) (nd:(cl.map (·.2)).Nodup) (hc:Jo s.heap (cl.map (·.2)) cvs) (hf:∀q∈cl.map (·.2),H q=a6)
  (hb:eT (W.kla_fn "<lambda>" (jq x) tx.1 tx.2.1 tx.2.2 cl pm (.ref c) ctv) ⟨us,[]⟩=pure (ps.zip us)) (rv:Vals vs us) (hl:vs.length=ps.length)
  (body:Room k (Ua P w K mg base N (jq x) tx.2.2 a (.ref c) cl A outer s H).A->Qx (Ua P w K mg base N (jq x) tx.2.2 a (.ref c) cl A outer s H) tx.2.1 (start N (cvs++vs)) H Q) :
  cj (aw P w) A (.call (.ref a) ⟨us,[]⟩) (CR CX0 outer P w H s Q E) s:=by
 have lim:s.heap.NoLimit:=e0.mod.nolimit.keeps λb o e=>(e0.bs b o e).1;refine W.kla_callFunE (by have:=hr.dp;omega) ho rfl S.co S.gen rfl hcd ?_;rw[hb];refine ai (wpAny_newFunctionEnv S.nocell (λy hy=>S.lps y.1 (dF (a:=y.1) (b:=y.2) hy).1) (λh1 ns sb=>⟨lim.fresh _ sb,?_⟩) S.kind);show cj _ _ (.expr tx.2.1 (W.envX (jq x) tx.2.2 s.heap.objs.size a (.ref c) cl)) _ _;have kp:∀b o,s.heap.get? b=a3 o->h1.get? b=a3 o:=λb o e=>sb.extBut b o (Xa (xu e)) (xg _ e);have I:=jbk (x:=x) (a:=a) (c:=c) (tk:=s.toks+(ps.zip us).length) hr.hd e0 S hn nd hc hf rv hl ns kp;refine W.kla_codeExpr (bg (body (hr.deeper _) [] _ I) (λu s' ⟨v,H',J,r,q⟩=>?_) λ_ _ z=>z.elim);exact⟨v,H',J.os,J.bare,J.base,J.hok,r,q⟩
end
mutual
noncomputable def noFn:D->Bool
 |.fn _ _=>a4
 |.tup ds=>vg ds
 |.lst ds=>vg ds
 |.dct _ ds=>vg ds
 |_=>a7
noncomputable def vg:List D->Bool
 |[]=>a7
 |d::ds=>noFn d&&vg ds
end
section
variable{K:k8o}{H:Hp}{A:List aa}
def Cel(H:Hp)(A:List aa):Prop:=∀a∈A,∃oc v,H a=a3 (.frz oc (.own 0))/\oc.data=.cell v
theorem Cel.out(hA:Cel H A){b:aa}{o:HO}(q:H b=a3 o)(h:∀oc,o≠.frz oc (.own 0)):del H A b=a3 o:=by rw[j5];exact q;intro y;obtain⟨oc,v,e,_⟩:=hA b y;rw[q]at e;exact h oc (av e)
theorem Cel.seqT(hA:Cel H A){a:aa}{xs:List V}(h:SqT K H a xs):SqT K (del H A) a xs:=by
 rcases h with (h|⟨o,h⟩)|h
 .exact .inl (.inl (hA.out h λ_ z=>by cases z))
 .exact .inl (.inr ⟨o,hA.out h λ_ z=>by cases z⟩)
 .exact .inr h
theorem Cel.seq(hA:Cel H A){a:aa}{xs:List V}(h:SqL K H a xs):SqL K (del H A) a xs:=by
 rcases h with (h|⟨o,h⟩)|h
 .exact .inl (.inl (hA.out h λ_ z=>by cases z))
 .exact .inl (.inr ⟨o,hA.out h λ_ z=>by cases z⟩)
 .exact .inr h
mutual
theorem Enc.noc(hA:Cel H A):∀{d:D}{v:V},noFn d=a7->Enc K H d v->Enc K (del H A) d v
 |.non,_,_,h=>h
 |.bl _,_,_,h=>h
 |.int _,_,_,h=>h
 |.str _,_,_,h=>h
 |.tup _,_,n,⟨a,xs,e,q,l⟩=>⟨a,xs,e,hA.seqT q,j4.noc hA (by simpa [noFn]using n) l⟩
 |.lst _,_,n,⟨a,xs,e,q,l⟩=>⟨a,xs,e,hA.seq q,j4.noc hA (by simpa [noFn]using n) l⟩
 |.dct _ _,_,n,⟨a,xs,ep,vs,e,q,ek,kt,rv,l⟩=>⟨a,xs,ep,vs,e,hA.out q (λ_ z=>by cases z),ek,λx hx=>hA.seqT (kt x hx),rv,j4.noc hA (by simpa [noFn]using n) l⟩
 |.sct _,_,_,⟨a,e,q⟩=>⟨a,e,hA.out q λ_ z=>by cases z⟩
 |.fn _ _,_,n,_=>by cases n
theorem j4.noc(hA:Cel H A):∀{ds:List D}{xs:List V},vg ds=a7->j4 K H ds xs->j4 K (del H A) ds xs
 |[],_,_,h=>h
 |d::ds,_,n,⟨x,r,e,h,l⟩=>by rw[vg,Xi]at n;exact⟨x,r,e,Enc.noc hA n.1 h,j4.noc hA n.2 l⟩
end
theorem v6.cel:∀{cs:List aa}{vs:List V},v6 H cs vs->Cel H cs
 |[],_,_=>λ_ h=>nomatch h
 |c::cs,_,⟨v,r,o,u,e,h,d,rv,l⟩=>λa ha=>(xr.mp ha).elim (λz=>⟨o,_,z▸h,d⟩) (l.cel a)
theorem v6.inn{P:au}{w:ax}{h:aA}(ok:HOk P w H h):∀{cs:List aa}{vs:List V},v6 H cs vs->Jo h cs vs
 |[],_,e=>e
 |c::cs,_,⟨v,r,o,u,e,q,d,rv,l⟩=>⟨v,r,u,e,⟨o,(show jg P w H h c (.frz o (.own 0))from ok _ _ q).1,d⟩,rv,l.inn ok⟩
theorem v6.of_del{B:List aa}:∀{cs:List aa}{vs:List V},v6 (del H B) cs vs->v6 H cs vs:=λh=>h.mono jx
theorem TabOk.fz(h:TabOk K H)(hA:∀a∈A,Fz (H a)):TabOk K (L2.del H A):=λx hx c P z=>by have q:=h x hx c P z;rw[j5];exact q;intro y;rcases hA _ y with ⟨xs,e⟩|⟨oc,v,e,_⟩<;>(rw[q]at e;cases e)
end
def Ig(P:au)(w:ax)(K:k8o)(mg:k8r)(base:aA)(k:Nat)(x:ah)(S:List D->D->Prop):Prop :=
 ∀(A:az)(outer:List dy)(s:af)(H:Hp)(a:aa)(B:List aa)(cs ds:List D) (d:D) (vs:List V) (us:List a8) (Q:VK) (E:XK),Room k A->Env0 P w K mg base A outer s H->TabOk K H->(∀b∈B,∃xs,H b=a3 (.lst xs)) ->
  Enc K (del H B) (.fn x cs) (.ref a)->j4 K (del H B) ds vs->vg ds=a7->S (cs++ds) d->Vals vs us->(∀v H',j0 H H'->Enc K (del H' B) d v->Q v H')->cj (aw P w) A (.call (.ref a) ⟨us,[]⟩) (CR CX0 outer P w H s Q E) s
section
variable{P:au}{w:ax}{K:k8o}{mg:k8r}{base:aA}{k:Nat}{x:ah}{S:List D->D->Prop}{tx:Tx}{N ps:List ah}
theorem jee(ht:Q3 K x=a3 tx)(Sc:LamScope N ps tx.2.2)(hl:∀ds d,S ds d->ds.length=N.length)
  (hb:∀(cl:List (ah×aa)) (pm:a8) (c:aa) (ctv:a8) (us:List a8),us.length=ps.length->eT (W.kla_fn "<lambda>" (jq x) tx.1 tx.2.1 tx.2.2 cl pm (.ref c) ctv) ⟨us,[]⟩=pure (ps.zip us))
  (hbody:∀(a c:aa)(cl:List (ah×aa)) (A:az) (outer:List dy) (s:af) (H:Hp),cl.map (·.1)=zf tx.2.2->Room k (Ua P w K mg base N (jq x) tx.2.2 a (.ref c) cl A outer s H).A->∀ds d,S ds d->DT (Ua P w K mg base N (jq x) tx.2.2 a (.ref c) cl A outer s H) (qp N ds) tx.2.1 d):Ig P w K mg base (k+1) x S:=by
 intro A outer s H a B cs ds d vs us Q E hr e0 tb hB en ea nf hS rv q;obtain⟨a',c,tx',cl,cvs,e,L,l⟩:=en;cases e;have et:tx'=tx:=av (L.tx.symm.trans ht);subst et;have cs_at:v6 H (cl.map (·.2)) cvs:=L.cs.of_del;have hA:∀b∈B++cl.map (·.2),Fz (H b):=λb hb=>(Pj.mp hb).elim (λz=>.inl (hB b z)) λz=>.inr (cs_at.cel b z);obtain⟨e1,back⟩:=j5m e0 hA;obtain⟨pm,ctv,hfo⟩:=L.fo;obtain⟨oc,hco,vs0,t0,hd0,hv0⟩:=L.co;have ho:=(show jg P w H s.heap a (.frz _ (.own 0))from e0.hok _ _ (of_del hfo).2).1;have hcd:s.heap.CodeRec (.ref c) (jq x):=⟨c,oc,vs0,t0,rfl,(show jg P w H s.heap c (.frz oc (.own 0))from e0.hok _ _ (of_del hco).2).1,hd0,hv0⟩
 have ll:=l.length;have la:=ea.length;have hlen:=hl _ _ hS;have lenC:(cl.map (·.2)).length=(zf tx'.2.2).length:=by rw[<-L.nm,xf,xf]
 have lcv:=(cs_at.inn e0.hok).length;have hlv:vs.length=ps.length:=by rw[Sc.nm,Xb,Xb]at hlen;omega
 have celB:Cel (del H B) (cl.map (·.2)):=L.cs.cel;have ea1:j4 K (del H (B++cl.map (·.2))) ds vs:=by rw[<-Zh];exact ea.noc celB nf
 have l1:j4 K (del H (B++cl.map (·.2))) cs cvs:=by rw[<-Zh];exact l
 refine bf (j7u (E:=E) (Q:=λv F=>(∀a∈B++cl.map (·.2),F a=a6)->Q v (mrg (B++cl.map (·.2)) H F)) hr e1 ho hcd Sc L.nm L.nd (cs_at.inn e0.hok) (λb hb=>qt (Xe _ hb)) (hb cl pm c ctv us (by rw[<-rv.length];exact hlv)) rv hlv λhrm=>?_) λr s' h=>back Q E E r s' h;refine hbody a c cl A outer s _ L.nm hrm (cs++ds) d hS _ _ _ (U3 (tb.fz hA) (l1.append ea1)) λv F g en' hF=>q v _ (Oo g) (en'.mono λb o z=>?_);have nb:b∉B++cl.map (·.2):=λy=>by rw[hF b y]at z;cases z
 rw[j5 (λy=>nb (T7 _ y)),jj nb];exact z
end
section
variable{X:Cx}{ρ:Rho}{e:aj}{es:List aj}{d:D}{cs ds:List D}{pos p:aK}{x y:ah}{i k:Nat}
theorem DE.callV {S:List D->D->Prop} (c:Ig X.prog X.w X.K X.mg X.base k x S) (hr:Room k X.A) (hi:ρ[i]?=a3 (.val (.fn x cs))) (ha:DA X ρ (e::es) ds) (nf:vg ds=a7) (hS:S (cs++ds) d) (hN:X.N[i]?=a3 y) (hv:Vis X.env.scope y) (hd:(y==k8s)=a4) (hcd:(y==k8t)=a4)
  (he:a9 (e::es) X.env=(a4,ay e X.env)::a9 es X.env) (hpl:(aO pos (a9 es X.env)).any (·.1)=a4):DE X ρ (.Call (.Name y p) (e::es) [] pos) d:=λσ H Q R q pins s I=>by
 obtain⟨v,hσ,en⟩:=R.val i _ hi;obtain⟨a,c0,tx,cl,cvs,ev,L,l⟩:=id en;subst ev;refine aH (thn (Z1 hN hv hd hcd pins s σ H (λv' H'=>v'=.ref a/\H'=H) I ⟨_,hσ,rfl,rfl⟩) λu s1 ⟨v',H',I1,r1,e1,e2⟩=>?_);subst e1 e2;cases(show u=aC a from r1);obtain⟨pm,ctv,hfo⟩:=L.fo;have fnAt:∀{H2:Hp}{s2:af},Inv X pins σ H2 s2->j0 H' H2->PySem.W.FnAt a s2.heap:=λ{H2 s2} I2 g=>⟨_,_,_,_,(show jg X.prog X.w H2 s2.heap a (.frz _ (.own 0))from I2.hok _ _ (g _ _ (of_del hfo).2)).1⟩
 refine W.callWith_F (fnAt I1 (j0.refl _)) (thn (ha σ H' (λvs H2=>j0 H' H2/\j4 X.K (del H2 (owns ρ)) ds vs) R (λvs H2 g z=>⟨g,z⟩) pos pins s1 I1) λus s2 ⟨vs,H2,I2,rv,g,ea⟩=>⟨fnAt I2 g,?_⟩) he hpl;refine fq (bf (c X.A X.stack s2 H2 a (owns ρ) cs ds d vs us Q E0 hr I2.env0 (R.tb.mono g) (R.grow g).owned (en.mono (je g)) ea nf hS rv λv H3 g3 z=>q v H3 (g.trans g3) z) λr s' hq=>?_);cases r with
 |error e=>exact(show False from hq).elim
 |ok fl =>
  cases fl with
  |ret u=>exact I2.after hq
  |next=>exact(show False from hq).elim
  |brk=>exact(show False from hq).elim
  |cont=>exact(show False from hq).elim
end
theorem Fo{pos:aK}{c cv:a8}{a b:Int}:∀(l:List a8),TriplesOk l->f9 pos (l++[dA a,dA b,c])=a3 cv->f9 pos l=a3 cv\/cv=c
 |[],_,h=>by
  simp only[bX,dA,f9]at h;split at h
  .exact .inr (av h).symm
  .cases h
 |.int i t::.int j u::x::r,ht,h=>by
  simp only[cC,f9]at h ⊢;split at h
  .rename_i z;rw[if_pos z];exact .inl h
  .rename_i z;rw[if_neg z];exact Fo r ht h
section
variable{X:Cx}{pins:k8q}{σ:St}{H:Hp}{s:af}
theorem Inv.madeL{q:ah}{P:aa}{h2:aA}{tk:Nat}{H2:Hp}(I:Inv X pins σ H s)(hP:H P=a3 (.cod q))(g:j0 H H2)(kp:∀b o,b≠P->s.heap.get? b=a3 o->h2.get? b=a3 o)
  (new:∀b o,H2 b=a3 o->H b=a3 o\/(s.heap.objs.size<=b/\jg X.prog X.w H2 h2 b o)) (okP:jg X.prog X.w H2 h2 P (.cod q)):Inv X pins σ H2 { s with heap:=h2,toks:=tk }:=by
 have nP:∀{b:aa},H b=a6->b≠P:=λ{b} n z=>by rw[z,hP]at n;cases n
 have nO:∀{b:aa}{u:HO},H b=a3 u->(∀q,u≠.cod q)->b≠P:=λ{b u} e n z=>by rw[z,hP]at e;cases e;exact n _ rfl
 refine I.un (H':=H2) (h':=h2) (t':=tk) ⟨λb o e n _ _=>kp b o (nP n) e,λb o e n _ _=>⟨o.slots,kp b o (nP n) e⟩,λb o e n _=>?_,λb o e _=>?_,λb xs e=>g _ _ e,λb o u e=>g _ _ e,λb ps e=>⟨#[],by rw[g _ _ e];simp⟩⟩ λb o e=>?_
 .cases z:H2 b with
  |none=>rfl
  |some u =>
   rcases new b u z with y|⟨y,_⟩
   .rw[n]at y;cases y
   .exact absurd (Xf (xu e) y) (pq _)
 .by_cases z:b=P
  .obtain⟨ps,y,_⟩:=okP;exact⟨_,by rw[z];exact y⟩
  .exact⟨o,kp b o z e⟩
 .rcases new b o e with y|⟨_,y⟩
  .by_cases z:b=P
   .subst z;rw[hP]at y;cases y;exact okP
   .exact(I.hok b o y).stay (λc u hc r=>kp c u (hc.elim (λe=>e▸z) λe=>nO e λ_ z=>by cases z) r) (λ_ r=>g _ _ r) (λ_ _ r=>g _ _ r) λ_ _ _ r=>g _ _ r
  .exact y
structure LMk(X:Cx)(x:ah):Prop where
 mem:x∈Zn
 qual:X.env.qual=x ++ ".<locals>."
 code:∃c P,X.env.code=.ref c/\W.codeHdIn X.K c P=a7/\W.tabIn X.K x=a3 (c,P)
def jj1(X:Cx)(x:ah)(params:d7)(body:aj)(scope:aY)(cl:List (ah×aa)):TE:=λ_ H Q=>TabOk X.K H/\∀(f c:aa)(oc:dn)(pm ctv:a8)(H2:Hp),j0 H H2->H f=a6->H2 f=a3 (.frz (W.kla_obj "<lambda>" (jq x) params body scope cl pm c ctv) (.own 0)) ->
 H2 c=a3 (.frz oc (.own 0))->O1 oc (jq x)->Q (.ref f) H2
theorem j4v{x:ah}{params:d7}{body:aj}{scope:aY}{cl:List (ah×aa)}{pos:aK}(M:LMk X x)(hdef:fA params X.env=([],[]))(hcl:dk scope X.env=pure cl):PE X (.Lambda params body scope pos) (jj1 X x params body scope cl):=by
 rintro pins s σ H Q I ⟨tb,h⟩;obtain⟨c,P,hc,hd,ht⟩:=M.code;have hP:=tb x M.mem c P ht;have C:iE s.heap c P:=W.codeHd_of_K I.kIn hd;obtain⟨ps,hps,htr,hcod⟩:=(show jg X.prog X.w H s.heap P (.cod (jq x))from I.hok _ _ hP)
 have hns:=I.mod.glob.keeps I.bk;have hgP:aq≠P:=λz=>by obtain⟨o,es,ep,e,d,_⟩:=hns;rw[z,hps]at e;cases e;cases d
 have hbP:s.heap.BuiltinsAt X.mg P:=by
  obtain⟨bm,ob,b1,b2,b3,b4,b5,b6⟩:=I.mod.bm;have b3':=I.bk _ _ b3;refine⟨bm,ob,b1,b2,λz=>?_,λz=>?_,b3',b4,b5,b6⟩
  .obtain⟨o,es,ep,e,d,_⟩:=hns;rw[z,e]at b3';cases b3';rw[d]at b6;cases b6
  .rw[z,hps]at b3';cases b3';cases b4
 have hq:X.env.qual ++ "<lambda>" = jq x:=by rw[M.qual];rfl
 refine W.kla_eval hdef ?_;rw[hq];cases e:f9 pos ps.toList with
 |none =>
  refine W.kla_makeFunction hcl I.ok.glob hns hc C hps htr e hgP hbP λc' ctv h' tk hx hge hlt hrec htb=>?_;obtain⟨c2,oc,vs,t,ec,hoc,hdt,hv⟩:=hrec;cases ec;have hsz:s.heap.objs.size<=h'.objs.size:=cP (c8 hge hlt);have n1:H c'=a6:=I.hok.fresh hge;have n2:H h'.objs.size=a6:=I.hok.fresh hsz;have ne:c'≠h'.objs.size:=Xa hlt;have hne:∀{b:aa}{u:HO},H b=a3 u->b≠c'/\b≠h'.objs.size:=λz=>⟨zq z n1,zq z n2⟩
  have g:∀fo:HO,j0 H (upd (upd H c' (.frz oc (.own 0))) h'.objs.size fo):=λfo b u z=>by rw[ji (hne z).2,ji (hne z).1];exact z
  have h2c:∀fo:HO,upd (upd H c' (.frz oc (.own 0))) h'.objs.size fo c'=a3 (.frz oc (.own 0)):=λfo=>by rw[ji ne,jc]
  refine⟨.ref h'.objs.size,_,I.madeL (P:=P) (q:=jq x) (H2:=upd (upd H c' (.frz oc (.own 0))) h'.objs.size (.frz (W.kla_obj "<lambda>" (jq x) params body scope cl ((X.mg "__name__").getD .none) c' ctv) (.own 0))) hP (g _)
   (λb o nb z=>xg _ (hx b o nb z)) (λb o z=>?_) ?_,rfl,h _ c' oc _ ctv _ (g _) n2 jc (h2c _) ⟨vs,t,hdt,hv⟩⟩
  .by_cases z1:b=h'.objs.size
   .subst z1;rw[jc]at z;cases z;exact .inr ⟨hsz,X6 _ rfl,_,X6 _ rfl⟩
   .rw[ji z1]at z;by_cases z2:b=c'
    .subst z2;rw[jc]at z;cases z;exact .inr ⟨hge,xg _ hoc,_,xg _ hoc⟩
    .rw[ji z2]at z;exact .inl z
  .refine⟨_,xg _ htb,by rw[Tg];exact TriplesOk_snoc _ _ _ _ htr,λpos' cv z=>?_⟩;rw[Tg]at z;rcases Fo ps.toList htr z with z|z
   .obtain⟨c3,oc3,e1,e2,e3⟩:=hcod pos' cv z;exact⟨c3,oc3,e1,g _ _ _ e2,e3⟩
   .exact⟨c',oc,z,h2c _,vs,t,hdt,hv⟩
 |some cv =>
  obtain⟨c',oc,ec,h1,h2⟩:=hcod pos cv e;subst ec;refine W.kla_makeFunctionHit hcl I.ok.glob hns hc C hps htr e hbP λctv h' tk hk hsz=>?_;have n2:H h'.objs.size=a6:=I.hok.fresh hsz;have g:∀fo:HO,j0 H (upd H h'.objs.size fo):=λfo=>j7 n2;refine⟨.ref h'.objs.size,_,I.madeL (P:=P) (q:=jq x) (H2:=upd H h'.objs.size (.frz (W.kla_obj "<lambda>" (jq x) params body scope cl ((X.mg "__name__").getD .none) c' ctv) (.own 0))) hP (g _)
   (λb o _ z=>xg _ (hk b o z)) (λb o z=>?_) ?_,rfl,h _ c' oc _ ctv _ (g _) n2 jc (g _ _ _ h1) h2⟩
  .by_cases z1:b=h'.objs.size
   .subst z1;rw[jc]at z;cases z;exact .inr ⟨hsz,X6 _ rfl,_,X6 _ rfl⟩
   .rw[ji z1]at z;exact .inl z
  .refine⟨ps,xg _ (hk _ _ hps),htr,λpos' cv z=>?_⟩;obtain⟨c3,oc3,e1,e2,e3⟩:=hcod pos' cv z;exact⟨c3,oc3,e1,g _ _ _ e2,e3⟩
noncomputable def plus(H:Hp)(h:aA)(cs:List aa):Hp:=λb=>if b∈cs then(h.get? b).map λo=>.frz o (.own 0)else H b
theorem M9{h:aA}{cs:List aa}{b:aa}{o:dn}(hb:b∈cs)(e:h.get? b=a3 o):plus H h cs b=a3 (.frz o (.own 0)):=by unfold plus;rw[if_pos hb,e];rfl
theorem Jp{h:aA}{cs:List aa}{b:aa}(hb:b∉cs):plus H h cs b=H b:=if_neg hb
def Own(X:Cx)(cs:List aa):Prop:=∀c∈cs,∃y,X.env.cells.lookup y=a3 c/\X.fn y=a7
theorem Own.obj{cs:List aa}(I:Inv X pins σ H s)(hc:Own X cs){c:aa}(h:c∈cs):∃o v,s.heap.get? c=a3 o/\o.data=.cell v/\H c=a6/\X.s₀.heap.objs.size<=c/\c≠X.env.locals:=by obtain⟨y,e,f⟩:=hc c h;obtain⟨v,o,e1,e2⟩:=I.cell y c e;exact⟨o,v,e1,e2,I.freeC y c e,I.ok.cab y c f e,I.cne y c e⟩
theorem U4{cs:List aa}(I:Inv X pins σ H s)(hc:Own X cs):j0 H (plus H s.heap cs):=λb o e=>by rw[Jp];exact e;intro z;obtain⟨_,_,_,_,n,_⟩:=hc.obj I z;rw[n]at e;cases e
theorem Inv.plus{cs:List aa}(I:Inv X pins σ H s)(hc:Own X cs) :
  Env0 X.prog X.w X.K X.mg X.base X.A X.stack s (plus H s.heap cs)/\∀(Q:VK)(u:a8)(s':af),CE X.stack X.prog X.w (L2.plus H s.heap cs) s (λv H'=>Cel H' cs->Q v (del H' cs)) u s'->EP X pins σ Q u s':=by
 have e0:=I.env0;have nb:∀{b:aa}{u:HO},H b=a3 u->b∉cs:=λ{b u} e z=>by obtain⟨_,_,_,_,n,_⟩:=hc.obj I z;rw[n]at e;cases e
 have nf:∀b∈frs X.stack,b∉cs:=λb hb z=>by
  obtain⟨o,v,e1,e2,n,hge,hl⟩:=hc.obj I z;rcases xr.mp (I.stkSub b hb)with y|y
  .exact hl y
  .obtain⟨_,o',ho,_⟩:=I.ok.funs.mem y;exact absurd (Xf (xu ho) hge) (pq _)
 have g:=U4 I hc;refine⟨⟨e0.frames,e0.mod,λb o e=>⟨(e0.bs b o e).1,?_⟩,e0.bsz,e0.funs,λb hb=>by rw[Jp (nf b hb)];exact e0.frf b hb,λb o e=>?_,e0.bare⟩,λQ u s' hq=>?_⟩
 .rw[Jp];exact(e0.bs b o e).2;intro z;obtain⟨_,_,_,_,_,hge,_⟩:=hc.obj I z;exact absurd (Xf (xu e) (Xg I.ok.bsz hge)) (pq _)
 .by_cases z:b∈cs
  .obtain⟨oc,v,e1,_⟩:=hc.obj I z;rw[M9 z e1]at e;cases e;exact⟨e1,_,e1⟩
  .rw[Jp z]at e;exact(I.hok b o e).stay (λ_ _ _ r=>r) (λ_ r=>g _ _ r) (λ_ _ r=>g _ _ r) λ_ _ _ r=>g _ _ r
 .obtain⟨v,H',os,bare,un,hok',rel,q⟩:=hq;have cel:∀c∈cs,∃o v,s.heap.get? c=a3 o/\o.data=.cell v/\H' c=a3 (.frz o (.own 0))/\s'.heap.get? c=a3 o:=λc hcs=>by obtain⟨o,v,e1,e2,_⟩:=hc.obj I hcs;have z:=un.frzs c o _ (M9 hcs e1);exact⟨o,v,e1,e2,z,(show jg X.prog X.w H' s'.heap c (.frz o (.own 0))from hok' _ _ z).1⟩
  have hC:Cel H' cs:=λc hcs=>let ⟨o,v,_,e2,e3,_⟩:=cel c hcs;⟨o,v,e3,e2⟩;have nb':∀{b:aa}{u:HO},H' b=a3 u->(∀oc v,u=.frz oc (.own 0)->oc.data≠.cell v)->del H' cs b=a3 u:=λ{b u} e n=>by rw[j5];exact e;intro z;obtain⟨o,v,_,e2,e3,_⟩:=cel b z;rw[e]at e3;cases e3;exact n _ _ rfl e2
  refine⟨v,del H' cs,I.call' (ch:=[]) os ⟨λb o e n hb hx=>?_,λb o e n hb hx=>?_,λb o e n hx=>?_,un.there,λb xs e=>?_,λb o u e=>?_,λb ps e=>?_⟩ (λb o e=>?_) bare (λb z=>absurd z (by simp)),rel,q hC⟩
  .by_cases z:b∈cs
   .obtain⟨o',v',e1,_,_,e4⟩:=cel b z;rw[e]at e1;cases e1;exact e4
   .exact un.keep b o e (by rw[Jp z];exact n) hb hx
  .exact un.slot b o e (by rw[Jp (nf b hb)];exact n) hb hx
  .by_cases z:b∈cs
   .exact qt z
   .rw[j5 z];exact un.free b o e (by rw[Jp z];exact n) hx
  .have z:=un.tups b xs (g _ _ e);exact nb' z λ_ _ y=>by cases y
  .have z:=un.frzs b o u (g _ _ e);rw[j5 (nb e)];exact z
  .obtain⟨m,z⟩:=un.tbls b ps (g _ _ e);exact⟨m,nb' z λ_ _ y=>by cases y⟩
  .obtain⟨n,e⟩:=of_del e;exact(hok' b o e).stay (λ_ _ _ r=>r) (λ_ r=>nb' r λ_ _ y=>by cases y) (λ_ _ r=>nb' r λ_ _ y=>by cases y) λ_ _ ⟨vs,d⟩ r=>nb' r λ_ _ y d'=>by cases y;rw[d]at d';cases d'
end
def Ze(X:Cx)(ρ:Rho):List (ah×aa)->List D->Prop
 |[],ds=>ds=[]
 |p::cl,ds=>∃(d:D)(r:List D)(i:Nat),ds=d::r/\X.N[i]?=a3 p.1/\X.env.scope.names.lookup p.1=a3 .cell/\X.env.cells.lookup p.1=a3 p.2/\X.fn p.1=a7/\ρ[i]?=a3 (.val d)/\Ze X ρ cl r
section
variable{X:Cx}{pins:k8q}{σ:St}{H H2:Hp}{s s2:af}{ρ:Rho}
theorem Ze.own:∀{cl:List (ah×aa)} {ds:List D},Ze X ρ cl ds->Own X (cl.map (·.2))
 |[],_,_=>λ_ h=>nomatch h
 |p::cl,_,⟨d,r,i,e,h1,h2,h3,h4,h5,l⟩=>λc hc=>(xr.mp hc).elim (λz=>⟨p.1,by rw[z];exact h3,h4⟩) (Ze.own l c)
theorem Ze.look:∀{cl:List (ah×aa)} {ds:List D},Ze X ρ cl ds->∀p∈cl,X.env.cells.lookup p.1=a3 p.2
 |p::cl,_,⟨d,r,i,e,h1,h2,h3,h4,h5,l⟩,q,hq=>(xr.mp hq).elim (λz=>z▸h3) (Ze.look l q)
theorem Ze.cells(I2:Inv X pins σ H2 s2)(R:Rep X.K ρ σ H){cs:List aa}(hg:j0 (del H (owns ρ)) (del (plus H2 s2.heap cs) cs)):∀{cl:List (ah×aa)} {ds:List D},Ze X ρ cl ds->(∀c∈cl.map (·.2),c∈cs) ->
  ∃vs,v6 (plus H2 s2.heap cs) (cl.map (·.2)) vs/\j4 X.K (del (plus H2 s2.heap cs) cs) ds vs
 |[],_,h,_=>by cases h;exact⟨[],rfl,rfl⟩
 |p::cl,_,⟨d,r,i,e,h1,h2,h3,h4,h5,l⟩,hm=>by
  subst e;obtain⟨vs,q1,q2⟩:=Ze.cells I2 R hg l λc hc=>hm c (km _ hc);obtain⟨v,hv,en⟩:=R.val i d h5;obtain⟨m,hn,hl⟩:=I2.loc;obtain⟨u,r,lk⟩:=hl i p.1 v h1 hv (.inr (.inl h2));rcases lk with ⟨k,_⟩|⟨_,c,e,o,ho,hd⟩
  .have k:X.env.scope.names.lookup p.1=a3 .local:=k;rw[h2]at k;cases k
  .rw[h3]at e;cases e;exact⟨v::vs,⟨v,vs,o,u,rfl,M9 (hm _ (xn ..)) ho,hd,r,q1⟩,v,vs,rfl,en.mono hg,q2⟩
theorem j1a{cl:List (ah×aa)}{ds:List D}(ok:X.Ok)(h:Ze X ρ cl ds)(nd:(cl.map (·.1)).Nodup):(cl.map (·.2)).Nodup:=by
 have lk:=h.look;clear h;induction cl with
 |nil=>exact dR
 |cons p r ih =>rw[X4]at nd ⊢;obtain⟨n1,n2⟩:=Xk.mp nd;refine Xk.mpr ⟨λz=>?_,ih n2 λq hq=>lk q (km _ hq)⟩;obtain⟨q,hq,e⟩:=X5.mp z;have:=ok.inj p.1 q.1 p.2 (lk p (xn ..)) (by rw[<-e];exact lk q (km _ hq));exact n1 (this▸eD hq)
theorem j5p{x:ah}{tx:Tx}{cl:List (ah×aa)}{ds:List D}{f c:aa}{oc:dn}{pm ctv:a8}(ht:Q3 X.K x=a3 tx)(hn:cl.map (·.1)=zf tx.2.2)(nd:(zf tx.2.2).Nodup)(hc:Ze X ρ cl ds)(I2:Inv X pins σ H2 s2)(R:Rep X.K ρ σ H)(g:j0 H H2)
  (hf:H2 f=a3 (.frz (W.kla_obj "<lambda>" (jq x) tx.1 tx.2.1 tx.2.2 cl pm c ctv) (.own 0))) (ho:H2 c=a3 (.frz oc (.own 0))) (hq:O1 oc (jq x)):Enc X.K (plus H2 s2.heap (cl.map (·.2))) (.fn x ds) (.ref f):=by
 have pg:=U4 I2 hc.own;have hg:j0 (del H (owns ρ)) (del (plus H2 s2.heap (cl.map (·.2))) (cl.map (·.2))):=λb o e=>by
  have e2:=g _ _ (of_del e).2;have nb:b∉cl.map (·.2):=λz=>by obtain⟨_,_,_,_,n,_⟩:=hc.own.obj I2 z;rw[n]at e2;cases e2
  rw[j5 nb,Jp nb];exact e2
 obtain⟨vs,q1,q2⟩:=hc.cells I2 R hg λ_ z=>z;exact⟨f,c,tx,cl,vs,rfl,⟨ht,⟨pm,ctv,pg _ _ hf⟩,⟨oc,pg _ _ ho,hq⟩,hn,j1a I2.ok hc (by rw[hn];exact nd),q1⟩,q2⟩
end
section
variable{X:Cx}{ρ:Rho}{P:Po}{x:ah}{params:d7}{body:aj}{scope:aY}{cl:List (ah×aa)}{ds:List D}{pos p1 p2:aK}
theorem DS.retLam(M:LMk X x)(hdef:fA params X.env=([],[]))(hcl:dk scope X.env=pure cl)(ht:Q3 X.K x=a3 (params,body,scope))(hn:cl.map (·.1)=zf scope)(nd:(zf scope).Nodup)(hc:Ze X ρ cl ds)(h:P.rt (.val (.fn x ds))) :
  DS X ρ (.Return (a3 (.Lambda params body scope p1)) pos) P:=λσ H E R q pins s I=>by
 refine kn (thn (j4v M hdef hcl pins s σ H (λv H2=>∃(f c:aa)(oc:dn)(pm ctv:a8),v=.ref f/\j0 H H2/\H2 f=a3 (.frz (W.kla_obj "<lambda>" (jq x) params body scope cl pm c ctv) (.own 0))/\H2 c=a3 (.frz oc (.own 0))/\O1 oc (jq x)) I
  ⟨R.tb,λf c oc pm ctv H2 g _ h1 h2 h3=>⟨f,c,oc,pm,ctv,rfl,g,h1,h2,h3⟩⟩) λu s2 ⟨v,H2,I2,r,f,c,oc,pm,ctv,ev,g,h1,h2,h3⟩=>?_)
 subst ev;refine⟨_,σ,H2,plus H2 s2.heap (cl.map (·.2)),I2,r,λb=>?_,q.rt _ _ _ h ⟨λb o e=>U4 I2 hc.own _ _ (g _ _ (of_del e).2),j5p (tx:=(params,body,scope)) ht hn nd hc I2 R g h1 h2 h3⟩⟩;by_cases z:b∈cl.map (·.2)
 .obtain⟨o,v,e1,e2,_⟩:=hc.own.obj I2 z;obtain⟨y,e,fy⟩:=hc.own b z;exact .inr ⟨y,o,v,e,fy,M9 z e1,e1,e2⟩
 .exact .inl (Jp z)
theorem DT.callL{S:List D->D->Prop}{g:ah}{e1 e2:aj}{d1 d2 d:D}(c:Cal X g (spP X.K S))(M:LMk X x)(hdef:fA params X.env=([],[]))(hcl:dk scope X.env=pure cl)(ht:Q3 X.K x=a3 (params,body,scope))(hn:cl.map (·.1)=zf scope)(nd:(zf scope).Nodup)(hc:Ze X ρ cl ds)
  (h1:DT X ρ e1 d1) (h2:DT X ρ e2 d2) (nf:noFn d=a7) (hS:S [d1,d2,.fn x ds] d) (hg:Gl X g) (hdb:(g==k8s)=a4)
  (hs1:a9 [e1,e2,.Lambda params body scope p1] X.env=(a4,ay e1 X.env)::a9 [e2,.Lambda params body scope p1] X.env) (hs2:a9 [e2,.Lambda params body scope p1] X.env=(a4,ay e2 X.env)::a9 [.Lambda params body scope p1] X.env)
  (hs3:a9 [.Lambda params body scope p1] X.env=(a4,ay (.Lambda params body scope p1) X.env)::a9 [] X.env) (hpl:(aO pos (a9 [e2,.Lambda params body scope p1] X.env)).any (·.1)=a4) :
  DT X ρ (.Call (.Name g p2) [e1,e2,.Lambda params body scope p1] [] pos) d:=λσ H Q R q pins s I=>by
 obtain⟨k,f,fd,ps,F,hr,hm,hk,hb,_⟩:=c.ex;refine aH (Uv I hg hm ?_ hdb);refine W.callWith_K (h₀:=X.base) I.ok.mod.kin hk (thn ((jf peS (jf peS (jf (j4v M hdef hcl) q8 hs3) hs2) hs1) pos pins s σ H (λvs H2=>∃(v1 v2:V)(f c:aa)(oc:dn)(pm ctv:a8),vs=[v1,v2,.ref f]/\j0 H H2/\Enc X.K H2 d1 v1/\Enc X.K H2 d2 v2 /\
   H2 f=a3 (.frz (W.kla_obj "<lambda>" (jq x) params body scope cl pm c ctv) (.own 0))/\H2 c=a3 (.frz oc (.own 0))/\O1 oc (jq x)) I
  (h1 σ H _ R λv1 H1 g1 q1=>h2 σ H1 _ (R.grow g1) λv2 H2 g2 q2=>⟨R.tb.mono (g1.trans g2),λf c oc pm ctv H3 g3 _ z1 z2 z3=>⟨v1,v2,f,c,oc,pm,ctv,rfl,(g1.trans g2).trans g3,q1.mono (g2.trans g3),q2.mono g3,z1,z2,z3⟩⟩)) λus s2 ⟨vs,H2,I2,rv,v1,v2,fa,ca,oc,pm,ctv,ev,g,q1,q2,z1,z2,z3⟩=>⟨I2.kIn,?_⟩) hs1 hpl
 subst ev;have pg:=U4 I2 hc.own;have ef:=j5p (tx:=(params,body,scope)) ht hn nd hc I2 R g z1 z2 z3;obtain⟨e0,back⟩:=I2.plus hc.own;have sp:spP X.K S [v1,v2,.ref fa] (plus H2 s2.heap (cl.map (·.2))) (λv H'=>Cel H' (cl.map (·.2))->Q v (del H' (cl.map (·.2)))) E0 :=
  ⟨[],[d1,d2,.fn x ds],d,(R.tb.mono g).mono pg,(λa h=>nomatch h),by rw[Jk];exact⟨_,_,rfl,q1.mono pg,_,_,rfl,q2.mono pg,_,_,rfl,ef,rfl⟩,hS,λv H' g' en hC=>by
   rw[Jk]at en
   refine q v _ (λb o e=>?_) (en.noc hC nf)
   have e2:=g _ _ e
   have nb:b∉cl.map (·.2):=λz=>by obtain⟨_,_,_,_,n,_⟩:=hc.own.obj I2 z;rw[n]at e2;cases e2
   rw[j5 nb];exact g' _ _ (pg _ _ e2)⟩
 have hl:us.length=ps.length:=by rw[<-rv.length];exact F.len _ _ _ _ sp
 have hb':=hb s2 us I2.kIn (by rw[Xn];exact hl);rw[Xn]at hb';refine fq (bf (F.run X.A X.stack s2 _ ⟨us,[]⟩ us _ _ _ (hr.mono (Py _)) e0 hb' rv sp) λr s' hq=>?_);cases r with
 |error e=>exact(show False from hq).elim
 |ok fl =>
  cases fl with
  |ret u=>exact back Q u s' hq
  |next=>exact(show False from hq).elim
  |brk=>exact(show False from hq).elim
  |cont=>exact(show False from hq).elim
end
section
variable{X:Cx}{ρ:Rho}{e a b c:aj}{es:List aj}{st:aX}{rest sa sb body:List aX}{P:Po}{d:D}{ds ds':List D}{pos p p1 p2 p3:aK}{x:ah}{i:Nat}
theorem Cal.comp{sp:Sp}{scope:aY}{C:aa}{s:af}{H:Hp}{fp:List aa}{pn:k8q}(h:Cal X x sp):Cal (cCx X scope C s H fp pn) x sp:=⟨h.ex⟩
end
theorem q9(lo:Int)(n:Nat):(upto lo n).length=n:=by unfold upto;rw[xf,Xm]
theorem Yc{lo:Int}{n j:Nat}{d:D}(h:(upto lo n)[j]?=a3 d):j<n/\d=.int (lo+j):=by
 unfold upto at h;rw[xx]at h;cases z:(ar n)[j]? with
 |none=>rw[z]at h;cases h
 |some k =>rw[z]at h;have hl:=(X7.mp z).1;rw[Xm]at hl;have:=Pb (n:=n) (i:=j) hl;rw[this]at z;cases z;cases h;exact⟨hl,rfl⟩
section
variable{X:Cx}{ρ:Rho}{a b tg it:aj}{ds ds':List D}{d:D}{i:Int}{pos:aK}
end
mutual
def jhk:D->Prop
 |.tup l=>l.length<=1000/\j09 l
 |.lst l=>l.length<=1000/\j09 l
 |.dct _ _=>False
 |.sct _=>False
 |.fn _ _=>False
 |_=>True
def j09:List D->Prop
 |[]=>True
 |d::ds=>jhk d/\j09 ds
end
theorem D.depL_of{n:Nat}:∀{ds:List D},(∀d∈ds,d.dep<=n)->D.depL ds<=n
 |[],_=>by simp only[D.depL];omega
 |x::xs,h=>by simp only[D.depL];have h1:=h x (xn ..);have h2:=D.depL_of (ds:=xs) λd m=>h d (km _ m);omega
end L2
namespace L2
noncomputable def j6(b:Int):Nat->Int->List Int
 |0,_=>[]
 |i+1,n=>(n/b^i%b)::j6 b i n
theorem qb(b:Int):∀(m:Nat)(n:Int),(j6 b m n).length=m
 |0,_=>rfl
 |m+1,n=>by rw[j6,xq,qb b m n]
theorem Qh(b:Int):∀{m k:Nat}{n:Int},k<m->(j6 b m n)[k]?=a3 (n/b^(m-k-1)%b)
 |m+1,0,n,_=>by rw[j6];rfl
 |m+1,k+1,n,h=>by
  rw[j6,dr,Qh b nofun];have:m-k-1=m+1-(k+1)-1:=by omega
  rw[this]
theorem Y4{b:Int}(hb:0<b):∀{m:Nat}{n v:Int},v∈j6 b m n->0<=v/\v<b
 |m+1,n,v,h=>by
  rw[j6]at h;rcases xr.mp h with e|h
  .subst e;exact⟨Te _ nofun,cb _ hb⟩
  .exact Y4 hb h
theorem Be(n b:Int)(hb:0<b)(i:Nat):n/b^i/b=n/b^(i+1):=by rw[Int.ediv_ediv_of_nonneg (hU (bJ hb)),gZ]
end L2
end
section
namespace L2
open PySem PySem.Spec PyProof.Rows
def CX1(P:au)(w:ax):CXT:=λouter H s E ev s'=>∃(e:aa)(C:a8)(H':Hp),ev=.ref e/\s'.os=s.os/\dz s'.gens/\Un (frs outer) [] H H' s.heap s'.heap/\HOk P w H' s'.heap /\
 Fl (λb=>∃o,s.heap.get? b=a3 o) H' s'.heap e C/\E C a6 H'
theorem jg.get{P:au}{w:ax}{H:Hp}{h:aA}{a:aa}{o:HO}(x:jg P w H h a o):∃u,h.get? a=a3 u:=by
 cases o with
 |lst xs=>obtain⟨_,_,_,_,e⟩:=x;exact⟨_,e⟩
 |tup xs=>obtain⟨_,_,_,⟨_,e,_⟩,_⟩:=x;exact⟨_,e⟩
 |dK kvs=>obtain⟨_,_,_,_,o,_,_,e,_⟩:=x;exact⟨_,e⟩
 |dT kvs=>obtain⟨_,_,_,_,o,_,_,e,_⟩:=x;exact⟨_,e⟩
 |dI xs ep=>obtain⟨_,_,_,o,_,e,_⟩:=x;exact⟨_,e⟩
 |set S n=>obtain⟨o,_,_,_,e,_⟩:=x;exact⟨_,e⟩
 |ins C dx fs=>obtain⟨_,_,_,e,_⟩:=x;exact⟨_,e⟩
 |own y=>obtain⟨_,e⟩:=x;exact⟨_,e⟩
 |xd fs=>obtain⟨_,⟨_,_,_,e,_⟩,_⟩:=x;exact⟨_,e⟩
 |rng lo hi=>obtain⟨_,_,_,e⟩:=x;exact⟨_,e⟩
 |frz ob u=>obtain⟨e,_⟩:=x;exact⟨_,e⟩
 |tbl ps=>exact⟨_,(show h.get? a=a3 _ from x)⟩
 |cod q=>obtain⟨_,e,_⟩:=x;exact⟨_,e⟩
 |met f y=>exact⟨_,(show h.get? a=a3 _ from x)⟩
 |ext φ=>obtain⟨_,⟨_,e⟩,_⟩:=x;exact⟨_,e⟩
section
variable{X:Cx}{pins:k8q}{σ:St}{H:Hp}{s:af}
theorem Inv.old(I:Inv X pins σ H s){b:aa}(h:Old X pins b):∃o,s.heap.get? b=a3 o:=by
 rcases h with ⟨o,q,n⟩|⟨p,hp,rfl⟩|rfl|⟨x,e⟩
 .exact I.base.there b o q n
 .exact⟨_,(I.pin p hp).1⟩
 .obtain⟨m,⟨o,_,_,e,_⟩,_⟩:=I.loc;exact⟨o,e⟩
 .obtain⟨v,o,e,_⟩:=I.cell x b e;exact⟨o,e⟩
end
section
variable{P:au}{w:ax}{K:k8o}{mg:k8r}{base:aA}{N ps:List ah}{qual:ah}{scope:aY}{f:aa}{cd:a8}{A:az}{outer:List dy}{s s':af}{H H':Hp}{E:XK}{σ:St}{pins:k8q}{e:aa}{C:a8}
theorem j20{as:List aa}{h':aA}{a0:a8}(I:Inv (v9 (CX1 P w) P w K mg base N qual scope f cd A outer s H E) pins σ H' s')(F:Fl (Old (v9 (CX1 P w) P w K mg base N qual scope f cd A outer s H E) pins) H' s'.heap e C)
  (hE:E C a6 H') (ha:∀b,b∈as↔b∈frs (bo qual scope s.heap.objs.size f cd::outer)\/(¬(∃o,s.heap.get? b=a3 o)/\H' b=a6/\b∈as)) (hfa:∀b∈frs (bo qual scope s.heap.objs.size f cd::outer),b∈as)
  (hL:Heap.LeftW (W.hideAll s'.heap as) (bo qual scope s.heap.objs.size f cd::outer) e C a0 s'.heap h'):CX1 P w outer H s E (.ref e) { s' with heap:=h' }:=by
 obtain⟨k1,k2,k3,k4⟩:=hL;have fr:∀b∈frs outer,∃o,s'.heap.get? b=a3 o/\∀vs,o.data≠.fields vs:=λb hb=>by obtain⟨o,ho,hd⟩:=(I.stack.mem (show b∈frs (bo qual scope s.heap.objs.size f cd::outer)from km _ hb)).2;exact⟨o,ho,hd⟩
 have sfree:∀b∈frs (bo qual scope s.heap.objs.size f cd::outer),H' b=a6:=I.stkFree;have keep:∀b o,s'.heap.get? b=a3 o->b∉as->h'.get? b=a3 o:=λb o q n=>k1 b o (W.hideAll_get _ q n);have nold:∀b o,s.heap.get? b=a3 o->b∉frs outer->b∉as:=λb o q n z=>by
  rcases(ha b).mp z with z|⟨z,_⟩
  .rcases xr.mp z with z|z
   .have:=xu q;rw[show b=s.heap.objs.size from z]at this;exact absurd this (pq _)
   .exact n z
  .exact z ⟨o,q⟩
 have ntrk:∀b u,H' b=a3 u->b∉as:=λb u q z=>by
  rcases(ha b).mp z with z|⟨_,z,_⟩
  .rw[sfree b z]at q;cases q
  .rw[z]at q;cases q
 have slot:∀b∈frs outer,∀o,s'.heap.get? b=a3 o->∃sl,h'.get? b=a3 { o with slots:=sl }:=λb hb o q=>by obtain⟨o',ho,hd⟩:=fr b hb;rw[q]at ho;cases ho;exact k4 b o q hd
 have un:=I.base;refine⟨e,C,H',rfl,I.os,I.bare,⟨λb o q n hb _=>keep b o (un.keep b o q n hb (λz=>nomatch z)) (nold b o q hb),λb o q n hb _=>?_,λb o q n _=>un.free b o q n (λz=>nomatch z),λb o q _=>?_,un.tups,un.frzs,un.tbls⟩,
  λa o q=>(I.hok a o q).stay (λb u hb r=>keep b u r ?_) (λ_ z=>z) (λ_ _ z=>z) λ_ _ _ z=>z,?_,hE⟩
 .obtain⟨sl,q'⟩:=un.slot b o q n hb (λz=>nomatch z);obtain⟨sl',q2⟩:=slot b hb _ q';exact⟨sl',q2⟩
 .obtain⟨o',q'⟩:=un.there b o q (λz=>nomatch z);by_cases hb:b∈frs outer
  .obtain⟨sl,q2⟩:=slot b hb _ q';exact⟨_,q2⟩
  .exact⟨_,keep b o' q' (nold b o q hb)⟩
 .rcases hb with rfl|hb
  .exact ntrk _ _ q
  .exact ntrk _ _ hb
 .obtain⟨oe,vs,T,oT,ts,he,⟨hc,h0⟩,hd,h1,hnT,hTe,hT,hdT,h3⟩:=k3;refine⟨λb ⟨o,q⟩=>F.new b (.inl ⟨o,q,λz=>nomatch z⟩),F.free,oe,vs,a0,he,hc,hd,h0,.inr ⟨T,oT,ts,h1,hTe,hT,hdT,h3,?_,λb ⟨o,q⟩ z=>?_⟩⟩
  .cases r:H' T with
   |none=>rfl
   |some u =>obtain⟨ob,q⟩:=(I.hok T u r).get;rw[W.hideAll_get _ q (ntrk T u r)]at hnT;cases hnT
  .subst z;obtain⟨o',q'⟩:=un.there b o q (λz=>nomatch z);by_cases hb:b∈frs outer
   .obtain⟨o2,q2,nf⟩:=fr b hb;obtain⟨sl,q3⟩:=slot b hb o2 q2;rw[q3]at hT;cases hT;exact nf ts hdT
   .rw[W.hideAll_get _ q' (nold b o q hb)]at hnT;cases hnT
theorem j5c(I:Inv (v9 (CX1 P w) P w K mg base N qual scope f cd A outer s H E) pins σ H' s')(F:Fl (Old (v9 (CX1 P w) P w K mg base N qual scope f cd A outer s H E) pins) H' s'.heap e C)(hE:E C a6 H') :
  (v9 (CX1 P w) P w K mg base N qual scope f cd A outer s H E).xe (.ref e) s':=by
 obtain⟨oe,vs,a0,he,hc,hd,h0,hT⟩:=F.obj;have hsN:∀b,(∃o,s.heap.get? b=a3 o)->Old (v9 (CX1 P w) P w K mg base N qual scope f cd A outer s H E) pins b:=λb ⟨o,q⟩=>.inl ⟨o,q,λz=>nomatch z⟩;have hin:∀(as:List aa),(∀b∈frs (bo qual scope s.heap.objs.size f cd::outer),b∈as)->∀env∈bo qual scope s.heap.objs.size f cd::outer,∀a,env.frame=a3 a->a∈as:=λas h env he a ha=>h a (Tc.mpr ⟨env,he,ha⟩);subst hc;rcases hT with h1|⟨T,oT,ts,h1,hTe,hT,hdT,h3,hTf,hTn⟩
 .let as:=e::frs (bo qual scope s.heap.objs.size f cd::outer)
  have hfa:∀b∈frs (bo qual scope s.heap.objs.size f cd::outer),b∈as:=λb hb=>km _ hb;refine wpAny_leaving_firstW (base:=W.hideAll s'.heap as) I.ok.frames (W.funFrames_hide I.stack (hin as hfa)) rfl he (λb o q=>W.of_hideAll _ q) (W.hideAll_none _ (xn ..)) hd h1 h0 λh' hL =>j20 I F hE (λb=>⟨λz=>?_,λz=>z.elim (hfa b) λz=>z.2.2⟩) hfa hL
  rcases xr.mp z with e1|z'
  .subst e1;exact .inr ⟨λq=>F.new _ (hsN _ q) rfl,F.free,z⟩
  .exact .inl z'
 .let as:=e::T::frs (bo qual scope s.heap.objs.size f cd::outer)
  have hfa:∀b∈frs (bo qual scope s.heap.objs.size f cd::outer),b∈as:=λb hb=>km _ (km _ hb);refine wpAny_leaving_nextW (base:=W.hideAll s'.heap as) (a0:=a0) I.ok.frames (W.funFrames_hide I.stack (hin as hfa)) rfl ⟨oe,vs,T,oT,ts,he,⟨rfl,h0⟩,hd,h1,W.hideAll_none _ (km _ (xn ..)),hTe,hT,hdT,h3⟩
   (λb o q=>W.of_hideAll _ q) (W.hideAll_none _ (xn ..)) λh' hL =>
   j20 I F hE (λb=>⟨λz=>?_,λz=>z.elim (hfa b) λz=>z.2.2⟩) hfa hL
  rcases xr.mp z with e1|z'
  .subst e1;exact .inr ⟨λq=>F.new _ (hsN _ q) rfl,F.free,z⟩
  .rcases xr.mp z' with e1|z2
   .subst e1;exact .inr ⟨λq=>hTn _ (hsN _ q) rfl,hTf,z⟩
   .exact .inl z2
end
def spX(K:k8o)(mg:k8r)(S:List D->ah->Prop):Sp:=λvs H _ E=>∃ds x C,TabOk K H/\j4 K H ds vs/\S ds x/\mg x=a3 C/\∀H',j0 H H'->E C a6 H'
section
variable{P:au}{w:ax}{K:k8o}{mg:k8r}{base:aA}{x qual:ah}{st:aX}{f:aa}{fd:aJ}{N ps:List ah}{k:Nat}
theorem j5o{S:List D->ah->Prop}(F:Fun K x qual st f fd)(Sc:FnScope N ps (jb st))(hl:∀ds y,S ds y->ds.length=ps.length)
  (hbody:∀(cdv:a8)(A:az)(outer:List dy)(s:af)(H:Hp)(E:XK),M3 K f cdv->Room k (A.deeper (bo qual (jb st) s.heap.objs.size f cdv))->∀ds y,S ds y ->
   DSs (v9 (CX1 P w) P w K mg base N qual (jb st) f cdv A outer s H E) (qp N ds) (jn st) { nx:=λ_=>False,rt:=λ_=>False,ex:=λz _=>z=y }):FnOk P w K mg base (CX1 P w) (k+1) f fd ps (spX K mg S):=by
 obtain⟨oc,od,dV,kV,doc,pm,an,cdv,ct,osl,rfl,lk,hcd⟩:=F.ex;refine j9r lk hcd Sc (λvs H Q E ⟨ds,y,C,tb,en,hS,_⟩=>by rw[en.length];exact hl ds y hS) λA outer s H vs Q E hr ⟨ds,y,C,tb,en,hS,hC,hE⟩=>⟨_,Oq,?_⟩
 have ho:=Vh N ds;refine hbody cdv A outer s H E ⟨oc,od,_,osl,lk,rfl⟩ hr ds y hS (start N vs) H _ (U3 tb en) ⟨λρ' σ' H' n R f=>n.elim,λ_ _ _ z=>z.elim,λ_ _ _ z=>z.elim,λr v H' n z=>n.elim,λz ρ' σ' H' n R g=>?_⟩;cases(show z=y from n);intro pins H2 s' e C' I g2 hC' Fe;cases hC.symm.trans hC';unfold Fr0 at g;rw[ho,Jk]at g;exact j5c I Fe (hE H2 ((g.trans jx).trans g2))
end
def DX(X:Cx)(ρ:Rho)(e:aj)(x:ah):Prop:=∀σ H Q,Rep X.K ρ σ H->Cm X σ H x->Qx X e σ H Q
def DXA(X:Cx)(ρ:Rho)(es:List aj)(x:ah):Prop:=∀σ H Q,Rep X.K ρ σ H->Cm X σ H x->Dg X es σ H Q
structure CalX(X:Cx)(x:ah)(sp:Sp):Prop where
 ex:∃(k:Nat)(f:aa)(fd:aJ)(ps:List ah),FnOk X.prog X.w X.K X.mg X.base (CX1 X.prog X.w) k f fd ps sp/\Room k X.A/\X.mg x=a3 (.ref f)/\W.keepIn X.K (.ref f)=a7/\Binds X.K fd ps []
section
variable{X:Cx}{ρ:Rho}{e:aj}{es:List aj}{f x:ah}{ds:List D}{p pos:aK}{C:a8}
theorem DX.call {S:List D->ah->Prop} (c:CalX X f (spX X.K X.mg S)) (ha:DTA X ρ (e::es) ds) (hS:S ds x) (hC:X.mg x=a3 C) (hg:Gl X f) (hdb:(f==k8s)=a4)
  (he:a9 (e::es) X.env=(a4,ay e X.env)::a9 es X.env) (hpl:(aO pos (a9 es X.env)).any (·.1)=a4):DX X ρ (.Call (.Name f p) (e::es) [] pos) x:=λσ H Q R k pins s I=>by
 obtain⟨n,fa,fd,ps,F,hr,hm,hk,hb⟩:=c.ex;refine aH (Uv I hg hm ?_ hdb);refine W.callWith_K (h₀:=X.base) I.ok.mod.kin hk (thn (ha σ H (λvs H1=>j0 H H1/\j4 X.K H1 ds vs) R (λvs H1 g e=>⟨g,e⟩) pos pins s I) λus s1 ⟨vs,H1,I1,r,g,en⟩=>⟨I1.kIn,?_⟩) he hpl;have sp:spX X.K X.mg S vs H1 (λ_ _=>False) (λC' _ H'=>C'=C/\j0 H1 H'):=⟨ds,x,C,R.tb.mono g,en,hS,hC,λH' g=>⟨rfl,g⟩⟩
 have hl:us.length=ps.length:=by rw[<-r.length];exact F.len _ _ _ _ sp
 have hb':=hb s1 us I1.kIn (by rw[Xn];exact hl);rw[Xn]at hb';refine fq (bf (F.run X.A X.stack s1 H1 ⟨us,[]⟩ us vs _ _ hr I1.env0 hb' r sp) λr s' hq=>?_);cases r with
 |error ev =>obtain⟨e,C',H',rfl,os,bare,un,hok,fl,rfl,g'⟩:=hq;have I':Inv X pins σ H' s':=I1.call' os un hok bare (λb z=>nomatch z);refine k pins H' s' e C' I' (g.trans g') hC ⟨λb hb=>fl.new b (I1.old hb),fl.free,?_⟩;obtain⟨oe,ws,a0,q1,q2,q3,q4,q5⟩:=fl.obj;refine⟨oe,ws,a0,q1,q2,q3,q4,q5.imp id ?_⟩;rintro⟨T,oT,ts,z1,z2,z3,z4,z5,z6,z7⟩;exact⟨T,oT,ts,z1,z2,z3,z4,z5,z6,λb hb=>z7 b (I1.old hb)⟩
 |ok fl =>
  cases fl with
  |ret u=>obtain⟨_,_,_,_,_,_,_,z⟩:=hq;exact z.elim
  |next=>exact b7 hq
  |brk=>exact b7 hq
  |cont=>exact b7 hq
end
section
variable{X:Cx}{ρ:Rho}{e:aj}{es:List aj}{x:ah}{d:D}{p pos np cpos:aK}{P:Po}{i:Int}{y:ah}{ys:List ah}
noncomputable def j9n(out:ah):List ah->ah
 |[]=>out
 |y::ys=>j9n (out++y) ys
def DPs(X:Cx)(ρ:Rho):List aj->List ah->Prop
 |[],[]=>True
 |e::es,y::ys=>DE X ρ e (.str y)/\DPs X ρ es ys
 |_,_=>False
end
structure FlT(N:aa->Prop)(H:Hp)(h:aA)(e:aa)(C fl:a8):Prop where
 new:∀b,N b->b≠e
 free:H e=a6
 obj:∃(oe:dn)(vs:Array a8)(a0:a8)(T:aa)(oT:dn)(ts:Array a8),h.get? e=a3 oe/\oe.cls=C/\oe.data=.fields vs/\vs[0]?=a3 a0/\vs[1]?=a3 (.ref T)/\T≠e/\h.get? T=a3 oT/\oT.data=.fields ts/\ts[3]?=a3 fl /\
  H T=a6/\∀b,N b->b≠T
section
variable{X:Cx}{pins:k8q}{σ:St}{H:Hp}{s:af}{e:aa}{C fl:a8}{M:jF}{A:az}{E:k8p}
end
end L2
end
section
namespace PySem.W
open PySem PySem.Spec PySem.Calls PyProof.Rows Builtin Builtin.ObjectAttr Builtin.Getset_descriptor
section
variable{prog:au}{w:ax}{A:az}{E:k8p}{h:aA}{g:Array eX}{d:Drawn}{t:Nat}{os:OsState}{K:lD}{e C:aa}
end
end PySem.W
end
section
namespace L2
open PySem PySem.Spec PyProof.Rows
noncomputable def Jj:List ah:=["WrongSize","NoAsk","NoWord","Twice","WrongAnswers","Unlike","NoPlace","NoText","WrongPrices","WrongWeights","NoPlan"]
noncomputable def bmV:List a8:=[.type "ValueError",.type "Exception",.type "BaseException",.type "object"]
noncomputable def jip(K:k8o)(C:aa):Bool:=W.findIn K (.ref C) "__getattribute__" == a3 (a3 (.builtin "BaseException.__getattribute__"))&&(W.findIn K (.ref C) "__getattr__" == a3 a6&&(W.subIn K (.ref C) (.type "BaseException")==a3 a7 &&
 (W.findIn K (.ref C) "__class__" == a3 (a3 (.builtin "object.__class__"))&&(W.mroIn K C (.type "object")==a3 a7&&((W.clsIn K C).isSome&&W.excIn K C bmV "ValueError.__new__")))))
noncomputable def Ky(K:k8o):Bool:=Jj.all λx=>match W.nsIn K aq x with
 |some (a3 (.ref C))=>jip K C&&(W.kitOne K (.ref C) (.type "ValueError")==a3 a7&&((match W.nsIn K aq "AskError" with
   |some (a3 a)=>W.exmOne K (.ref C) a==a3 a7
   |_=>a4)&&Jj.all λc=>match W.nsIn K aq c with
   |some (a3 v)=>W.kitOne K (.ref C) v==a3 (x==c)
   |_=>a7))
 |some (a3 _)=>a4
 |_=>a7
structure XcOk(K:k8o)(C:aa):Prop where
 ga:W.findIn K (.ref C) "__getattribute__" = a3 (a3 (.builtin "BaseException.__getattribute__"))
 gt:W.findIn K (.ref C) "__getattr__" = a3 a6
 sub:W.subIn K (.ref C) (.type "BaseException")=a3 a7
 cls:W.findIn K (.ref C) "__class__" = a3 (a3 (.builtin "object.__class__"))
 mro:W.mroIn K C (.type "object")=a3 a7
 is:(W.clsIn K C).isSome=a7
 exc:W.excIn K C bmV "ValueError.__new__" = a7
structure ExOne(K:k8o)(x:ah)(C:aa):Prop where
 ok:XcOk K C
 val:W.kitOne K (.ref C) (.type "ValueError")=a3 a7
 ask:∃a,W.nsIn K aq "AskError" = a3 (a3 a)/\W.exmOne K (.ref C) a=a3 a7
 one:∀c∈Jj,∀v,W.nsIn K aq c=a3 (a3 v)->W.kitOne K (.ref C) v=a3 (x==c)
section
variable{X:Cx}{pins pins':k8q}{σ:St}{H:Hp}{s:af}{xe:k8p}{e:aa}
noncomputable abbrev Cx.hnd(X:Cx)(e:aa):Cx:={ X with A:=X.A.mark (a3 (.ref e)),calm:=a4,xe:=λ_ _=>False }
end
section
variable{X:Cx}{ρ:Rho}{i:Nat}{a:aa}{o:dn}{x y c c1 c2:ah}{p p1 p2 p3 p4 p5 pos:aK}{k:Bool}
end
structure KindsP(P:au)(w:ax)(K:k8o)(mg:k8r)(base:aA)(f x:ah)(l:List D):Prop where
 ex:∃fa:aa,mg f=a3 (.ref fa)/\W.keepIn K (.ref fa)=a7/\∀(A:az)(outer:List dy)(s:af)(H:Hp)(e:aa)(o:dn),A.depth+4<eO->A.units+150<aI->Env0 P w K mg base A outer s H->TabOk K H ->
  H e=a3 (.frz o (.own e))->W.nsIn K aq x=a3 (a3 o.cls) ->
  cj (aw P w) A (.call (.ref fa) ⟨[.ref e],[]⟩) (CR CX0 outer P w H s (λv H'=>∃a xs,v=.ref a/\j0 H H'/\H a=a6/\H' a=a3 (.lst xs)/\j4 K (del H' [a]) l xs) E0) s
 nl:qy l=a7
abbrev Kinds(X:Cx)(f x:ah)(l:List D):Prop:=KindsP X.prog X.w X.K X.mg X.base f x l
section
variable{X:Cx}{ρ:Rho}{i j:Nat}{e:aa}{o:dn}{f x n k A:ah}{l:List D}{P:Po}{body:List aX}{p p1 p2 p3 p4 p5 pos hpos:aK}
end
section
variable{X:Cx}{ρ:Rho}{i j:Nat}{f n k:ah}{P:Po}{body:List aX}{p p1 p2 p3 p4 p5 pos hpos:aK}
end
section
variable{P:au}{w:ax}{K:k8o}{mg:k8r}{base:aA}{f:aa}{g x pn:ah}{st:aX}{fd:aJ}{N:List ah}{l:List D}
end
section
variable{X:Cx}
def jj9:V->Option Int->Option Int->Hp->VK->Prop:=λx lo hi H Q=>∃z,x=.str z/\z.length<=ak/\Q (.str (bD z lo hi)) H
theorem part_of{v:a8}{o:Option Int}(h:eW v o):∃l:Option (Int×gy),v=partValue l/\l.map (·.1)=o:=by
 cases h with
 |none=>exact⟨a6,rfl,rfl⟩
 |int i t=>exact⟨a3 (i,t),rfl,rfl⟩
theorem jcw:SlR X jj9:=by intro pins s σ H x v vl vu lo hi sl Q I rx hs pl pu h;obtain⟨z,ex,hz,q⟩:=h;subst ex;obtain⟨t,ev⟩:=rx;subst ev;obtain⟨l,el,ml⟩:=part_of pl;obtain⟨u,eu,mu⟩:=part_of pu;subst el eu ml mu;obtain⟨o,h1,h2,h3⟩:=hs;refine⟨"str",_,PySem.F.slot_str_getitem.lookup,gO s z t,wpAny_getItem_str_slice (l:=l) (u:=u) (st:=a6) ⟨o,h1,h2,h3⟩ rfl ?_⟩;exact post_val_or_str ⟨Xg (Txt.slice_le z _ _) hz,λt' k=>⟨.str _,H,I.tok k,⟨_,rfl⟩,q⟩⟩
theorem j1o:∀{ts:List ah}{us:List a8},Vals (ts.map V.str) us->∃l:List (ah×gy),us=strValues l/\l.map (·.1)=ts
 |[],_,r=>by cases r;exact⟨[],rfl,rfl⟩
 |t::ts,_,r=>by
  cases r with
  |cons a b =>obtain⟨k,e⟩:=a;obtain⟨l,e1,e2⟩:=j1o b;subst e e1 e2;exact⟨(t,k)::l,rfl,rfl⟩
theorem jb6:MtR X "str.join" (λx vs H Q=>∃(sep:ah)(l:aa)(ts:List ah),x=.str sep/\vs=[.ref l]/\SqL X.K H l (ts.map V.str)/\eV sep ts=a7/\Q (.str (dU sep ts)) H):=by rintro pins s σ H x vs v us Q I rx rv ⟨sep,l,ts,e,e',sq,hok,q⟩;subst e e';obtain⟨t,ev⟩:=rx;subst ev;obtain⟨u,eu,ru⟩:=rv.one;subst eu;cases ru;obtain⟨its,ri,pl,_⟩:=I.list sq;obtain⟨ps,e1,e2⟩:=j1o ri;subst e1 e2;unfold eV at hok;rw[iT]at hok;exact bj ir (gO _ _ _) F.entry_str_join (F.args_str_join_2 _ _) (meets_str_join_list sep t l ps hok) ⟨pl.isList,post_join ps ⟨joinFit_length hok,λt' k=>⟨.str _,H,I.tok k,⟨_,rfl⟩,q⟩⟩⟩
theorem j69 (hc:X.calm=a7):Q7 X (.builtin "sum") (λxs H Q=>∃(lst:Bool)(l:aa)(ns:List Int),xs=[.ref l]/\SqB X.K lst H l (ns.map V.int)/\Q (.int ns.sum) H):=by
 rintro pins s σ H xs us Q I r ⟨lst,l,ns,e,sq,q⟩;subst e;obtain⟨u,eu,ru⟩:=vals1 r;subst eu;cases ru;obtain⟨its,rv,pl,_⟩:=I.side sq;have hl:its.length=ns.length:=by rw[<-rv.length,xf]
 have val:∀i v,its.toArray[i]?=a3 v->∃t,v=b9 (ns.getD i 0) t:=by
  intro i v hv;have hi:i<its.length:=by obtain⟨h,_⟩:=Array.getElem?_eq_some_iff.mp hv;simpa using h
  have hi':i<ns.length:=by omega
  obtain⟨w1,hw,rw1⟩:=rv.get (x:=.int (ns.getD i 0)) (i:=i) (by rw[xx,kh hi',kj,kh hi'];rfl);have:its.toArray[i]?=a3 w1:=by simpa using hw
  rw[this]at hv;cases hv;exact rw1
 have tot:preSum (λi=>ns.getD i 0) its.toArray.size=ns.sum:=by rw[preSum_getD,Tn (by rw[X8];omega)]
 have fin:∀(o:dn)(s':af)(t':gy),Moved [s.heap.objs.size] (λa b=>b=a) { s with heap:=s.heap.push o } s'->EP X pins σ Q (.int (preSum (λi=>ns.getD i 0) its.toArray.size) t') s':=λo s' t' mv=>by obtain⟨hh,gg,dd,tt,oo⟩:=s';obtain⟨m1,m2,m3,m4,m5⟩:=mv;cases m2;cases m3;cases m4;rw[tot];refine⟨.int _,H,I.kept (t':=tt) λb o e=>m1 b o ?_ (xg _ e),⟨_,rfl⟩,q⟩;intro z;rw[xm.mp z]at e;exact pq _ (xu e)
 unfold qj at pl;cases lst with
 |true =>
  rw[if_pos rfl]at pl;have hlt:l<s.heap.objs.size:=by obtain⟨_,e,_⟩:=pl;exact xu e
  refine kq (bc pl ⟨s.heap.objs.size,[s.heap.objs.size,l],[s.heap.objs.size],_,its.toArray.size,_,_,λi=>ns.getD i 0,rfl,(Walks.list (A:=X.A.in1) (I.ok.hd hc) _ _ (Xa hlt) its.toArray).toS,⟨⟨_,X6 _ rfl,rfl,rfl⟩,pl.push _⟩,?_,val,λs' t' mv=>fin _ s' t' mv⟩);intro b hb;show b<(s.heap.push _).objs.size;rw[Tj];rcases xr.mp hb with z|z
  .rw[z];exact cE _
  .rw[xm.mp z];exact Tz hlt
 |false =>
  rw[if_neg xj]at pl;have hlt:l<s.heap.objs.size:=by obtain⟨_,e,_⟩:=pl;exact xu e
  refine kq (fm pl ⟨s.heap.objs.size,[s.heap.objs.size,l],[s.heap.objs.size],_,its.toArray.size,_,_,λi=>ns.getD i 0,rfl,(Walks.tuple (A:=X.A.in1) (I.ok.hd hc) _ _ (Xa hlt) its.toArray).toS,⟨⟨_,X6 _ rfl,rfl,rfl⟩,pl.push _⟩,?_,val,λs' t' mv=>fin _ s' t' mv⟩);intro b hb;show b<(s.heap.push _).objs.size;rw[Tj];rcases xr.mp hb with z|z
  .rw[z];exact cE _
  .rw[xm.mp z];exact Tz hlt
end
section
variable{X:Cx}{ρ:Rho}{a b e:aj}{ds:List D}{i j:Int}{pos p p1 p2:aK}{y z:ah}{lo hi:Option aj}{l u:Option Int}
theorem Rn{K:k8o}{H:Hp}:∀{ts:List ah}{xs:List V},j4 K H (ts.map D.str) xs->xs=ts.map V.str
 |[],_,h=>h
 |t::ts,_,⟨x,r,e,h,l⟩=>by subst e;cases(show x=.str t from h);rw[Rn l];rfl
theorem vh{K:k8o}{H:Hp}:∀{ts:List Int}{xs:List V},j4 K H (ts.map D.int) xs->xs=ts.map V.int
 |[],_,h=>h
 |t::ts,_,⟨x,r,e,h,l⟩=>by subst e;cases(show x=.int t from h);rw[vh l];rfl
theorem DE.lenS (ha:DT X ρ a (.str y)) (hy:y.length<=ak) (hm:X.mg "len" = a6) (hg:Gl X "len") (hs:a9 [a] X.env=[(a4,ay a X.env)]):DE X ρ (.Call (.Name "len" p) [a] [] pos) (.int y.length):=λσ H Q R q =>(J9 j0t hg hm dN (jf peS q8 hs) (by decide) (by decide) hs).to (ha σ H _ R λv H1 g1 e1=>⟨y,by rw[show v=.str y from e1],hy,q _ H1 g1 rfl⟩)
theorem DE.catS(ha:DT X ρ a (.str y))(hb:DT X ρ b (.str z))(hl:y.length+z.length<=ak):DE X ρ (.BinOp a .Add b pos) (.str (y++z)):=λσ H Q R q =>(U6 j3a peS peS).to (ha σ H _ R λv H1 g1 e1=>hb σ H1 _ (R.grow g1) λu H2 g2 e2=>⟨y,z,e1,e2,hl,q _ H2 (g1.trans g2) rfl⟩)
theorem DE.ixC{c:Nat}(ha:DT X ρ a (.str y))(hb:DT X ρ b (.int i))(hy:y.length<=ak)(h:L2.atI y.cps.toList i=a3 c)(hs:Yb b):DE X ρ (.Subscript a b pos) (.str ⟨#[c]⟩):=λσ H Q R q =>(Nb jek peS peS hs).to (ha σ H _ R λv H1 g1 e1=>hb σ H1 _ (R.grow g1) λu H2 g2 e2=>⟨y,i,c,e1,e2,hy,h,q _ H2 (g1.trans g2) rfl⟩)
theorem DE.sliceS(ha:DT X ρ a (.str y))(hl:DP X ρ lo l)(hu:DP X ρ hi u)(hy:y.length<=ak):DE X ρ (.Subscript a (.Slice lo hi a6 p2) pos) (.str (bD y l u)):=λσ H Q R q =>(Ou jcw peS poS poS).to (ha σ H _ R λv H1 g1 e1=>hl σ H1 _ (R.grow g1) λH2 g2=>hu σ H2 _ (R.grow (g1.trans g2)) λH3 g3=>⟨y,e1,hy,q _ H3 (g1.trans (g2.trans g3)) rfl⟩)
theorem DE.int1 {k:Bool} (ha:DT X ρ a (.bl k)) (hm:X.mg "int" = a6) (hg:Gl X "int") (hs:a9 [a] X.env=[(a4,ay a X.env)]):DE X ρ (.Call (.Name "int" p) [a] [] pos) (.int (if k then 1 else 0)):=λσ H Q R q =>(Wx j6f hg hm boot_int (jf peS q8 hs) (by decide) (by decide) hs).to (ha σ H _ R λv H1 g1 e1=>.inr ⟨k,by rw[show v=.bl k from e1],q _ H1 g1 rfl⟩)
theorem DE.sum (lst:Bool) {ns:List Int} (ha:DT X ρ a (D.seq lst (ns.map D.int))) (hm:X.mg "sum" = a6) (hc:X.calm=a7) (hg:Gl X "sum") (hs:a9 [a] X.env=[(a4,ay a X.env)]):DE X ρ (.Call (.Name "sum" p) [a] [] pos) (.int ns.sum):=λσ H Q R q =>
 (J9 (j69 hc) hg hm boot_sum (jf peS q8 hs) (by decide) (by decide) hs).to (ha σ H _ R λv H1 g1 e1=>by
  obtain⟨t,xs,ev,sq,en⟩:=Vb e1
  subst ev
  rw[vh en]at sq
  exact⟨lst,t,ns,rfl,sq,q _ H1 g1 rfl⟩)
theorem DE.join{sep:ah}{ts:List ah}{n:Nat}{p0:aK}(ha:DT X ρ a (.lst (ts.map D.str)))(hok:eV sep ts=a7)
  (hfew:((aO p2 (a9 [a] X.env)).all (λx=>!x.1)&&(bu p2 (aT [] X.env)).all (λx=>x.1.isSome)&&decide (([a]:List aj).length+([]:List aR).length+(if ([]:List aR).isEmpty then 0 else 1)<30))=a7)
  (hbase:aN (.Constant (.str sep) n p0) "join" X.env (ay (.Constant (.str sep) n p0) X.env)=ay (.Constant (.str sep) n p0) X.env)
  (hline:(p1.endLine==p2.line)=a7) (hs:a9 [a] X.env=(a4,ay a X.env)::a9 [] X.env):DE X ρ (.Call (.Attribute (.Constant (.str sep) n p0) "join" p1) [a] [] p2) (.str (dU sep ts)):=λσ H Q R q =>
 (W4 PySem.F.plainAttrs_str ir PySem.F.type_str_join jb6 j4t (jf peS q8 hs) hbase hfew hline hs rfl).to ⟨rfl,ha σ H _ R λv H1 g1 ⟨t,xs,e,sq,en⟩=>⟨sep,t,ts,rfl,by rw[e],by rw[Rn en]at sq;exact sq,hok,q _ H1 g1 rfl⟩⟩
end
section
variable{prog:au}{w:ax}{A:az}{lst:Bool}{j t:aa}{its:Array a8}
theorem j3m(hh:A.handled=a6)(hne:t≠j):Draws prog w A j [j,t] its.size (λi v=>its[i]?=a3 v) (λi h=>qw lst h j t i/\qj lst h t its) where
 live:=λ_ _ st=>by obtain⟨o,e,_⟩:=st.1.obj;exact⟨o,e⟩
 frame:=λ_ h h' st hk=>⟨st.1.stay λo e=>hk j (by simp) o e,by
  have q:=st.2
  unfold qj at q ⊢
  cases lst with
  |true=>rw[if_pos rfl]at q ⊢;exact q.at λo e=>hk t (by simp) o e
  |false=>rw[if_neg xj]at q ⊢;exact q.at λo e=>hk t (by simp) o e⟩
 item:=λi s Q E hi st hQ=>j4c st.1 st.2 (y:=its[i]) (by simp[hi]) λh' hit' hs'=>hQ _ h' s.toks (by simp[hi]) ⟨hit',st.2.ext hs'.extBut hne⟩ hs'
 done:=λs Q E st hE=>Ec hh st.1 st.2 (by simp) hE
theorem j5q{n:Nat}(hh:A.handled=a6)(hne:t≠j)(hn:its[n]?=a6):Draws prog w A j [j,t] n (λi v=>its[i]?=a3 v) (λi h=>i=n/\qw lst h j t i/\qj lst h t its) where
 live:=λ_ _ st=>by obtain⟨o,e,_⟩:=st.2.1.obj;exact⟨o,e⟩
 frame:=λ_ h h' st hk=>⟨st.1,st.2.1.stay λo e=>hk j (by simp) o e,by
  have q:=st.2.2
  unfold qj at q ⊢
  cases lst with
  |true=>rw[if_pos rfl]at q ⊢;exact q.at λo e=>hk t (by simp) o e
  |false=>rw[if_neg xj]at q ⊢;exact q.at λo e=>hk t (by simp) o e⟩
 item:=λi s Q E hi st hQ=>absurd st.1 (Xa hi)
 done:=λs Q E st hE=>Ec hh st.2.1 st.2.2 hn hE
end
noncomputable abbrev eh2(h:aA)(lst:Bool)(t:aa):aA:=(zh1 h lst t).push { cls:=.type "enumerate",data:=.fields #[.none,.bool a4,.ref h.objs.size,dA 0,.none,.none] }
theorem j8e {lst:Bool} (t:aa) (its:Array a8):jG (d4.«enumerate.__new__» ⟨[.type "enumerate",.ref t],[]⟩) (λ_ R s=>qj lst s.heap t its/\R (.ok (.ret (.ref (zh1 s.heap lst t).objs.size))) { s with heap:=eh2 s.heap lst t }) :=
 .of_wp λprog w A R s h=>by
  obtain⟨hp,g,d,tk,os⟩:=s;obtain⟨h1,h⟩:=h;have hsub:=sub_enumerate;have e1:qj lst (Shared.heap ⟨hp,g,d,tk,os⟩) t its:=h1;have ld:∃o:dn,hp.get? t=a3 o:=by
   unfold qj at e1;cases lst with
   |true=>rw[if_pos rfl]at e1;obtain⟨o,e,_⟩:=e1;exact⟨o,e⟩
   |false=>rw[if_neg xj]at e1;obtain⟨o,e,_⟩:=e1;exact⟨o,e⟩
  obtain⟨o,ho⟩:=ld
  wp_walk using bL ho
  refine wpAny_stack_any λstk=>?_;refine ai ?_;split
  .rename_i cl _ _ _ _ _;cases(cl==dv "enumerate")
   .wp_walk using bL ho,R9 e1
    exact⟨_,rfl,h⟩
   .wp_walk using bL ho,R9 e1
    exact⟨_,rfl,h⟩
  .wp_walk using bL ho,R9 e1
   exact⟨_,rfl,h⟩
noncomputable def Ite(K:k8o)(lst:Bool)(t:aa):It :=
 ⟨λi H=>∃xs x,SqB K lst H t xs/\xs[i]?=a3 x,
 λi H v H'=>∃p x,v=.ref p/\H p=a6/\H'=upd H p (.tup [.int (i:Int),x])/\∀xs,SqB K lst H t xs->xs[i]?=a3 x,
 λi H=>∃xs,SqB K lst H t xs/\xs.length<=i⟩
theorem j46{P:au}{w:ax}{K:k8o}{es:List aj}{n:Nat}{pos:aK}{lst:Bool}{z j t:aa}(hzj:z≠j)(hzt:z≠t)(htj:t≠j) :
  Turn P w K (.Tuple es n pos) (Ite K lst t) [z,j] z (λi h=>(∃old,IsEnum h z j (i:Nat) old)/\qw lst h j t i) where
 mem:=by simp
 obj:=λi h ⟨⟨old,hz⟩,h1⟩ c hc=>by
  simp at hc;rcases hc with rfl|rfl
  .exact⟨_,hz,λv e=>by cases e⟩
  .exact h1.obj
 keep:=λi h h' ⟨⟨old,hz⟩,h1⟩ k=>⟨⟨old,k z (by simp) _ hz⟩,h1.stay λo e=>k j (by simp) o e⟩
 item:=by
  rintro X hP hw hK hc i pins s σ H E I hf ⟨⟨old,hz⟩,h1⟩ ⟨xs,x,sx,hx⟩;subst hP hw hK;obtain⟨us,ru,qu,_⟩:=I.side sx;obtain⟨u,hu,rx⟩:=ru.get hx;have hlt:i<us.toArray.size:=by obtain⟨h,_⟩:=X7.mp hu;simpa using h
  refine wpAny_pyNext_enum_itemD (j3m (A:=X.A.in1) (I.ok.hd hc) htj) hz ⟨h1,qu⟩ hlt hzj (by simp[hzj,hzt]) λv h' tk hv ho st ht sz kp=>⟨_,rfl,?_⟩
  have ev:u=v:=by
   have:us.toArray[i]?=a3 u:=by simpa using hu
   rw[this]at hv;exact av hv
  subst ev;refine wpAny_letOwnedTupleGo_enum (s:={ s with heap:=h',toks:=tk+1 }) ho λh'' z'' sb=>?_
  replace sb:cg z h' h'':=sb
  have zlt:z<s.heap.objs.size:=xu hz;have kp':∀c o,c∉[z,j]->s.heap.get? c=a3 o->h''.get? c=a3 o:=λc o nc e=>by simp at nc;exact sb.extBut _ _ nc.1 (kp c o nc.1 nc.2 e)
  have pt:gR h'' s.heap.objs.size [.int i tk,u].toArray:=⟨_,sb.extBut _ _ (T3 zlt) ht,rfl,_,rfl⟩
  have I2:=(I.chgT hf kp' (xs:=[.int (i:Int),x]) (.cons ⟨tk,rfl⟩ (.cons rx .nil)) (by show 2<=ak;decide) pt (Zx.of (sb.extBut _ _ (T3 zlt) ht))).tok (tk+1);refine⟨.ref s.heap.objs.size,_,I2,rfl,⟨_,x,rfl,I.fresh,rfl,λws hw=>by rw[I.side_inj hw sx];exact hx⟩,⟨⟨u,?_⟩,st.1.ext sb.extBut (cz hzj)⟩,λc hc=>?_⟩
  .have e:((i+1:Nat):Int)=(i:Int)+1:=by push_cast;rfl
   rw[e];exact z''
  .obtain⟨o,e⟩:∃o,s.heap.get? c=a3 o:=by
    simp at hc;rcases hc with rfl|rfl
    .exact⟨_,hz⟩
    .obtain⟨o,e,_⟩:=h1.obj;exact⟨o,e⟩
   rw[ji (Xa (xu e))];exact(hf c hc).1
 done:=by
  rintro X hP hw hK hc i pins s σ H E I hf ⟨⟨old,hz⟩,h1⟩ ⟨xs,sx,hend⟩;subst hP hw hK;obtain⟨us,ru,qu,_⟩:=I.side sx;have e1:=ru.length;have hn:us.toArray[i]?=a6:=by simp;omega
  refine wpAny_pyNext_enum_endD (j5q (A:=X.A.in1) (I.ok.hd hc) htj hn) hz ⟨rfl,h1,qu⟩ λh' kp=>⟨rfl,I.chg hf λc o nc e=>?_⟩
  simp at nc;exact kp c o nc.2 e
 self:=λ_ _ _ _ _ ⟨⟨old,hz⟩,_⟩ h=>kg hz h
section
variable{X:Cx}{ρ:Rho}{a b:aj}{es:List aj}{n:Nat}{pos p q1 q2:aK}{ds ds':List D}{lst:Bool}
noncomputable def Jt(ds:List D):List D:=ds.zipIdx.map λp=>D.tup [.int (p.2:Int),p.1]
theorem Lp{i:Nat}:(Jt ds)[i]?=(ds[i]?).map λd=>D.tup [.int (i:Int),d]:=by unfold Jt;rw[xx,List.getElem?_zipIdx];cases ds[i]?<;>simp
theorem j5i{K:k8o}{F:Hp}{t:aa}{xs:List V}(s1:SqB K lst F t xs)(e1:j4 K F ds xs):Ul K F (Ite K lst t) (Jt ds):=λi H A g hA=>by
 have s1':SqB K lst H t xs:=jx.seqB (g.seqB s1);have hl:(Jt ds).length=ds.length:=by unfold Jt;rw[xf,bZ]
 refine⟨λh=>?_,λh=>⟨xs,s1',?_⟩,λv H' ⟨p,x,ev,np,eH,hx⟩=>?_⟩
 .rw[hl]at h;obtain⟨x,hx,_⟩:=e1.get (kh h);exact⟨xs,x,s1',hx⟩
 .rw[hl]at h;rw[e1.length];exact h
 .subst eH;refine⟨j7 np,λd hd=>?_⟩;rw[Lp]at hd;cases z:ds[i]? with
  |none=>rw[z]at hd;cases hd
  |some d1 =>rw[z]at hd;cases hd;obtain⟨x',hx',ex⟩:=e1.get z;have q1:=hx xs s1';rw[hx']at q1;have q1:=av q1;subst q1;have pA:p∉A:=λz=>hA p z np;have gg:j0 F (del (upd H p (.tup [.int (i:Int),x'])) A):=g.trans (je (j7 np));exact⟨p,[.int (i:Int),x'],ev,.inl (.inl (by rw[j5 pA];exact jc)),.int (i:Int),[x'],rfl,rfl,x',[],rfl,ex.mono gg,rfl⟩
theorem DI.enum (lst:Bool) (ha:DE X ρ a (D.seq lst ds)) (hm:X.mg "enumerate" = a6) (hg:Gl X "enumerate") (hs:a9 [a] X.env=[(a4,ay a X.env)]):DI X ρ (.Tuple es n q1) (.Call (.Name "enumerate" p) [a] [] pos) (Jt ds):=λσ H R r q pins s I=>by
 have args:Dg X [a] σ H (λvs H'=>∃v,vs=[v]/\j0 H H'/\Enc X.K (del H' (owns ρ)) (D.seq lst ds) v) :=
  (jf peS q8 hs).to (ha σ H _ r λv H1 g1 e1=>⟨v,rfl,g1,e1⟩)
 refine Call_ (Z2 I hg hm boot_enumerate (callWith_type1 (thn (args pos pins s I) λus s1 h1=>?_) hs rfl));obtain⟨vs,H1,I1,r1,v,ev,g1,e1⟩:=h1;subst ev;obtain⟨t,xs,et,sq,en⟩:=Vb e1;subst et;obtain⟨u1,eu,ru1⟩:=r1.one;subst eu;cases ru1;obtain⟨w1,rw1,qw1,_⟩:=I1.side (jx.seqB sq);refine callType_new F.called_enumerate (by decide) (F.typeCall_enumerate_1 _) (F.newCall_enumerate_1 _) (λobj=>iG obj _) F.entry_enumerate_new (j8e (lst:=lst) t w1.toArray) ⟨qw1,?_⟩;have z1:(zh1 s1.heap lst t).objs.size=s1.heap.objs.size+1:=Tj ..;have b2:(eh2 s1.heap lst t).get? (zh1 s1.heap lst t).objs.size=a3 _:=X6 _ rfl;have b1:(eh2 s1.heap lst t).get? s1.heap.objs.size=a3 _:=xg _ (X6 _ rfl);have kp:∀c o,s1.heap.get? c=a3 o->(eh2 s1.heap lst t).get? c=a3 o:=λc o e=>xg _ (xg _ e);show _/\_;rw[z1]at b2 ⊢;have I2:Inv X pins σ H1 { s1 with heap:=eh2 s1.heap lst t }:=I1.kept (t':=s1.toks) kp;have lt1:t<s1.heap.objs.size:=by
  unfold qj at qw1;cases lst with
  |true=>rw[if_pos rfl]at qw1;obtain⟨_,e,_⟩:=qw1;exact xu e
  |false=>rw[if_neg xj]at qw1;obtain⟨_,e,_⟩:=qw1;exact xu e
 have side:qw lst (eh2 s1.heap lst t) s1.heap.objs.size t 0:=by
  unfold qw;cases lst with
  |true=>rw[if_pos rfl];exact⟨_,b1,rfl,rfl⟩
  |false=>rw[if_neg xj];exact⟨_,b1,rfl,rfl⟩
 refine⟨⟨_,b2,rfl⟩,kg (s:={ s1 with heap:=eh2 s1.heap lst t }) b2 ?_⟩;refine⟨_,_,_,Ite X.K lst t,H1,rfl,I2,j46 (j:=s1.heap.objs.size) (Nat.succ_ne_self _) (T3 (Tz lt1)) (Xa lt1),⟨⟨_,b2⟩,side⟩,λc hc=>?_,q _ H1 g1 (j5i sq en)⟩;have hc':c=s1.heap.objs.size+1\/c=s1.heap.objs.size:=by simpa using hc
 have hge:s1.heap.objs.size<=c:=by rcases hc' with e|e<;>rw[e]<;>first|exact X3 _|exact Nat.le_add_right _ _
 obtain⟨f0,f1,f2,f3,f4,f5⟩:=I1.fpOk hge (I1.hok.fresh hge);exact⟨f0,f1,f2,f3,f4,f5⟩
end
section
variable{X:Cx}
theorem j7l:OpR X (aW .FloorDiv) (rI (λ_ j=>0<j/\j<18446744073709551616) λi j=>.int (i/j)):=opI λi j _ _ _ _ _ hc q=>by
 have e:i/j=i.fdiv j:=by rw[g6 _ nofun]
 refine floordiv_int nofun (by rw[<-e];exact q) (.inl (PyProof.noPylong_of_log2 ?_))
 have h2:(2:Nat)^64=18446744073709551616:=by decide
 have:=(Nat.log2_lt (n:=j.natAbs) (k:=64) nofun).mpr (by rw[h2];omega);omega
theorem j58 (hu:X.A.units+100<aI):MtR X "list.count" (λx vs H Q=>∃t xs ds d y,x=.ref t/\vs=[y]/\SqL X.K H t xs/\j4 X.K H ds xs/\Enc X.K H d y/\D.depL ds<=97/\d.dep<10000/\Q (.int (ds.countP λe=>deq e d)) H):=by
 rintro pins s σ H x vs v us Q I rx rv ⟨t,xs,ds,d,y,e,e',sq,l,en,hd,nd,q⟩;subst e e';cases rx;obtain⟨u,eu,ru⟩:=rv.one;subst eu;obtain⟨its,ri,⟨⟨cl,dd,da,sl⟩,n,h1,h2,h4,h3⟩,_⟩:=I.list sq;have h2:cl=.type "list":=h2;have h3:da=.seq its.toArray n:=h3;subst h2 h3;refine bj i3 ⟨_,h1,rfl⟩ F.entry_list_count (F.args_list_count_2 _ _) (SeqAt.list_countAt t its.toArray n dd sl u (eqW X H d)) ⟨h1,λy hy=>V4 (n:=97) I en ru nd (by show X.A.units+1+97<aI;omega) hd l ri y (by simpa using hy),?_⟩;have ev:(its.toArray.toList.countP (eqW X H d):Nat)=ds.countP λe=>deq e d:=by rw[eC];exact We I nofun l ri
 rw[ev];exact⟨.int _,H,I.tok _,⟨_,rfl⟩,q⟩
end
section
variable{X:Cx}{ρ:Rho}{a b e:aj}{d d':D}{ds:List D}{i j:Int}{pos p p1 p2:aK}{P:Po}
theorem DE.fdivB(ha:DT X ρ a (.int i))(hb:DT X ρ b (.int j))(h:0<j/\j<18446744073709551616):DE X ρ (.BinOp a .FloorDiv b pos) (.int (i/j)):=DE.arI (g:=λi j=>i/j) j7l ha hb h
theorem DE.countL (hu:X.A.units+100<aI) (ha:DT X ρ a (.lst ds)) (hb:DT X ρ b d) (hd:D.depL ds<=97) (nd:d.dep<10000) (hbase:aN a "count" X.env (ay a X.env)=ay a X.env)
  (hfew:((aO p2 (a9 [b] X.env)).all (λx=>!x.1)&&(bu p2 (aT [] X.env)).all (λx=>x.1.isSome)
   && decide (([b]:List aj).length+([]:List aR).length+(if ([]:List aR).isEmpty then 0 else 1)<30))=a7) (hline:(p1.endLine==p2.line)=a7)
  (hs:a9 [b] X.env=(a4,ay b X.env)::a9 [] X.env):DE X ρ (.Call (.Attribute a "count" p1) [b] [] p2) (.int (ds.countP λe=>deq e d)):=λσ H Q R q =>
 (W4 bU i3 PySem.F.type_list_count (j58 hu) peS (jf peS q8 hs) hbase hfew hline hs rfl).to (ha σ H _ R λv H1 g1 ⟨t,xs,e,sq,l⟩=>⟨by rw[e];exact .inl ⟨rfl,xs,sq⟩,hb σ H1 _ (R.grow g1) λu H2 g2 e2 =>
  ⟨t,xs,ds,d,u,e,rfl,g2.seq sq,l.mono g2,e2,hd,nd,q _ H2 (g1.trans g2) rfl⟩⟩)
end
noncomputable def ddS(acc:List ah)(v:ah):List ah:=if acc.any (· == v)=a7 then acc else acc++[v]
noncomputable def dd(ts:List ah):List ah:=ts.foldl ddS []
theorem jc1(ts:List ah)(v:ah):dd (ts++[v])=ddS (dd ts) v:=by simp[dd]
theorem Nx:∀(ts acc:List ah),(ts.foldl ddS acc).length<=acc.length+ts.length
 |[],acc=>by simp
 |v::ts,acc=>by
  have h:=Nx ts (ddS acc v);have h2:(ddS acc v).length<=acc.length+1:=by unfold ddS;split<;>simp
  rw[Pr,xq];omega
def Qz(P:au)(w:ax)(h:aA)(S:aa)(ts:List ah):Prop:=h.SetOf (d0 P w) S (λk=>(dd ts).any (· == k)) (dd ts).length
section
variable{P:au}{w:ax}{A:az}{I S:aa}{fp wr:List aa}{Gn:Array eX->Array eX->Prop}{Pv:Nat->a8->Prop}{St:Nat->af->Prop}{ts:List ah}
theorem Qz.stay{h h':aA}(x:Qz P w h S ts)(k:∀o,h.get? S=a3 o->h'.get? S=a3 o):Qz P w h' S ts:=by obtain⟨o,es,ep,t,ho,r⟩:=x;exact⟨o,es,ep,t,k o ho,r⟩
theorem Qz.more{h:aA}{v:ah}(x:h.SetOf (d0 P w) S (λk=>(dd ts).any (· == k) || decide (k=v)) (if (dd ts).any (· == v)=a7 then(dd ts).length else(dd ts).length+1)):Qz P w h S (ts++[v]):=by
 unfold Qz;rw[jc1];have e1:(λk=>(ddS (dd ts) v).any (· == k))=λk=>(dd ts).any (· == k) || decide (k=v):=by
  funext k
  unfold ddS;by_cases h1:(dd ts).any (· == v)=a7
  .rw[if_pos h1];by_cases h2:k=v
   .subst h2;rw[h1];rfl
   .rw[decide_eq_false h2,k6]
  .rw[if_neg h1,List.any_append];congr 1;by_cases h2:k=v
   .subst h2;simp
   .have:¬v=k:=λz=>h2 z.symm;simp[h2,this]
 have e2:(ddS (dd ts) v).length=if (dd ts).any (· == v)=a7 then(dd ts).length else(dd ts).length+1:=by unfold ddS;split<;>simp
 rw[e1,e2];exact x
theorem fill{R:fB->af->Prop}(W:WalksS P w A.in1 I fp wr Gn ts.length Pv St)(out:S∉fp)(hv:∀i v,Pv i v->∃x t,ts[i]?=a3 x/\v=.str x t)(room:ts.length+1<fV):∀(r i:Nat)(q:af),i+r=ts.length->St i q->Qz P w q.heap S (ts.take i) ->
  (∀q',Moved (S::wr) Gn q q'->Qz P w q'.heap S ts->R (.ok (.ret .none)) q')->cj (aw P w) A (.builtin "set.update.loop" ⟨[.ref S,.ref I],[]⟩) R q:=by
 have outw:S∉wr:=λz=>out (W.sub S z);have wider:∀b∈wr,b∈S::wr:=λb z=>km S z;intro r;induction r with
 |zero =>intro i q hi st fu fin;have e:i=ts.length:=hi;subst e;refine b0 d8 ?_;rw[Px bA _];refine a5 (m:=dB (.ref I)) (W.done q _ _ st λq' mv=>?_);refine ai (fin q' (mv.mono wider) ?_);rw[bM]at fu;exact fu.stay λo z=>mv.heap S o outw z
 |succ r ih =>
  intro i q hi st fu fin;have lt:i<ts.length:=by omega
  refine b0 d8 ?_;rw[Px bA _];refine a5 (m:=dB (.ref I)) (W.item i q _ _ lt st λv q' pv st' mv=>?_);obtain⟨x,t,hx,ev⟩:=hv i v pv;subst ev;have fu':Qz P w q'.heap S (ts.take i):=fu.stay λo z=>mv.heap S o outw z;refine a5 (m:=iK [bH x t] (setAdd S (.str x t))) (cK ?_);unfold setAdd;refine cK (a5 ((d0 P w).pyHash (k:=x) (strKind_is P w x t) ?_));have small:(dd (ts.take i)).length+1<fV:=by
   have:=Nx (ts.take i) [];have e:(dd (ts.take i)).length<=i:=by
    have:([]:List ah).length+(ts.take i).length<=i:=by rw[Xp,t8];omega
    exact Xg (Nx (ts.take i) []) this
   omega
  refine wpAny_setAddHashed_of (knd:=d0 P w) (strKind_is P w x t) rfl fu' small λh' sb full2=>?_;have next:Qz P w h' S (ts.take (i+1)):=by rw[su,hx];exact Qz.more full2
  refine ai ⟨cf bA _,ih (i+1) _ nofun (W.frame _ q' _ _ st' (Py _) λb hb o e=>?_) next λq2 mv2 full3=>?_⟩
  .have ne:b≠S:=λz=>out (z▸hb);rw[sb.2 b ne];exact e
  .refine fin q2 (Moved.trans W.gtrans ((mv.mono wider).then_heap (Py _) λb o hb e=>?_) mv2) full3;have ne:b≠S:=λz=>hb (by rw[z];exact xn ..);rw[sb.2 b ne];exact e
end
section
variable{P:au}{w:ax}{A:az}{E:k8p}{s:af}
noncomputable abbrev Jh(led:Bool):dn:={ cls:=.type "set",dict:=a6,data:=.set #[] 0 (.fresh 0 0 led) }
theorem j83{led:Bool}{l:aa}{its:Array a8}{ts:List ah}{X:PySem.Fin->af->Prop}{Y:k8p}(hh:A.handled=a6)(hl:s.heap.IsList l its)(hts:∀(i:Nat)(v:a8),its[i]?=a3 v->∃x t,ts[i]?=a3 x/\v=.str x t)(hn:its.size=ts.length)(room:ts.length+1<fV)
  (q:∀h' tk,Qz P w h' s.heap.objs.size ts->(∀b o,b<s.heap.objs.size->s.heap.get? b=a3 o->h'.get? b=a3 o)->X (.done (.ret .none)) { s with heap:=h',toks:=tk }) :
  ao (aw P w) A.in1 (d4.«set.__init__» ⟨[.ref s.heap.objs.size,.ref l],[]⟩) X Y { s with heap:=s.heap.push (Jh led) }:=by
 obtain⟨⟨oc,od,oda,os⟩,e1,e2,n,e3⟩:=hl;have e2:oc=.type "list":=e2;have e3:oda=.seq its n:=e3;subst e2 e3;have here:(s.heap.push (Jh led)).get? s.heap.objs.size=a3 (Jh led):=X6 _ rfl;have lst:(s.heap.push (Jh led)).get? l=a3 { cls:=.type "list",dict:=od,data:=.seq its n,slots:=os }:=xg _ e1;have ne1:=PySem.F.sub_list_set;have ne2:=PySem.F.sub_list_frozenset;have ne3:(dv "list" == dv "dict")=a4:=by decide
 have isl:(s.heap.push (Jh led)).IsList l its:=⟨_,lst,rfl,n,rfl⟩
 unfold d4.«set.__init__» noKeywords Builtin.Frozenset.updateFrom;generalize keep:gP=PI
 wp_walk
 subst keep;refine bc isl (a5 (lG ?_));have lt:l<s.heap.objs.size:=xu e1;have sz:(s.heap.push (Jh led)).objs.size=s.heap.objs.size+1:=Tj ..;have walk:=(Walks.list (prog:=P) (w:=w) (A:=A.in1.in1) (by simp[hh]) (s.heap.push (Jh led)).objs.size l (by rw[sz];exact Xa (Tz lt)) its).toS;rw[hn]at walk;refine fill (ts:=ts) (S:=s.heap.objs.size) walk (λz=>?_) hts room ts.length 0 { s with heap:=(s.heap.push (Jh led)).push { cls:=.type "list_iterator",data:=.fields #[.ref l,.int 0 0] } } nofun ⟨⟨_,X6 _ rfl,rfl,rfl⟩,isl.push _⟩ ?_ λq' mv full=>?_
 .rw[sz]at z;rcases xr.mp z with z|z
  .exact Xa (cE _) z
  .exact T3 lt (xm.mp z)
 .have z:Qz P w (s.heap.push (Jh led)) s.heap.objs.size []:=(setObjOf_fresh (knd:=d0 P w) led).setOf here (by unfold fV;omega);exact z.stay λo e=>xg _ e
 .obtain⟨h',g',d',tk',os'⟩:=q';obtain⟨m1,m2,m3,m4,m5⟩:=mv;cases m2;cases m3;cases m4;refine ai (ai (q h' tk' full λb o hb e=>m1 b o ?_ (xg _ (xg _ e))));intro z;rw[sz]at z;rcases xr.mp z with z|z
  .exact Xa hb z
  .exact Xa (Tz hb) (xm.mp z)
theorem j6a{l:aa}{its:Array a8}{ts:List ah}{Q:k8p}(hh:A.handled=a6)(hl:s.heap.IsList l its)(hts:∀(i:Nat)(v:a8),its[i]?=a3 v->∃x t,ts[i]?=a3 x/\v=.str x t)(hn:its.size=ts.length)(room:ts.length+1<fV)
  (q:∀h' tk,Qz P w h' s.heap.objs.size ts->(∀b o,b<s.heap.objs.size->s.heap.get? b=a3 o->h'.get? b=a3 o)->Q (.ref s.heap.objs.size) { s with heap:=h',toks:=tk }):ao (aw P w) A (call (.type "set") [.ref l]) Q E s:=by
 have cs:=PySem.F.called_set;obtain⟨c0,tl0,hm0⟩:=cs.mro;have m1:=cs.made;have m2:=cs.sub;have m3:=cs.notType;have m4:=cs.canCreate;have m5:=PySem.F.typeCall_set_1 (.ref l);refine fq (lz (?_:ao _ _ (callAny (.type "set") _) _ _ _));refine ai ⟨Code.quiet_builtin _ (by decide +kernel),b0 PySem.F.entry_type_call ?_⟩;rw[Around.under_plain (weight_type_call_type "set" [.ref l] []) rfl]
 repeat (any_goals (first|assumption|wp_step))
 refine bf (PySem.code_set_new_1 (.ref l) (E:=E) (Q₁:=λo q1=>∃led:Bool,o=.ref s.heap.objs.size/\q1={ s with heap:=s.heap.push (Jh led) }) λled=>⟨led,rfl,rfl⟩) λr q1 hr=>?_;cases r with
 |error e=>exact hr
 |ok fl =>
  cases fl with
  |ret o =>
   obtain⟨led,eo,eq1⟩:=hr;subst eo eq1;have ty:Shared.TypeIs { s with heap:=s.heap.push (Jh led) } (.ref s.heap.objs.size) "set":=⟨_,X6 _ rfl,rfl⟩
   have m6:=cs.init.lookup;have m7:=cs.init.bind (.ref s.heap.objs.size)
   repeat (any_goals (first|assumption|wp_step))
   refine bf (codeAny_call_builtin (R:=wants (λr q2=>r=.none/\∃h' tk,q2={ s with heap:=h',toks:=tk }/\Qz P w h' s.heap.objs.size ts/\∀b o,b<s.heap.objs.size->s.heap.get? b=a3 o->h'.get? b=a3 o) E) cs.init.plain PySem.F.entry_set_init (PySem.check_set_init_1 ty ?_)) λr2 q2 hr2=>?_
   .exact j83 (led:=led) (by simp[hh]) hl hts hn room λh' tk full old=>⟨rfl,h',tk,rfl,full,old⟩
   .cases r2 with
    |error e=>exact hr2
    |ok fl2 =>
     cases fl2 with
     |ret r3 =>
      obtain⟨e3,h',tk,e4,full,old⟩:=hr2;subst e3 e4
      repeat (any_goals (first|assumption|wp_step))
      exact q _ _ full old
     |_=>exact hr2.elim
  |_=>exact hr.elim
end
section
variable{X:Cx}{ρ:Rho}{a:aj}{p p1 p2 pos:aK}
theorem DE.lenSet {ts:List ah} (ha:DT X ρ a (.lst (ts.map D.str))) (hc:X.calm=a7) (room:ts.length+1<4096) (hm:X.mg "len" = a6) (hm2:X.mg "set" = a6) (hg:Gl X "len") (hg2:Gl X "set") (hs:a9 [a] X.env=[(a4,ay a X.env)])
  (hs2:a9 [.Call (.Name "set" p1) [a] [] p2] X.env=[(a4,ay (.Call (.Name "set" p1) [a] [] p2) X.env)]):DE X ρ (.Call (.Name "len" p) [.Call (.Name "set" p1) [a] [] p2] [] pos) (.int (dd ts).length):=λσ H Q R q pins s I=>by
 have inner:ao (aw X.prog X.w) X.A (ay (.Call (.Name "set" p1) [a] [] p2) X.env) (λu s2=>∃(S:aa)(H1:Hp),u=.ref S/\Inv X pins σ H1 s2/\j0 H H1/\Qz X.prog X.w s2.heap S ts) X.xe s:=by
  refine aH (Z2 I hg2 hm2 boot_set ?_);refine callWith_type1 (thn ((jf (es:=[]) peS q8 hs).to (σ:=σ) (H:=H) (Q:=λvs H1=>∃(l:aa)(xs:List V),vs=[.ref l]/\j0 H H1/\SqL X.K H1 l xs/\j4 X.K H1 (ts.map D.str) xs) (ha σ H _ R λv H1 g ⟨l,xs,e,sq,en⟩=>⟨l,xs,by rw[e],g,sq,en⟩) p2 pins s I) λus s1 ⟨vs,H1,I1,r,l,xs,ev,g,sq,en⟩=>?_) hs rfl;subst ev;obtain⟨u,eu,r1⟩:=vals1 r;subst eu;cases(show u=aC l from r1);obtain⟨its,rv,pl,_⟩:=I1.list sq;rw[Rn en]at rv;have hlen:its.toArray.size=ts.length:=by rw[X8,<-rv.length,xf]
  refine j6a (ts:=ts) (I1.ok.hd hc) pl.isList (λi v hv=>?_) hlen (by show ts.length+1<4096;exact room) λh' tk full old=>?_
  .have hi:i<ts.length:=by have:=(Array.getElem?_eq_some_iff.mp hv).1;omega
   obtain⟨w1,hw,t,ew⟩:=rv.get (x:=.str ts[i]) (i:=i) (by rw[xx,kh hi];rfl);have:its.toArray[i]?=a3 w1:=by simpa using hw
   rw[this]at hv;cases hv;exact⟨ts[i],t,kh hi,ew⟩
  .exact⟨_,H1,rfl,I1.kept (t':=tk) λb o e=>old b o (xu e) e,g,full⟩
 refine aH (Z2 I hg hm dN ?_);refine dw (by rw[hs2];rfl) (gM ?_);show ao _ _ (iH ((a4,ay _ X.env)::aO pos [])) _ _ s;refine eE (thn inner λu s2 h2=>eL ?_);obtain⟨S,H1,rfl,I2,g,⟨o,es,ep,t,ho,hex,hd,hel,hmem,hb,hf,hn⟩⟩:=h2;refine call_len_set ho hex hd hf ?_ ?_
 .have:es.size<4096:=hb;omega
 .rw[hn];exact⟨.int _,H1,I2.tok _,⟨_,rfl⟩,q _ H1 g rfl⟩
end
section
variable{prog:au}{w:ax}{A:az}{E:k8p}{s:af}{d it vw:aa}{od:dn}{es:Array fY}{ep i:Nat}{ok ov:a8}
end
noncomputable def jeo(ks:List (List Int))(ds:List D):List D:=(ks.zip ds).map λp=>D.tup [.tup (p.1.map D.int),p.2]
section
variable{X:Cx}{ρ:Rho}{a b:aj}{es:List aj}{n:Nat}{pos p p1 p2 q1:aK}{ks:List (List Int)}{ds:List D}{k:List Int}
theorem j0b{P:au}{w:ax}:∀{ks:List Int}{us:List a8},Vals (ks.map V.int) us->ItemsAre (f7 P w) ks us
 |[],_,r=>by rw[cM]at r;cases r;exact .nil
 |k::ks,_,r=>by
  rw[X4]at r;cases r with
  |cons h t =>
   obtain⟨tk,e⟩:=(show ∃t,_=b9 k t from h)
   subst e;exact .cons (by simp[f7,kc]) (j0b t)
theorem Dr{pins:k8q}{σ:St}{H:Hp}{s:af}{t:aa}(I:Inv X pins σ H s)(sq:SqT X.K H t (k.map V.int)):(f6 (f7 X.prog X.w)).is s.heap k t:=by obtain⟨its,rv,⟨o,e1,e2,m,e3⟩,_⟩:=I.tuple sq;exact⟨o,its.toArray,m,e1,e2,e3,by simpa using j0b rv⟩
theorem j2c{pins:k8q}{σ:St}{H:Hp}{s:af}{d:aa}{xs:List (List Int×aa×a8)}{ep:Nat}(I:Inv X pins σ H s)(hx:H d=a3 (.dI xs ep))(kt:∀x∈xs,SqT X.K H x.2.1 (x.1.map V.int)) :
  (d==dX)=a4/\xs.length<=ak/\s.heap.DictOfH (f6 (f7 X.prog X.w)) d xs:=by
 obtain⟨z1,z2,z3,od,en,h1,h2,h3,h4⟩:=(show jg X.prog X.w H s.heap d (.dI xs ep)from I.hok _ _ hx)
 exact⟨z2,z1,od,en,ep,h1,h2,h3,h4,λx hx=>Dr I (kt x hx),z3⟩
theorem j6l{xs:List (List Int×aa×a8)}:(jD xs k).isSome=(xs.map λx=>x.1).contains k:=by
 induction xs with
 |nil=>rfl
 |cons x xs ih =>
  unfold jD at ih ⊢;rw[Option.isSome_map]at ih ⊢;rw[jJ,X4,List.contains_cons];by_cases z:x.1=k
  .simp[z]
  .have z':(k==x.1)=a4:=by simp;exact λe=>z e.symm
   rw[decide_eq_false z,z',k8];exact ih
theorem any_range:∀bs:List Bool,(ar bs.length).any (λi=>(bs[i]?).getD a7)=bs.any id
 |[]=>rfl
 |b::bs=>by rw[xq,ck,de,List.any_map,de,<-any_range bs];rfl
theorem j1f (hc:X.calm=a7):Q7 X (.builtin "any") (λxs H Q=>∃(l:aa)(bs:List Bool),xs=[.ref l]/\SqL X.K H l (bs.map V.bl)/\Q (.bl (bs.any id)) H):=by
 intro pins s σ H xs us Q I r ⟨l,bs,e,sq,q⟩;subst e;obtain⟨u,eu,ru⟩:=vals1 r;subst eu;cases ru;obtain⟨its,rv,pl,_⟩:=I.list sq;have hlt:l<s.heap.objs.size:=by obtain⟨_,_,e,_⟩:=pl;exact xu e
 have hl:its.length=bs.length:=by rw[<-rv.length,xf]
 refine call_any_walk (bc pl.isList ⟨s.heap.objs.size,[s.heap.objs.size,l],[s.heap.objs.size],its.toArray.size,_,_,λi=>(bs[i]?).getD a7,rfl,Walks.list (A:=X.A.in1) (I.ok.hd hc) _ _ (Xa hlt) its.toArray,⟨⟨_,X6 _ rfl,rfl,rfl⟩,pl.isList.push _⟩,?_,λh' tk kp=>?_⟩)
 .intro i v s' Q' E' hv hq;have hi:i<its.length:=by have:=Array.getElem?_eq_some_iff.mp hv;obtain⟨h,_⟩:=this;simpa using h
  have hb:i<bs.length:=by omega
  obtain⟨w1,hw,rw1⟩:=rv.get (x:=.bl bs[i]) (i:=i) (by rw[xx,kh hb];rfl);have:its.toArray[i]?=a3 w1:=by simpa using hw
  rw[this]at hv;cases hv;cases rw1;simp only[kh hb,d9]at hq;exact aV hq
 .have ev:(ar its.toArray.size).any (λi=>(bs[i]?).getD a7)=bs.any id:=by rw[X8,hl];exact any_range bs
  rw[ev];refine⟨.bl _,H,I.kept (t':=tk) λb o e=>kp b o ?_ (xg _ e),rfl,q⟩;intro z;rw[xm.mp z]at e;exact pq _ (xu e)
theorem DE.any {bs:List Bool} (ha:DT X ρ a (.lst (bs.map D.bl))) (hm:X.mg "any" = a6) (hc:X.calm=a7) (hg:Gl X "any") (hs:a9 [a] X.env=[(a4,ay a X.env)]):DE X ρ (.Call (.Name "any" p) [a] [] pos) (.bl (bs.any id)):=λσ H Q R q =>(J9 (j1f hc) hg hm boot_any (jf peS q8 hs) (by decide) (by decide) hs).to (ha σ H _ R λv H1 g1 ⟨l,xs,e,sq,en⟩=>⟨l,bs,by rw[e],by rw[Bd en]at sq;exact sq,q _ H1 g1 rfl⟩)
end
def jgt:TE:=λ_ H Q=>∀p,H p=a6->Q (.ref p) (upd H p (.dI [] 0))
def jh1(K:k8o)(td ty tv:TE):TS:=λD σ H=>tv σ H λv H1=>td σ H1 λx H2=>ty σ H2 λy H3 =>
 ∃(a b:aa)(xs:List (List Int×aa×a8)) (ep:Nat) (k:List Int),x=.ref a/\H3 a=a3 (.dI xs ep)/\(∀x∈xs,SqT K H3 x.2.1 (x.1.map V.int))/\y=.ref b/\SqT K H3 b (k.map V.int) /\
  (xs.map λx=>x.1).contains k=a4/\xs.length<ak/\∀u ep',RelV v u->D.nx σ (upd H3 a (.dI (xs++[(k,b,u)]) ep'))
section
variable{X:Cx}{pos pos':aK}{o i value:aj}{td ty tv:TE}
theorem Inv.bigD{pins:k8q}{σ:St}{H:Hp}{s:af}(I:Inv X pins σ H s):dX<s.heap.objs.size:=by have h:aq<s.heap.objs.size:=(I.mod.glob.keeps I.bk).lt;exact P0 (by decide) h
theorem jb0:PE X (.Dict [] [] pos) jgt:=λpins s σ H Q I h =>
 wpAny_Dict_empty ⟨.ref s.heap.objs.size,_,I.laid (a:=s.heap.objs.size) (o:=.dI [] 0) (t':=s.toks) (λ_ _ q=>xg _ q) (X3 _)
  ⟨bI _,beq_eq_false_iff_ne.mpr (cz (Xa I.bigD)),dR,_,#[],X6 _ rfl,⟨rfl,rfl,rfl⟩,rfl,rfl⟩,rfl,h _ (I.hok.fresh (X3 _))⟩
theorem jau(hu:X.A.units+100<aI)(ho:PE X o td)(hi:PE X i ty)(hv:PE X value tv)(hs:aQ value (a3 (.Subscript o i pos')) pos.line X.env=pure a4) :
  PS X (.Assign [.Subscript o i pos'] value pos) (jh1 X.K td ty tv):=by
 intro pins s σ H D I h;refine wpAny_Assign_Subscript (thn (hv pins s σ H _ I h) λr s1 ⟨v,H1,I1,rv,q1⟩=>thn (ho pins s1 σ H1 _ I1 q1) λu s2 ⟨x,H2,I2,rx,q2⟩=>thn (hi pins s2 σ H2 _ I2 q2) λiv s3 ⟨y,H3,I3,ry,hq⟩=>?_) hs;obtain⟨a,b,xs,ep,k,ex,hx,kt,ey,sq,nk,hl,q⟩:=hq;subst ex ey;cases rx;cases ry;obtain⟨lo,hz,dd⟩:=j2c I3 hx kt;refine wpAny_setItem_heap (hsz:=hz) (jW nofun) (Dr I3 sq) dd λh' dd' sb=>?_;have na:jD xs k=a6:=by
  have:=j6l (xs:=xs) (k:=k);rw[nk]at this;cases z:jD xs k with
  |none=>rfl
  |some _=>rw[z]at this;cases this
 rw[storedH_new na]at dd';obtain⟨ob,es,ep',w1,w2,w3,w4,w5,w6⟩:=dd';refine⟨σ,_,I3.write (x:=a) (e:=a) (o:=.dI (xs++[(k,b,r)]) ep') (t':=s3.toks+(f6 (f7 X.prog X.w)).draws k) (by rw[hx];exact True.intro) (.inl rfl) (λc z nc e=>(sb.2 c nc).trans e) ⟨ob,w1⟩ ?_,q r ep' rv⟩;exact⟨by simp;omega,lo,w6,ob,es,w1,w2,w3,w4⟩
end
section
variable{X:Cx}{ρ:Rho}{it e:aj}{P:Po}{ds:List D}{x t y:Nat}{nx nt ny:ah}{n8:Nat}{p1 p2 p3 p4 p5 p6 p7 p8 p9 p10 p11 p12 p13 p14 p15 p16 p17 p18:aK}
theorem j9z{H:Hp}{a:aa}{o:HO}(h:H a=a3 o):H=upd (del H [a]) a o:=funext λb=>by
 by_cases z:b=a
 .subst z;rw[jc];exact h
 .rw[ji z,j5 (by simpa using z)]
theorem j0j{H:Hp}{a:aa}{o:HO}(h:H a=a6):del (upd H a o) [a]=H:=funext λb=>by
 by_cases z:b=a
 .subst z;rw[qt (by simp)];exact h.symm
 .rw[j5 (by simpa using z),ji z]
theorem j24{H F:Hp}{a:aa}{o:HO}(h:H a=a3 o):mrg [a] H F=upd F a o:=funext λb=>by
 by_cases z:b=a
 .subst z;rw[J2 (by simp),jc];exact h
 .rw[jj (by simpa using z),ji z]
end
noncomputable def zu:List (List Int)->List D->List Int->Option D
 |k'::ks,d::ds,k=>if k'=k then a3 d else zu ks ds k
 |_,_,_=>a6
theorem j2d{K:k8o}{H:Hp}{k:List Int}{d:D}:∀{xs:List (List Int×aa×a8)} {ds:List D} {vs:List V},Vals vs (xs.map λx=>x.2.2)->j4 K H ds vs->zu (xs.map λx=>x.1) ds k=a3 d->∃p v,jD xs k=a3 p/\RelV v p.2/\Enc K H d v
 |[],_,_,_,_,h=>by cases h
 |x::xs,[],_,_,_,h=>by cases h
 |x::xs,d'::ds,_,rv,⟨v,r,e,h1,l⟩,h=>by
  subst e;rw[X4]at rv h;unfold jD;rw[jJ];cases rv with
  |cons a b =>
   rw[zu]at h;by_cases z:x.1=k
   .rw[if_pos z]at h;cases h;rw[decide_eq_true z];exact⟨x.2,v,rfl,a,h1⟩
   .rw[if_neg z]at h;rw[decide_eq_false z];exact j2d b l h
section
variable{X:Cx}{ρ:Rho}{a b:aj}{d:D}{ds:List D}{ks:List (List Int)}{k:List Int}{pos p p1 p2 p3:aK}
theorem jhn(hu:X.A.units+100<aI):IxR X (λx y H Q=>∃(d:aa)(xs:List (List Int×aa×a8)) (ep:Nat) (t:aa) (k:List Int) (q:aa×a8) (v:V),x=.ref d/\y=.ref t/\H d=a3 (.dI xs ep)/\(∀x∈xs,SqT X.K H x.2.1 (x.1.map V.int))/\SqT X.K H t (k.map V.int)/\jD xs k=a3 q/\RelV v q.2/\Q v H):=by intro value slice pins s σ H x y v u Q I rx ry h hs;obtain⟨d,xs,ep,t,k,q,w,rfl,rfl,hx,kt,sq,hq,rq,hQ⟩:=h;cases rx;cases ry;obtain⟨lo,hz,dd⟩:=j2c I hx kt;exact lL dd.typeIs slot_dict_getitem.lookup (wpAny_getItem_heap (jW nofun) (Dr I sq) dd hq ⟨w,H,I.tok _,rq,hQ⟩) hs
theorem DE.dget(hu:X.A.units+100<aI)(ha:DE X ρ a (.dct ks ds))(hb:DT X ρ b (.tup (k.map D.int)))(h:zu ks ds k=a3 d)(hs:Yb b):DE X ρ (.Subscript a b pos) d:=λσ H Q R q =>
 (Nb (jhn hu) peS peS hs).to (ha σ H _ R λv H1 g1 ⟨c,xs,ep,vs,e,hx,ek,kt,rv,l⟩=>hb σ H1 _ (R.grow g1) λu H2 g2 ⟨t,ys,e2,sq,l2⟩=>by
  rw[vh l2]at sq
  subst ek
  obtain⟨q',v',z1,z2,z3⟩:=j2d rv (l.mono (je g2)) h
  exact⟨c,xs,ep,t,k,q',v',e,e2,g2 _ _ (of_del hx).2,λx hx=>g2.seqT (jx.seqT (kt x hx)),sq,z1,z2,q v' H2 (g1.trans g2) z3⟩)
end
section
variable{prog:au}{w:ax}{A:az}{E:k8p}{s:af}{d it vw:aa}{od:dn}{es:Array fY}{ep i:Nat}
theorem jc0 {Q:k8p} (ht:s.TypeIs (.ref d) "dict") (lo:(d==dX)=a4)
  (q:Q (.ref s.heap.objs.size) { s with heap:=s.heap.push { cls:=.type "dict_values",data:=.fields #[.ref d] } }):ao (aw prog w) A (call (.builtin "dict.values") [.ref d]) Q E s:=by
 refine bq gL ht F.entry_dict_values ?_ (F.args_dict_values_1 _);unfold d4.«dict.values»;refine a5 ?_;unfold Builtin.Dict.noArgs;refine a5 (wpAny_notOrdered_dict ht ?_);show ao _ _ (pure d) _ _ s;refine ai ?_;show ao _ _ (Builtin.Dict.showsAll d >>= _) _ _ s;unfold Builtin.Dict.showsAll;rw[if_neg (λz=>by rw[lo]at z;cases z)];exact a5 (ai (a5 (aG (ai ⟨_,rfl,q⟩))))
theorem jbz{Q:k8p}(hv:s.heap.IsValuesView vw d)(ho:s.heap.get? d=a3 od)(hd:od.data=.dict es ep)
  (q:Q (.ref s.heap.objs.size) { s with heap:=s.heap.push { cls:=.type "dict_valueiterator",data:=.fields #[.ref d,.int 0 0,.int es.size 0,.int ep 0] } }) :
  ao (aw prog w) A (gP (.ref vw)) Q E s:=by
 obtain⟨oz,z1,z2,z3⟩:=id hv;refine wpAny_pyIter_slot hv.typeIs i4 (bq i4 hv.typeIs F.entry_dict_values_iter ?_ (F.args_dict_values_iter_1 _));unfold d4.«dict_values.__iter__»;refine a5 (ai ?_);refine a5 ?_;unfold iW;refine a5 (cy z1 z3 (x:=.ref d) rfl (ai (a5 ?_)));unfold iV;refine a5 (fJ ho hd (a5 (gu ho hd ?_)));have own:bV "dict_valueiterator" = a4:=by decide
 simp only[own,ph,if_false];refine aG (ai ⟨_,rfl,"dict_valueiterator",_,⟨_,X6 _ rfl,rfl⟩,tu.lookup,?_⟩);simpa [dA]using q
theorem jby{e:fY}{Q:Option a8->af->Prop}(hit:s.heap.IsValIter it d i es.size ep)(ho:s.heap.get? d=a3 od)(hd:od.data=.dict es ep)(he:es[i]?=a3 e)
  (hQ:∀h',h'.IsValIter it d (i+1) es.size ep->cg it s.heap h'->Q (a3 e.val) { s with heap:=h' }):ao (aw prog w) A (dB (.ref it)) Q E s:=by
 obtain⟨o,hoI,hc,hdI⟩:=id hit;unfold dB;refine a5 (lO (br (name:=cN "__next__") hit.typeIs tu
  (bq tu hit.typeIs fD ?_ (fj _))))
 refine a5 (ai ?_);refine a5 ?_;refine a5 ?_
 first|refine a5 (bB hit.typeIs (ai ?_))|refine a5 (cc hit.typeIs (ai ?_))
 refine a5 (lH hoI hdI ?_);have hown:bV "dict_valueiterator" = a4:=by decide
 simp only[hown,ph,if_false];show ao _ _ (if (aC d==aP)=a7 then _ else _) _ _ s;rw[if_neg (λz=>by cases z)];refine a5 (ai ?_);refine a5 (fJ ho hd ?_);rw[if_neg (by simp)];refine a5 (ai ?_);refine a5 (gu ho hd ?_);rw[if_neg (by simp)];refine ai ?_;simp only[show ¬((i:Int)<0)from by omega,if_false,Xh,he];refine a5 ?_
 first|refine a5 (bB hit.typeIs (ai ?_))|refine a5 (cc hit.typeIs (ai ?_))
 refine a5 (eJ hit.typeIs ?_);show ao _ _ (setField (.ref it) 1 (dA ((i:Int)+1)) >>= _) _ _ s;refine a5 (eN hoI hdI (by simp) ?_);have hit':(s.heap.update it (gp (·.setIfInBounds 1 (dA ((i:Int)+1))))).IsValIter it d (i+1) es.size ep :=
  ⟨_,gE _ hoI (hW (cU hdI _)),(iU ..).trans hc,by rw[cU hdI];simp[dA]⟩
 refine a5 (cK ?_);refine a5 (eJ (s:={ s with heap:=s.heap.update it (gp (·.setIfInBounds 1 (dA ((i:Int)+1)))) }) hit'.typeIs ?_);refine a5 (eJ (s:={ s with heap:=s.heap.update it (gp (·.setIfInBounds 1 (dA ((i:Int)+1)))) }) hit'.typeIs ?_);show ao _ _ (pure e.val) _ _ _;exact ai (ai ⟨_,rfl,ai (hQ _ hit' (T8 ..))⟩)
theorem jfh{Q:Option a8->af->Prop}(hh:A.handled=a6)(hit:s.heap.IsValIter it d i es.size ep)(ho:s.heap.get? d=a3 od)(hd:od.data=.dict es ep)(hge:es.size<=i)
  (hQ:∀h',dP it s.heap h'->Q a6 { s with heap:=h' }):ao (aw prog w) A (dB (.ref it)) Q E s:=by
 obtain⟨o,hoI,hc,hdI⟩:=id hit;unfold dB;refine a5 (lO (br (name:=cN "__next__") hit.typeIs tu
  (bq tu hit.typeIs fD ?_ (fj _))))
 refine a5 (ai ?_);refine a5 ?_;refine a5 ?_
 first|refine a5 (bB hit.typeIs (ai ?_))|refine a5 (cc hit.typeIs (ai ?_))
 refine a5 (lH hoI hdI ?_);have hown:bV "dict_valueiterator" = a4:=by decide
 simp only[hown,ph,if_false];show ao _ _ (if (aC d==aP)=a7 then _ else _) _ _ s;rw[if_neg (λz=>by cases z)];refine a5 (ai ?_);refine a5 (fJ ho hd ?_);rw[if_neg (by simp)];refine a5 (ai ?_);refine a5 (gu ho hd ?_);rw[if_neg (by simp)];refine ai ?_;simp only[show ¬((i:Int)<0)from by omega,if_false,Xh,Array.getElem?_eq_none hge];refine a5 ?_
 first|refine a5 (bB hit.typeIs (ai ?_))|refine a5 (cc hit.typeIs (ai ?_))
 show ao _ _ (setField (.ref it) 0 .none >>= _) _ _ s;refine a5 (eN hoI hdI (by simp) ?_);show ao _ _ (lI (.type "StopIteration") [] >>= _) _ _ _;refine a5 ?_;simp only[lI,newTuple];refine a5 (aG ?_ (by size_fits));refine a5 (m:=eQ _ _) (gc (a:=aP) (by first|rfl|(simp only[eQ];rfl)) ?_);refine aG ?_ (by size_fits);simp only[raiseNew];refine a5 (lN ?_);rw[show A.in1.handled=a6 from hh];refine a5 (ai (wpAny_throw ?_));refine a5 (wpAny_isInstance (T:="StopIteration") (b:=a7) ⟨_,X6 _ rfl,rfl⟩ isSubtype_stop ?_);exact ai (hQ _ (((T8 ..).extBut.push _).push _))
theorem j8j(hh:A.handled=a6)(I:aa)(hne:d≠I)(hd:od.data=.dict es ep):Walks prog w A I [I,d] [I] es.size (λi v=>∃e,es[i]?=a3 e/\v=e.val) (λi h=>h.IsValIter I d i es.size ep/\h.get? d=a3 od) where
 sub:=λb hb=>by simp at hb;simp[hb]
 frame:=λ_ _ _ st hk=>⟨let ⟨o,ho,x⟩:=st.1;⟨o,hk I (by simp) o ho,x⟩,hk d (by simp) _ st.2⟩
 item:=λi s Q E hi st hQ=>by refine jby st.1 st.2 hd (bO hi) λh' hit' hs'=>?_;exact hQ _ h' s.toks ⟨_,bO hi,rfl⟩ ⟨hit',hs'.extBut _ _ hne st.2⟩ λb o hb e=>hs'.extBut b o (λh=>hb (by simp[h])) e
 done:=λs Q E st hQ=>jfh hh st.1 st.2 hd (X3 _) λh' he'=>hQ h' s.toks λb o hb e=>he' b o (λh=>hb (by simp[h])) e
 self:=λ_ _ _ _ st hQ=>wpAny_pyIter_valiter st.1 hQ
theorem jfg (hd:od.data=.dict es ep):fi prog w "dict_values" vw d es.size (λi v=>∃e,es[i]?=a3 e/\v=e.val) (λh=>h.IsValuesView vw d/\h.get? d=a3 od) where
 type:=λ_ hm=>hm.1.typeIs
 there:=λ_ hm=>⟨let ⟨_,ho,_⟩:=hm.1;xu ho,xu hm.2⟩
 keep:=λ_ _ hm hk=>⟨let ⟨o,ho,x⟩:=hm.1;⟨o,hk vw (.inl rfl) o ho,x⟩,hk d (.inr rfl) _ hm.2⟩
 notList:=by decide
 notTuple:=by decide
 hint:=λ_ _ _ _ hm hq=>W.kdl_hint_values hm.1.typeIs hq
 iter:=λ_ _ hh hm=>⟨_,_,(λ_ _ hq=>jbz hm.1 hm.2 hd hq),j8j hh _ (Xa (xu hm.2)) hd,⟨⟨_,X6 _ rfl,rfl,rfl⟩,xg _ hm.2⟩⟩
end
section
variable{prog:au}{w:ax}{A:az}{E:k8p}{s:af}{T:String}{r d:aa}{n:Nat}{P:Nat->a8->Prop}{OK:aA->Prop}
theorem j1e{Q:List a8->af->Prop}(K:fi prog w T r d n P OK)(hh:A.handled=a6)(hok:OK s.heap)(hn:n<=ak)
  (hQ:∀(h':aA)(tk:Nat)(acc:Array a8),(∀b o,s.heap.get? b=a3 o->h'.get? b=a3 o)->kr P acc n->Q acc.toList { s with heap:=h',toks:=tk }):ao (aw prog w) A (collect (.ref r)) Q E s:=by
 have hlt:=K.there _ hok;have hS:(s.heap.push { cls:=.type "list",data:=.seq ([]:List a8).toArray }).get? s.heap.objs.size=a3 { cls:=.type "list",data:=.seq ([]:List a8).toArray }:=X6 _ rfl;have key:∀R:fB->af->Prop,(∀(h':aA)(tk:Nat)(acc:Array a8)(c:Nat),(∀b o,s.heap.get? b=a3 o->h'.get? b=a3 o)->h'.get? s.heap.objs.size=a3 { cls:=.type "list",dict:=a6,data:=.seq acc c,slots:=#[] }->kr P acc n->R (.ok (.ret (.ref s.heap.objs.size))) { s with heap:=h',toks:=tk }) ->
   cj (aw prog w) A (.builtin "proto.collect" ⟨[.ref r],[]⟩) R s:=λR hR=>by
  refine b0 F.entry_proto_collect ?_;rw[Px F.plain_proto_collect _];show ao _ A.in1 (newList [] >>= λl=>iy (.builtin "list.__iadd__" ⟨[l,.ref r],[]⟩)) _ _ s;refine a5 (aG ?_);refine ai ⟨cf jN _,b0 F.entry_list_iadd ?_⟩;rw[Px jN _];show ao _ A.in1 (lq (.ref s.heap.objs.size) (.ref r) (.ref s.heap.objs.size)) _ _ _;exact W.kdl_extend (R:=R) (s:={ s with heap:=s.heap.push { cls:=.type "list",data:=.seq ([]:List a8).toArray } }) K hh (K.keep _ _ hok λb _ o e=>xg _ e) _ (T3 hlt.1) (T3 hlt.2) _ 0 hS
   (λh' tk acc c kp hS' hacc=>hR h' tk acc c (λb o e=>kp b o (Xa (xu e)) (xg _ e)) hS' hacc) hn
 unfold collect;refine a5 (lG (key _ λh' tk acc c kp hS' hacc=>?_));show ao _ A (load s.heap.objs.size >>= _) _ _ _;refine a5 (wpAny_load hS' ?_);exact ai (hQ h' tk acc kp hacc)
theorem Cg {Q:k8p} (K:fi prog w T r d n P OK) (hh:A.handled=a6) (hok:OK s.heap) (hsz:n<=ak) (hTt:(dv T==dv "tuple")=a4)
  (hQ:∀(h':aA)(tk:Nat)(acc:Array a8),(∀b o,s.heap.get? b=a3 o->h'.get? b=a3 o)->kr P acc n->Q (.ref h'.objs.size) { s with heap:=h'.push { cls:=.type "tuple",data:=.seq acc },toks:=tk }) :
  ao (aw prog w) A (call (.type "tuple") [.ref r]) Q E s:=by
 refine callType_codes (Q₁:=λobj s₁=>s₁.TypeIs obj "tuple"/\Q obj s₁) F.called_tuple (F.typeCall_tuple_1 _) F.entry_object_init ?_ λobj s₁ h₁ =>⟨h₁.1,iG obj _,object_init_meets F.called_tuple.init.lookup F.called_tuple.made (by decide) prog w A.in1 _ s₁ ⟨h₁.1,rfl,h₁.2⟩⟩
 refine lz ?_;show ao _ A.in1.in1 (do checkBuiltinCall "tuple.__new__" ⟨[.type "tuple",.ref r],[]⟩;iy (.builtin "tuple.__new__" ⟨[.type "tuple",.ref r],[]⟩)) _ _ s;refine a5 (gc (F.newCall_tuple_1 _) (ai ⟨cf jM _,b0 F.entry_tuple_new ?_⟩));rw[Px jM _];have hsub:=sub_tuple_self;have hinit:=init_tuple_lookup;have hmh:=madeHere_tuple;have hTI:=K.type s hok;have hn:=hsz
 wp_walk using wpAny_typeOf hTI,j1e (A:=A.in1.in1) K hh hok hn
 intro h' tk acc kp hacc;show ao _ _ (aU acc.toList.toArray >>= λv=>ret v) _ _ _;unfold aU;refine a5 (aG ?_ (by show acc.toList.toArray.size<=ak;simp only[Array.toArray_toList];rw[hacc.1];exact hsz));refine ai ?_;have e:acc.toList.toArray=acc:=by simp
 rw[e];exact⟨⟨_,X6 _ rfl,rfl⟩,hQ h' tk acc kp hacc⟩
end
section
variable{X:Cx}{ρ:Rho}{a:aj}{ds:List D}{ks:List (List Int)}{pos p p1 p2:aK}
theorem j0g{P:au}{w:ax}{en:Array fY}{xs:List (List Int×aa×a8)}{acc:Array a8}(h:en.toList=xs.map (jX (f6 (f7 P w))))(ha:kr (λi v=>∃e,en[i]?=a3 e/\v=e.val) acc en.size):acc=(xs.map λx=>x.2.2).toArray:=by
 obtain⟨h1,h2⟩:=ha;have hl:en.size=xs.length:=by have:=congrArg cF h;simpa using this
 apply Array.ext';refine Tw λi=>?_;rw[eC,xx];by_cases hi:i<acc.size
 .have hv:acc[i]?=a3 acc[i]:=bO hi;obtain⟨e,he,ev⟩:=h2 i _ hv;have he':en.toList[i]?=a3 e:=by simpa using he
  rw[h,xx]at he';rw[gC,hv,ev];obtain⟨x,hx,ex⟩:=Xv.mp he';rw[hx,<-ex];rfl
 .rw[Xx (by simpa using hi),Xx nofun];rfl
theorem DE.tupVals (ha:DE X ρ a (.dct ks ds)) (hc:X.calm=a7) (hm:X.mg "tuple" = a6) (hg:Gl X "tuple") (hbase:aN a "values" X.env (ay a X.env)=ay a X.env) (hline:(p1.endLine==p2.line)=a7)
  (hs2:a9 [.Call (.Attribute a "values" p1) [] [] p2] X.env=[(a4,ay (.Call (.Attribute a "values" p1) [] [] p2) X.env)]):DE X ρ (.Call (.Name "tuple" p) [.Call (.Attribute a "values" p1) [] [] p2] [] pos) (.tup ds):=λσ H Q R q pins s I=>by
 refine aH (Z2 I hg hm boot_tuple ?_);refine callWith_type1 ?_ hs2 rfl;rw[hs2];show ao _ _ (iH ((a4,ay _ X.env)::aO pos [])) _ _ s;refine eE ?_;refine wpAny_Call_method0_late hbase hline (thn (ha σ H (λv H'=>j0 H H'/\Enc X.K (del H' (owns ρ)) (.dct ks ds) v) R (λv H' g e=>⟨g,e⟩) pins s I) λv s1 ⟨x,H1,I1,r1,g1,en⟩=>?_);obtain⟨d,xs,ep,vs,ex,hx,ek,kt,rv,l⟩:=en;subst ex ek;cases r1;have hx1:H1 d=a3 (.dI xs ep):=(of_del hx).2;obtain⟨z1,z2,z3,od,en,h1,h2,h3,h4⟩:=(show jg X.prog X.w H1 s1.heap d (.dI xs ep)from I1.hok _ _ hx1)
 have hsz:en.size=xs.length:=by have:=congrArg cF h4;simpa using this
 refine⟨"dict","dict.values",PySem.F.plainAttrs_dict,gL,PySem.F.type_dict_values,⟨od,h1,h2.1⟩,λb e=>by cases e;exact⟨od,h1,h2.2.1⟩,dw rfl (PySem.evalArgs_none (jc0 ⟨od,h1,h2.1⟩ z2 ?_))⟩;refine eL ?_;have v1:(s1.heap.push { cls:=.type "dict_values",data:=.fields #[.ref d] }).get? s1.heap.objs.size=a3 { cls:=.type "dict_values",data:=.fields #[.ref d] }:=X6 _ rfl;have I2:=I1.kept (t':=s1.toks) (h':=s1.heap.push { cls:=.type "dict_values",data:=.fields #[.ref d] }) λb o e=>xg _ e;refine Cg (jfg (vw:=s1.heap.objs.size) (d:=d) (od:=od) h3) (I1.ok.hd hc) ⟨⟨_,v1,rfl,rfl⟩,xg _ h1⟩ (by rw[hsz];exact z1) (by decide) λh' tk acc kp hacc=>?_;have ea:=j0g h4 hacc;subst ea;have I3:Inv X pins σ H1 { s1 with heap:=h',toks:=tk }:=I2.kept (t':=tk) (h':=h') kp;have hf:H1 h'.objs.size=a6:=I3.hok.fresh (X3 _);have hl:=rv.length;have hxl:vs.length<=ak:=by rw[hl,xf];exact z1
 have I4:=I3.laid (a:=h'.objs.size) (o:=.tup vs) (t':=tk) (h':=h'.push { cls:=.type "tuple",data:=.seq (xs.map λx=>x.2.2).toArray }) (λb u q=>xg _ q) (X3 _) ⟨hxl,_,rv,IsTup.new _ _,Zx.new _ _⟩;have nt:h'.objs.size∉owns ρ:=(R.grow g1).fresh hf;exact⟨.ref h'.objs.size,_,I4,rfl,q _ _ (g1.trans (j7 hf)) ⟨h'.objs.size,vs,rfl,.inl (.inl (by rw[j5 nt];exact jc)),l.mono (je (j7 hf))⟩⟩
end
section
variable{X:Cx}{ρ:Rho}{it e1 e2:aj}{P:Po}{ds:List D}{x t y:Nat}{nx nt ny:ah}{p1 p2 p3 p4 p5 p6 p10 p11 p12 p14 p16 p17 p18:aK}
noncomputable abbrev j9j(nx nt ny:ah)(it e1 e2:aj)(p1 p2 p3 p4 p5 p6 p10 p11 p12 p14 p16 p17 p18:aK):List aX :=
 [.Assign [.Name nx p1] (.Dict [] [] p2) p3,.For (.Name nt p4) it [.Assign [.Name ny p5] e1 p6,.Assign [.Subscript (.Name nx p10) (.Name nt p11) p12] e2 p14] [] p16,.Return (a3 (.Name nx p17)) p18]
theorem vp:∀ns:List Int,qy (ns.map D.int)=a7
 |[]=>rfl
 |n::ns=>by rw[X4,qy,vp ns];rfl
theorem Eg{α:Type}:∀{l:List α}{i:Nat}{x:α},l[i]?=a3 x->l.set i x=l
 |[],_,_,_=>rfl
 |y::l,0,x,h=>by simp at h;subst h;rfl
 |y::l,i+1,x,h=>by rw[Pu,Eg (by simpa using h)]
theorem j8h{K:k8o}{H:Hp}{A:List aa}(hA:∀a∈A,Hd (H a)){ds:List D}{vs:List V}(n:qy ds=a7)(h:j4 K H ds vs):j4 K (del H A) ds vs:=j4.hide hA n h
theorem DSs.nmake(W:Nat->Rho->List (List Int)->List Int->Prop)(rx:x<ρ.length)(rt:t<ρ.length)(ry:y<ρ.length)(hxt:x≠t)(hxy:x≠y)(hty:t≠y)(hi:DI X (ρ.set x .un) (.Name nt p4) it ds)(h0:W 0 (ρ.set x .un) [] [])
  (hs:∀i d ρ' ks ns,ds[i]?=a3 d->W i ρ' ks ns->∃k d1 n,d=.tup (k.map D.int)/\DE X (ρ'.set t (.val d)) e1 d1/\DE X (((ρ'.set t (.val d)).set y (.val d1)).set x (.val (.dct ks (ns.map D.int)))) e2 (.int n) /\
   ks.contains k=a4/\ks.length<ak/\W (i+1) ((ρ'.set t (.val d)).set y (.val d1)) (ks++[k]) (ns++[n]))
  (hd:∀ρ' ks ns,W ds.length ρ' ks ns->P.rt (.val (.dct ks (ns.map D.int))))
  (hu:X.A.units+100<aI) (hc:X.calm=a7) (hp:fX (aw X.prog X.w) X.A X.env X.xe) (hN:X.N.Nodup) (hX:X.N[x]?=a3 nx) (hT:X.N[t]?=a3 nt) (hY:X.N[y]?=a3 ny)
  (lx:Loc X.env.scope nx) (lt:Loc X.env.scope nt) (ly:Loc X.env.scope ny) (fx:X.fn nx=a7\/X.env.scope.names.lookup nx=a3 .local) (ft:X.fn nt=a7\/X.env.scope.names.lookup nt=a3 .local) (fy:X.fn ny=a7\/X.env.scope.names.lookup ny=a3 .local)
  (dx:(nx==k8s)=a4) (cx:(nx==k8t)=a4) (dt:(nt==k8s)=a4) (ct:(nt==k8t)=a4)
  (s1:aQ (.Dict [] [] p2) (a3 (.Name nx p1)) p3.line X.env=pure a4) (s2:aQ e1 (a3 (.Name ny p5)) p6.line X.env=pure a4)
  (s3:aQ e2 (a3 (.Subscript (.Name nx p10) (.Name nt p11) p12)) p14.line X.env=pure a4) (hf:∀x,aD it X.env x=pure x) :
  DSs X ρ (j9j nx nt ny it e1 e2 p1 p2 p3 p4 p5 p6 p10 p11 p12 p14 p16 p17 p18) P:=λσ H E R q=>by
 have vis:∀{z:ah},Loc X.env.scope z->Vis X.env.scope z:=λh=>h.elim .inl λz=>.inr (.inl z);refine(W3 (Ut hN hX lx jb0 s1 fx) (W3 (j4n hp hc piS (Mg hN hT lt ft) (W3 (Ut hN hY ly peS s2 fy)
  (j1w (jau hu (Z1 hX (vis lx) dx cx) (Z1 hT (vis lt) dt ct) peS s3))) hf)
  (j1w (Wv (Z1 hX (vis lx) dx cx))))).to ?_
 intro a ha;have R0:Rep X.K (ρ.set x .un) (σ.set x (a3 (.ref a))) H:=R.set_un;have hxl:x<σ.length:=by rw[R.len];exact rx
 refine j35 (A:=[a]) (R':=λJ F=>j0 H F/\Ul X.K (del F (owns (ρ.set x .un))) J ds) (λb hb=>.inr ⟨[],0,by rw[xm.mp hb];exact jc⟩) (by rw[j0j ha];exact hi _ H _ R0 λJ F g ok=>⟨g,ok⟩) λJ F ⟨g,ok⟩ hn=>?_;rw[j24 jc];have fa:F a=a6:=hn a (by simp);refine⟨λi m σ' H'=>∃ρ' Fh xs ep ns,H'=upd Fh a (.dI xs ep)/\Fh a=a6/\Rep X.K ρ' σ' Fh/\j0 F Fh/\(∀b∈owns ρ',b∈owns (ρ.set x .un))/\ρ'.length=ρ.length/\σ'[x]?=a3 (a3 (.ref a)) /\
   (∀z∈xs,SqT X.K Fh z.2.1 (z.1.map V.int))/\Vals (ns.map V.int) (xs.map λz=>z.2.2)/\W i ρ' (xs.map λz=>z.1) ns/\m=ds.length-i/\i<=ds.length,
  ⟨ds.length,ρ.set x .un,F,[],0,[],rfl,fa,R0.grow g,j0.refl _,λb hb=>hb,by simp,Wt hxl,λz hz=>(nomatch hz),.nil,h0,rfl,bI _⟩,?_⟩
 rintro i m σ' H' ⟨ρ',Fh,xs,ep,ns,rfl,fha,R',gF,sub,hL,sx,kt,rv,w,rfl,hle⟩;have gU:j0 Fh (upd Fh a (.dI xs ep)):=j7 fha;obtain⟨go,stop,yld⟩:=ok i (upd Fh a (.dI xs ep)) (a::owns ρ') (λb o eb=>by
  obtain⟨nb,eb⟩:=of_del eb
  have nba:b≠a:=λz=>by rw[z,fa]at eb;cases eb
  rw[j5,ji nba]
  .exact gF b o eb
  .intro z
   rcases xr.mp z with z|z
   .exact nba z
   .exact nb (sub b z)) (λb hb=>by
  rcases xr.mp hb with z|z
  .rw[z,jc];simp
  .obtain⟨ys,eb⟩:=R'.owned b z
   rw[gU _ _ eb];simp)
 by_cases hlt:i<ds.length
 .obtain⟨k,d1,n,ed,hE,hE2,nk,hkl,w'⟩:=hs i ds[i] ρ' _ ns (kh hlt) w;refine .inr ⟨go hlt,λσ2 H2=>∃ρ2 Fh2 xs2 ep2 ns2,H2=upd Fh2 a (.dI xs2 ep2)/\Fh2 a=a6/\Rep X.K ρ2 σ2 Fh2/\j0 F Fh2/\(∀b∈owns ρ2,b∈owns (ρ.set x .un))/\ρ2.length=ρ.length/\σ2[x]?=a3 (a3 (.ref a)) /\
   (∀z∈xs2,SqT X.K Fh2 z.2.1 (z.1.map V.int))/\Vals (ns2.map V.int) (xs2.map λz=>z.2.2)/\W (i+1) ρ2 (xs2.map λz=>z.1) ns2,
   λσ2 H2 ⟨ρ2,Fh2,xs2,ep2,ns2,z1,z2,z3,z4,z5,z5',z6,z7,z8,z10⟩=>⟨ds.length-(i+1),by omega,ρ2,Fh2,xs2,ep2,ns2,z1,z2,z3,z4,z5,z5',z6,z7,z8,z10,rfl,hlt⟩,λv H2 yv=>?_⟩
  obtain⟨g2,en⟩:=yld v H2 yv;have en:=en _ (kh hlt);have h2a:H2 a=a3 (.dI xs ep):=g2 _ _ jc;have e2:H2=upd (del H2 [a]) a (.dI xs ep):=j9z h2a;have f2a:del H2 [a] a=a6:=qt (by simp);have gF2:j0 Fh (del H2 [a]):=λb o eb=>by
   have nb:b≠a:=λz=>by rw[z,fha]at eb;cases eb
   rw[j5 (by simpa using nb)];exact g2 b o (gU b o eb)
  have en2:Enc X.K (del (del H2 [a]) (owns ρ')) ds[i] v:=by rw[Zh];exact en
  generalize del H2 [a]=F2 at e2 f2a gF2 en2;subst e2;have R2:Rep X.K (ρ'.set t (.val ds[i])) (σ'.set t (a3 v)) F2:=(R'.grow gF2).set_val en2;have sub2:∀b∈owns (ρ'.set t (.val ds[i])),b∈owns (ρ.set x .un):=λb hb=>sub b ((jt rfl).subset hb);show Qx X e1 (σ'.set t (a3 v)) (upd F2 a (.dI xs ep)) _;refine j36 (A:=[a]) (Q':=λv F3=>j0 F2 F3/\Enc X.K (del F3 (owns (ρ'.set t (.val ds[i])))) d1 v) (λb hb=>.inr ⟨xs,ep,by rw[xm.mp hb];exact jc⟩) (by rw[j0j f2a];exact hE _ F2 _ R2 λv F3 g e=>⟨g,e⟩) λv3 F3 ⟨g3,en3⟩ hn3=>?_;rw[j24 jc];have f3a:F3 a=a6:=hn3 a (by simp);have R3:Rep X.K ((ρ'.set t (.val ds[i])).set y (.val d1)) ((σ'.set t (a3 v)).set y (a3 v3)) F3:=(R2.grow g3).set_val en3;have sub3:∀b∈owns ((ρ'.set t (.val ds[i])).set y (.val d1)),b∈owns (ρ.set x .un):=λb hb=>sub2 b ((jt rfl).subset hb);have sx3:((σ'.set t (a3 v)).set y (a3 v3))[x]?=a3 (a3 (.ref a)):=by rw[zc (cz hxy),zc (cz hxt)];exact sx
  have lenN:σ'.length=ρ.length:=by rw[R'.len,hL]
  have htl:t<σ'.length:=by rw[lenN];exact rt
  have hL3:((ρ'.set t (.val ds[i])).set y (.val d1)).length=ρ.length:=by rw[Xy,Xy,hL]
  have st3:((σ'.set t (a3 v)).set y (a3 v3))[t]?=a3 (a3 v):=by rw[zc (cz hty)];exact Wt htl
  have kt3:∀z∈xs,SqT X.K F3 z.2.1 (z.1.map V.int):=λz hz=>g3.seqT (gF2.seqT (kt z hz));rw[ed]at en2;obtain⟨tb,ys,ev,sq,li⟩:=en2;rw[vh li]at sq;subst ev;have sq3:SqT X.K F3 tb (k.map V.int):=g3.seqT (jx.seqT sq);clear R2;show Qx X e2 ((σ'.set t (a3 (V.ref tb))).set y (a3 v3)) (upd F3 a (.dI xs ep)) _;generalize (σ'.set t (a3 (V.ref tb))).set y (a3 v3)=σ3 at R3 sx3 st3 ⊢;generalize (ρ'.set t (.val ds[i])).set y (.val d1)=ρ3 at R3 sub3 hL3 hE2 w' ⊢;have g4:j0 F3 (upd F3 a (.dI xs ep)):=j7 f3a;have hO:∀b∈owns ρ3,Hd (upd F3 a (.dI xs ep) b):=λb hb=>.inl (let ⟨zs,e⟩:=R3.owned b hb;⟨zs,g4 _ _ e⟩);have na:a∉owns ρ3:=λz=>by obtain⟨zs,e⟩:=R3.owned a z;rw[f3a]at e;cases e
  have R4:Rep X.K (ρ3.set x (.val (.dct (xs.map λz=>z.1) (ns.map D.int)))) σ3 (upd F3 a (.dI xs ep)):=by
   have z:=(R3.grow g4).set_val (i:=x) (d:=.dct (xs.map λz=>z.1) (ns.map D.int)) (v:=.ref a) ⟨a,xs,ep,ns.map V.int,rfl,by rw[j5 na];exact jc,rfl,λz hz=>?_,rv,j8h hO (vp ns) (j4.ints ns)⟩
   .rw[Eg sx3]at z;exact z
   .have e:Enc X.K (upd F3 a (.dI xs ep)) (.tup (z.1.map D.int)) (.ref z.2.1):=⟨_,_,rfl,g4.seqT (kt3 z hz),j4.ints z.1⟩
    obtain⟨b,zs,e1,e2,e3⟩:=e.hide hO (by rw[Qo];exact vp z.1);cases e1;rw[vh e3]at e2;exact e2
  refine hE2 σ3 _ _ R4 λv4 H4 g5 en4=>?_;cases(show v4=.int n from en4);have h4a:H4 a=a3 (.dI xs ep):=g5 _ _ jc;have f4a:del H4 [a] a=a6:=qt (by simp);have gF4:j0 F3 (del H4 [a]):=λb o eb=>by
   have nb:b≠a:=λz=>by rw[z,f3a]at eb;cases eb
   rw[j5 (by simpa using nb)];exact g5 b o (g4 b o eb)
  have gU4:j0 (del H4 [a]) H4:=jx;refine⟨.ref a,sx3,.ref tb,st3,a,tb,xs,ep,k,rfl,h4a,λz hz=>gU4.seqT (gF4.seqT (kt3 z hz)),rfl,gU4.seqT (gF4.seqT sq3),nk,by rw[xf]at hkl;exact hkl,λu ep' ru=>?_⟩;refine⟨ρ3,del H4 [a],xs++[(k,tb,u)],ep',ns++[n],?_,f4a,R3.grow gF4,gF.trans (gF2.trans (g3.trans gF4)),sub3,hL3,sx3,λz hz=>?_,?_,by rw[Xq];exact w'⟩
  .funext b
   by_cases z:b=a
   .subst z;rw[jc,jc]
   .rw[ji z,ji z,j5 (by simpa using z)]
  .rcases Pj.mp hz with hz|hz
   .exact gF4.seqT (kt3 z hz)
   .rw[xm.mp hz];exact gF4.seqT sq3
  .rw[Xq,Xq];exact rv.append (.cons ru .nil)
 .have e:i=ds.length:=by omega
  subst e;refine .inl ⟨stop (X3 _),.ref a,sx,?_⟩;refine q.rt (.val (.dct _ (ns.map D.int))) (.ref a) _ (hd ρ' _ ns w) ⟨λb o eb=>gU b o (gF b o (g b o (of_del eb).2)),a,xs,ep,ns.map V.int,rfl,jc,rfl,λz hz=>gU.seqT (kt z hz),rv,j4.ints ns⟩
end
theorem Fq{M:jF}{A:az}{E:k8p}{s:af}{β:Type}{a b:Nat}(f:Nat->β->lJ (ForInStep β))(I:Nat->β->af->Prop)(Q:β->af->Prop)
  (turn:∀i c st,a<=i->i<b->I i c st->ao M A (f i c) (λr s'=>match r with|.yield c'=>I (i+1) c' s'|.done c'=>Q c' s') E st)
  (fin:∀c st,I (max a b) c st->Q c st) (c:β) (h:I a c s):ao M A (forIn [a:b] c f) Q E s:=by
 rw[Std.Legacy.Range.forIn_eq_forIn_range'];have hsz:([a:b]:Std.Legacy.Range).size=b-a:=by simp[Std.Legacy.Range.size]
 show ao M A (forIn (kQ a ([a:b]:Std.Legacy.Range).size 1) c f) Q E s;rw[hsz];refine fT f (λl c st=>∃i,a<=i/\i<=max a b/\l=kQ i (max a b-i) 1/\I i c st) Q ?_ ?_ _ c ⟨a,X3 _,by omega,by congr 1;omega,h⟩
 .rintro x rest c st ⟨i,hai,hib,hl,hI⟩;have hlt:i<max a b:=by
   rcases dD i (max a b)with h'|h'
   .exact h'
   .rw[show max a b-i=0 by omega]at hl;simp at hl
  obtain⟨n,hn⟩:∃n,max a b-i=n+1:=⟨max a b-i-1,by omega⟩
  rw[hn,iZ]at hl;obtain⟨rfl,rfl⟩:=List.cons.inj hl;refine bg (turn x c st hai nofun hI) (λr st' h'=>?_) λ_ _ h=>h;cases r with
  |done c'=>exact h'
  |yield c'=>exact⟨x+1,by omega,by omega,by congr 1;omega,h'⟩
 .rintro c st ⟨i,hai,hib,hl,hI⟩;have:i=max a b:=by
   rcases dD i (max a b)with h'|h'
   .obtain⟨n,hn⟩:∃n,max a b-i=n+1:=⟨max a b-i-1,by omega⟩
    rw[hn,iZ]at hl;cases hl
   .omega
  subst this;exact fin c st hI
theorem K9(l:aa)(items:Array a8)(n:Nat)(dd:Option aa)(sl:Array (Option a8))(x:a8)(e:a8->Bool)(k:Nat)(hk:k<items.size)(h0:∀(j:Nat)(h:j<items.size),j<k->e items[j]=a4)(h1:e items[k]=a7) :
  jG (d4.«tuple.index» ⟨[.ref l,x],[]⟩)
   (λA R s=>s.heap.get? l=a3 { cls:=.type "tuple",dict:=dd,data:=.seq items n,slots:=sl }/\(∀y,y∈items->cA A.in1 s y x (e y))/\R (.ok (.ret (.int k s.toks))) { s with toks:=s.toks+1 }) :=
 .of_wp λprog w A R s h=>by
  obtain⟨hp,g,d,tk,os⟩:=s;obtain⟨hl,he,h⟩:=h
  wp_walk using cX hl,Fq _ (λi b s'=>b.1=a6/\s'=⟨hp,g,d,tk,os⟩/\i<=k) _
  case turn =>
   rintro i c s'-hi ⟨hb,rfl,hik⟩;have hlt:i<items.size:=by omega
   have hy:items[i]?=a3 items[i]:=by simp[hlt]
   rw[hy];refine a5 (he items[i] (Array.getElem_mem hlt) prog w _ _ ?_);by_cases z:i=k
   .subst z;rw[h1]
    wp_walk
    exact⟨_,rfl,h⟩
   .rw[h0 i hlt nofun]
    wp_walk
    exact⟨rfl,rfl,by omega⟩
  case fin =>rintro c s' ⟨hb,rfl,hik⟩;omega
  case h =>exact⟨rfl,rfl,bI _⟩
section
variable{X:Cx}{ρ:Rho}{a e:aj}{l:List D}{d:D}{p1 pos:aK}
noncomputable def ixD(d:D):List D->Option Nat
 |[]=>a6
 |x::r=>if deq x d=a7 then a3 0 else(ixD d r).map (· + 1)
theorem j0a{d:D}:∀{l:List D}{k:Nat},ixD d l=a3 k->∃x,l[k]?=a3 x/\deq x d=a7/\∀j y,j<k->l[j]?=a3 y->deq y d=a4
 |[],k,h=>by cases h
 |x::r,k,h=>by
  unfold ixD at h;split at h
  .rename_i z;cases h;exact⟨x,rfl,z,λj y hj=>absurd hj (fM _)⟩
  .rename_i z;cases q:ixD d r with
   |none=>rw[q]at h;cases h
   |some m =>
    rw[q]at h;cases h;obtain⟨y,hy,e,f⟩:=j0a q;refine⟨y,hy,e,λj y hj hq=>?_⟩;cases j with
    |zero=>cases hq;simpa using z
    |succ j=>exact f j y (Nat.lt_of_succ_lt_succ hj) hq
theorem j54 (hu:X.A.units+100<aI):MtR X "tuple.index" (λx vs H Q=>∃t xs ds d y k,x=.ref t/\vs=[y]/\SqT X.K H t xs/\j4 X.K H ds xs/\Enc X.K H d y/\D.depL ds<=97/\d.dep<10000/\ixD d ds=a3 k/\Q (.int (k:Nat)) H):=by
 rintro pins s σ H x vs v us Q I rx rv ⟨t,xs,ds,d,y,k,e,e',sq,l,en,hd,nd,hk,q⟩;subst e e';cases rx;obtain⟨u,eu,ru⟩:=rv.one;subst eu;obtain⟨its,ri,⟨⟨cl,dd,da,sl⟩,h1,h2,n,h3⟩,_⟩:=I.tuple sq;have h2:cl=.type "tuple":=h2;have h3:da=.seq its.toArray n:=h3;subst h2 h3;obtain⟨z,hz,ez,fz⟩:=j0a hk;have ll:=l.length;have rl:=ri.length;have hks:k<its.toArray.size:=by have:=(X7.mp hz).1;simp;omega
 have at_:∀(j:Nat)(h:j<its.toArray.size)(z:D),ds[j]?=a3 z->eqW X H d its.toArray[j]=deq z d:=λj h z hz=>by
  obtain⟨x,hx,ex⟩:=l.get hz;obtain⟨w,hw,rw⟩:=ri.get hx;have g1:its.toArray[j]=w:=by simp at h ⊢;rw[kh (by simpa using h)]at hw;exact av hw
  have:=D.depL_le hz;rw[g1];exact Rj I nofun ex rw
 refine bj gG ⟨_,h1,rfl⟩ F.entry_tuple_index (F.args_tuple_index_2 _ _) (K9 t its.toArray n dd sl u (eqW X H d) k hks (λj h hj=>?_) (by rw[at_ k hks z hz];exact ez))
  ⟨h1,λy hy=>V4 (n:=97) I en ru nd (by show X.A.units+1+97<aI;omega) hd l ri y (by simpa using hy),⟨.int _,H,I.tok _,⟨_,rfl⟩,q⟩⟩
 have hlt:j<ds.length:=by simp at h;omega
 rw[at_ j h ds[j] (kh hlt)];exact fz j _ hj (kh hlt)
theorem DE.indexT {b:aj} {ds:List D} {k:Nat} {p2:aK} (hu:X.A.units+100<aI) (ha:DT X ρ a (.tup ds)) (hb:DT X ρ b d) (hd:D.depL ds<=97) (nd:d.dep<10000) (hk:ixD d ds=a3 k) (hbase:aN a "index" X.env (ay a X.env)=ay a X.env)
  (hfew:((aO p2 (a9 [b] X.env)).all (λx=>!x.1)&&(bu p2 (aT [] X.env)).all (λx=>x.1.isSome)
   && decide (([b]:List aj).length+([]:List aR).length+(if ([]:List aR).isEmpty then 0 else 1)<30))=a7) (hline:(p1.endLine==p2.line)=a7)
  (hs:a9 [b] X.env=(a4,ay b X.env)::a9 [] X.env):DE X ρ (.Call (.Attribute a "index" p1) [b] [] p2) (.int (k:Nat)):=λσ H Q R q =>
 (W4 fG gG PySem.F.type_tuple_index (j54 hu) peS (jf peS q8 hs) hbase hfew hline hs rfl).to (ha σ H _ R λv H1 g1 ⟨t,xs,e,sq,l⟩=>⟨by rw[e];exact .inr (.inl ⟨rfl,xs,sq⟩),hb σ H1 _ (R.grow g1) λu H2 g2 e2 =>
  ⟨t,xs,ds,d,u,k,e,rfl,g2.seqT sq,l.mono g2,e2,hd,nd,hk,q _ H2 (g1.trans g2) rfl⟩⟩)
end
section
variable{X:Cx}{pins:k8q}{σ:St}{H:Hp}{l q S I:aa}{xs:List V}{R:fB->af->Prop}
end
section
variable{X:Cx}{ρ:Rho}{σ:St}{H:Hp}{q:aa}{f:ah}{l:List D}{xs:List V}{kf:Nat->Int}{a:aj}{d:D}{p p1 pk pos:aK}
end
section
variable{X:Cx}{pins:k8q}{σ:St}{H:Hp}{l S I:aa}{xs:List V}{R:fB->af->Prop}
def jgm(X:Cx)(pins:k8q)(σ:St)(H:Hp)(xs:List V)(bt:Nat->Nat->Bool):Prop:=∀(i j:Nat)(x y:V)(u v:a8)(s:af)(Q:k8p)(E:k8p),xs[i]?=a3 x->xs[j]?=a3 y->RelV x u->RelV y v->Inv X pins σ H s ->
 Q (.bool (bt i j)) s->ao (aw X.prog X.w) X.A.in1 (gf .Lt u v) Q E s
theorem jb7(bt:Nat->Nat->Bool)(hh:X.A.handled=a6)(hl:SqL X.K H l xs)(hSI:S≠I)(fS:Z0 X pins H S)(fI:Z0 X pins H I)(cmp:jgm X pins σ H xs bt)
  (hR:∀x u s',xs[aE bt (xs.length-1)]?=a3 x->RelV x u->Inv X pins σ H s'->R (.ok (.ret u)) s') :
  ∀(r j:Nat)(s:af)(x:V)(u:a8)(c:Nat),xs.length-(j+1)=r->j+1<=xs.length->Inv X pins σ H s->s.heap.get? S=a3 (eY "list" #[u,u] c) ->
   s.heap.IsListIter I l (j+1)->xs[aE bt j]?=a3 x->RelV x u->cj (aw X.prog X.w) X.A (.builtin "min.loop" ⟨[.ref I,.none,.ref S],[]⟩) R s:=by
 have hname:(toString "min" ++ toString ".loop":String) = "min.loop":=by decide
 have fp:∀b∈[S,I],Z0 X pins H b:=λb hb=>by
  rcases xr.mp hb with e|hb
  .subst e;exact fS
  .rw[xm.mp hb];exact fI
 intro r;induction r with
 |zero =>
  intro j s x u c hr hj I1 oS it hx ru;have hin:j+1=xs.length:=by omega
  obtain⟨its,rv,p,_⟩:=I1.list hl;have hlen:=rv.length;refine b0 di ?_;rw[Px Pz _];show ao _ X.A.in1 (fU (.ref S) >>= _) _ _ _;refine a5 (dj oS rfl ?_);show ao _ X.A.in1 (tryCatch (dB (.ref I)) _ >>= _) _ _ _;refine a5 (eM (iX hh it p.isList (by simp;omega) λh' eb=>?_));have I2:Inv X pins σ H { s with heap:=h' }:=I1.chg (ch:=[S,I]) fp λb o hb e=>eb b o (λz=>hb (by simp[z])) e;have oS':h'.get? S=a3 (eY "list" #[u,u] c):=eb S _ hSI oS;show ao _ X.A.in1 (updateSeq S (λ_=>#[]) >>= _) _ _ _;refine a5 ?_;refine gq oS' rfl (a5 (gd (ai ?_)));have s1:=T8 h' S (cT λ_=>(#[]:Array a8));exact hR x u _ (by rw[<-hin];exact hx) ru (I2.chg (ch:=[S,I]) fp λb o hb e=>(s1.2 b (λz=>hb (by simp[z]))).trans e)
 |succ r ih =>
  intro j s x u c hr hj I1 oS it hx ru;have hlt:j+1<xs.length:=by omega
  obtain⟨its,rv,p,_⟩:=I1.list hl;have hlen:=rv.length;have hx1:xs[j+1]?=a3 xs[j+1]:=by simp[hlt]
  obtain⟨v,hv,rv1⟩:=rv.get hx1;refine b0 di ?_;rw[Px Pz _];show ao _ X.A.in1 (fU (.ref S) >>= _) _ _ _;refine a5 (dj oS rfl ?_);show ao _ X.A.in1 (tryCatch (dB (.ref I)) _ >>= _) _ _ _;refine a5 (eM (dW it p.isList (x:=v) (by simpa using hv) λh' it' sb=>?_));have I2:Inv X pins σ H { s with heap:=h' }:=I1.chg (ch:=[S,I]) fp λb o hb e=>(sb.2 b (λz=>hb (by simp[z]))).trans e;have oS':h'.get? S=a3 (eY "list" #[u,u] c):=(sb.2 S hSI).trans oS;obtain⟨oI,eI,cI,dI⟩:=id it';show ao _ X.A.in1 (tryCatch (iK [v,v] (gf .Lt v u >>= _)) _ >>= _) _ _ _;refine a5 (eM (cK (a5 (cmp (j+1) (aE bt j) _ _ v u _ _ _ hx1 hx rv1 ru I2 ?_))));refine a5 (cK (aV ?_));refine a5 (gd (ai ?_));cases hb:bt (j+1) (aE bt j) with
  |true =>
   have s1:=T8 h' S (cT λ_=>#[v,v]);obtain⟨c2,hc2⟩:∃c2,(h'.update S (cT λ_=>#[v,v])).get? S=a3 (eY "list" #[v,v] c2):=⟨_,lA oS' λ_=>#[v,v]⟩
   simp only[if_true];refine a5 ?_;refine gq oS' rfl (a5 (gd ?_));rw[hname];exact ai ⟨cf Pz _,ih (j+1) _ _ v c2 nofun hlt (I2.chg (ch:=[S,I]) fp λb o hb e=>(s1.2 b (λz=>hb (by simp[z]))).trans e) hc2
    ⟨oI,(s1.2 I hSI.symm).trans eI,cI,dI⟩ (by simp only[aE,hb,if_true];exact hx1) rv1⟩
  |false =>simp only[ph,if_false];refine a5 (gd ?_);rw[hname];exact ai ⟨cf Pz _,ih (j+1) _ x u c nofun hlt I2 oS' ⟨oI,eI,cI,dI⟩ (by simp only[aE,hb,ph,if_false];exact hx) ru⟩
theorem j59(bt:Nat->Nat->Bool)(hh:X.A.handled=a6){s:af}{Q:VK}{E:k8p}(I0:Inv X pins σ H s)(hl:SqL X.K H l xs)(hne:0<xs.length)(cmp:jgm X pins σ H xs bt)
  (hQ:∀x,xs[aE bt (xs.length-1)]?=a3 x->Q x H):ao (aw X.prog X.w) X.A (call (.builtin "min") [.ref l]) (EP X pins σ Q) E s:=by
 have hname:(toString "min" ++ toString ".loop":String) = "min.loop":=by decide
 obtain⟨its0,rv0,p0,_⟩:=I0.list hl;refine call_function_tree PySem.F.kind_min PySem.F.plain_min PySem.F.entry_min (PySem.F.args_min1 _) ?_;show ao _ X.A.in1 (Builtin.Builtins.bindParams "min" ["key","default"] 0 ⟨[],[]⟩ >>= _) _ _ s;refine a5 (gc (show Builtin.Builtins.bindParams "min" ["key","default"] 0 ⟨[],[]⟩=pure [a6,a6]from rfl) ?_);refine a5 (ai ?_);refine a5 (bc p0.isList ?_);refine a5 (wpAny_newList ?_ (bI _));rw[hname];generalize hA:s.heap.push { cls:=.type "list_iterator",data:=.fields #[.ref l,.int 0 0] }=h1;have z1:h1.objs.size=s.heap.objs.size+1:=by rw[<-hA];exact size_push' ..
 have gI:(h1.push (eY "list" #[] 0)).get? s.heap.objs.size=a3 { cls:=.type "list_iterator",data:=.fields #[.ref l,.int 0 0] }:=by rw[<-hA];exact xg _ (X6 _ rfl)
 have gS:(h1.push (eY "list" #[] 0)).get? h1.objs.size=a3 (eY "list" #[] 0):=X6 _ rfl;have I1:Inv X pins σ H { s with heap:=h1.push (eY "list" #[] 0) }:=I0.kept (t':=s.toks) λb o e=>xg _ (by rw[<-hA];exact xg _ e);have fI:Z0 X pins H s.heap.objs.size:=I0.fpOk (X3 _) (I0.hok.fresh (X3 _));have fS:Z0 X pins H h1.objs.size:=I0.fpOk (by rw[z1];exact Py _) (I0.hok.fresh (by rw[z1];exact Py _));have hSI:h1.objs.size≠s.heap.objs.size:=by rw[z1];exact T3 (cE _)
 have fp:∀b∈[h1.objs.size,s.heap.objs.size],Z0 X pins H b:=λb hb=>by
  rcases xr.mp hb with e|hb
  .subst e;exact fS
  .rw[xm.mp hb];exact fI
 refine ai ⟨cf Pz _,?_⟩;obtain⟨its,rv,p,_⟩:=I1.list hl;have hlen:=rv.length;have hx0:xs[0]?=a3 xs[0]:=by simp[hne]
 obtain⟨v,hv,rv1⟩:=rv.get hx0;refine b0 di ?_;rw[Px Pz _];show ao _ X.A.in1 (fU (.ref _) >>= _) _ _ _;refine a5 (dj gS rfl ?_);show ao _ X.A.in1 (tryCatch (dB (.ref s.heap.objs.size)) _ >>= _) _ _ _;refine a5 (eM (dW (i:=0) ⟨_,gI,rfl,rfl⟩ p.isList (x:=v) (by simpa using hv) λh' it' sb=>?_));have I2:Inv X pins σ H { s with heap:=h' }:=I1.chg (ch:=[h1.objs.size,s.heap.objs.size]) fp λb o hb e=>(sb.2 b (λz=>hb (by simp[z]))).trans e;have oS':h'.get? h1.objs.size=a3 (eY "list" #[] 0):=(sb.2 _ hSI).trans gS;obtain⟨oI,eI,cI,dI⟩:=id it';have s1:=T8 h' h1.objs.size (cT λ_=>#[v,v]);obtain⟨c2,hc2⟩:∃c2,(h'.update h1.objs.size (cT λ_=>#[v,v])).get? h1.objs.size=a3 (eY "list" #[v,v] c2):=⟨_,lA oS' λ_=>#[v,v]⟩
 show ao _ X.A.in1 (updateSeq h1.objs.size (λ_=>#[v,v]) >>= _) _ _ _;refine a5 ?_;refine gq oS' rfl ?_;rw[hname];exact ai ⟨cf Pz _,jb7 bt hh hl hSI fS fI cmp (λx u s' hx ru I=>⟨x,H,I,ru,hQ x hx⟩) _ 0 _ _ v c2 rfl hne
  (I2.chg (ch:=[h1.objs.size,s.heap.objs.size]) fp λb o hb e=>(s1.2 b (λz=>hb (by simp[z]))).trans e) hc2 ⟨oI,(s1.2 _ hSI.symm).trans eI,cI,dI⟩ hx0 rv1⟩
end
noncomputable def Jb(l:List (List Int))(i j:Nat):Bool:=HT.lexLt (l.getD i []) (l.getD j [])
section
variable{X:Cx}{ρ:Rho}{a:aj}{l:List (List Int)}{k:List Int}{p pos:aK}
theorem DT.minT (hu:X.A.units+100<aI) (hcalm:X.calm=a7) (hm:X.mg "min" = a6) (hg:Gl X "min") (ha:DT X ρ a (.lst (l.map λk=>D.tup (k.map D.int)))) (hk:l[aE (Jb l) (l.length-1)]?=a3 k) (hs:a9 [a] X.env=[(a4,ay a X.env)]) :
  DT X ρ (.Call (.Name "min" p) [a] [] pos) (.tup (k.map D.int)):=λσ H Q R q pins s I=>by
 refine aH (Z2 I hg hm jH ?_ (by decide) (by decide));refine callWith_builtin1 (thn ((jf (es:=[]) peS q8 hs).to (σ:=σ) (H:=H) (Q:=λvs H1=>∃v,vs=[v]/\j0 H H1/\Enc X.K H1 (.lst (l.map λk=>D.tup (k.map D.int))) v) (ha σ H _ R λv H1 g1 e1=>⟨v,rfl,g1,e1⟩) pos pins s I) λus s1 ⟨vs,H1,I1,r1,v,ev,g1,e1⟩=>?_) hs rfl;subst ev;obtain⟨b,xs,eb,sq,en⟩:=e1;subst eb;obtain⟨u,eu,ru⟩:=r1.one;subst eu;cases(show u=aC b from ru);have hlen:xs.length=l.length:=by rw[en.length,xf]
 have hin:=(X7.mp hk).1;have item:∀{i:Nat}{x:V},xs[i]?=a3 x->∃t,x=.ref t/\SqT X.K H1 t ((l.getD i []).map V.int)/\Enc X.K H1 (.tup ((l.getD i []).map D.int)) x:=λ{i x} hx=>by
  obtain⟨d,hd,ed⟩:=en.get' hx;rw[xx]at hd;obtain⟨k',hk',ek⟩:=Xv.mp hd;subst ek;have eg:l.getD i []=k':=by rw[kj,hk'];rfl
  rw[eg];obtain⟨t,ys,e1,sq',l'⟩:=id ed;rw[vh l']at sq';exact⟨t,e1,sq',ed⟩
 refine j59 (Jb l) (I.ok.hd hcalm) I1 sq nofun (λi j x y u v s2 Q2 E2 hx hy rx ry I2 hq=>?_) λx hx=>?_
 .obtain⟨t,e1,s1',_⟩:=item hx;obtain⟨t',e2,s2',_⟩:=item hy;subst e1 e2;cases rx;cases ry;obtain⟨its,r1,p1,_⟩:=I2.tuple s1';obtain⟨its2,r2,p2,_⟩:=I2.tuple s2';exact HT.lt_tupInts (A:=X.A.in1) p1 p2 (intsAre_of r1) (intsAre_of r2) (by show X.A.units+1<aI;omega) hq
 .rw[hlen]at hx;obtain⟨t,e1,_,ed⟩:=item hx;have eg:l.getD (aE (Jb l) (l.length-1)) []=k:=by rw[kj,hk];rfl
  rw[eg]at ed;exact q x H1 g1 ed
end
section
variable{X:Cx}{ρ:Rho}{it e2:aj}{P:Po}{ds:List D}{x t:Nat}{nx nt:ah}{p1 p2 p3 p4 p10 p11 p12 p14 p16 p17 p18:aK}
end
noncomputable def j3g(p q:Int×List Int):Bool:=if p.1=q.1 then HT.lexLt p.2 q.2 else decide (p.1<q.1)
noncomputable def Z8(l:List (Int×List Int))(i j:Nat):Bool:=j3g (l.getD i (0,[])) (l.getD j (0,[]))
noncomputable def pairD(p:Int×List Int):D:=.tup [.int p.1,.tup (p.2.map D.int)]
theorem Ng:∀l:List Int,HT.lexLt l l=a4
 |[]=>rfl
 |x::l=>by rw[HT.lexLt_cons,if_pos rfl,Ng l]
theorem Bj:∀l:List Int,D.depL (l.map D.int)=0
 |[]=>rfl
 |x::l=>by rw[X4,D.depL,Bj l];rfl
theorem Lq:∀{ns ms:List Int},v8 (ns.map D.int) (ms.map D.int)=a7->ns=ms
 |[],[],_=>rfl
 |[],_::_,h=>nomatch h
 |_::_,[],h=>nomatch h
 |x::ns,y::ms,h=>by rw[X4,X4,Qi,Xi]at h;rw[Lq h.2,show x=y from by simpa [j0i]using h.1]
section
open PySem.SeqAt
open PySem.AutoSeq1 (wpAny_loadPart')
open PySem.MeetsSeq PySem.MeetsSeq2 PySem.MeetsSeq3
theorem K7(l b x y:aa)(a c:Int)(t u:gy)(n n2:Nat)(dd dd2:Option aa)(sl sl2:Array (Option a8))(e r:Bool) :
  jG (d4.«tuple.__lt__» ⟨[.ref l,.ref b],[]⟩)
   (λA R s=>s.heap.get? l=a3 { cls:=.type "tuple",dict:=dd,data:=.seq #[.int a t,.ref x] n,slots:=sl }/\s.heap.get? b=a3 { cls:=.type "tuple",dict:=dd2,data:=.seq #[.int c u,.ref y] n2,slots:=sl2 } /\
    EqAt A.in1 s (.ref x) (.ref y) e/\(∀(prog:au)(w:ax)(E:k8p)(Q:k8p),Q (.bool r) s->ao (aw prog w) A.in1 (gf .Lt (.ref x) (.ref y)) Q E s) /\
    R (.ok (.ret (.bool (if a=c then(if e=a7 then a4 else r)else decide (a<c))))) s) :=
 .of_wp λprog w A R s h=>by
  obtain⟨hp,g,d,tk,os⟩:=s;obtain⟨hl,hb,hx,hr,h⟩:=h;have f2:=fE
  wp_walk using cX hl,cX hb,fT _ (λrest b s'=>b.1=a6/\s'=⟨hp,g,d,tk,os⟩ /\
   (rest=[(b9 a t,b9 c u),(aC x,aC y)]\/(rest=[(aC x,aC y)]/\a=c)\/(rest=[]/\a=c/\e=a7))) _
  case turn =>
   rintro⟨y',x'⟩ rest b s' ⟨hb',rfl,hz⟩;rcases hz with hz|⟨hz,ac⟩|⟨hz,_⟩
   .injection hz with hyx hrest;injection hyx with hy hx';subst hy hx';obtain⟨e',he,hiff⟩:=HT.eqAt_int A.in1 ⟨hp,g,d,tk,os⟩ a t c u;refine a5 (he prog w _ _ ?_);cases e' with
    |true =>
     wp_walk
     exact⟨rfl,rfl,.inr (.inl ⟨hrest,hiff.mp rfl⟩)⟩
    |false =>
     rw[if_neg (λq=>absurd (hiff.mpr q) xj)]at h;have hri:=HT.rcLt_int A.in1 ⟨hp,g,d,tk,os⟩ a t c u prog w
     wp_walk using hri
     exact⟨_,rfl,by simpa using h⟩
   .injection hz with hyx hrest;injection hyx with hy hx';subst hy hx';refine a5 (hx prog w _ _ ?_);rw[if_pos ac]at h;cases e with
    |true =>
     wp_walk
     exact⟨rfl,rfl,.inr (.inr ⟨hrest,ac,rfl⟩)⟩
    |false =>
     have hri:=hr prog w
     wp_walk using hri
     exact⟨_,rfl,by simpa using h⟩
   .cases hz
  case fin =>
   rintro⟨b1,b2⟩ s' ⟨hb',rfl,hz⟩;simp only at hb';subst hb';rcases hz with hz|⟨hz,ac⟩|⟨hz,ac,e1⟩
   .cases hz
   .cases hz
   .rw[if_pos ac,if_pos e1]at h
    wp_walk
    exact⟨_,rfl,by simpa [dJ]using h⟩
  case h =>exact⟨rfl,rfl,.inl rfl⟩
end
section
variable{X:Cx}{ρ:Rho}{a:aj}{l:List (Int×List Int)}{k:Int×List Int}{p pos:aK}
theorem DT.minP (hu:X.A.units+100<aI) (hcalm:X.calm=a7) (hm:X.mg "min" = a6) (hg:Gl X "min") (ha:DT X ρ a (.lst (l.map pairD))) (hk:l[aE (Z8 l) (l.length-1)]?=a3 k) (hs:a9 [a] X.env=[(a4,ay a X.env)]) :
  DT X ρ (.Call (.Name "min" p) [a] [] pos) (pairD k):=λσ H Q R q pins s I=>by
 refine aH (Z2 I hg hm jH ?_ (by decide) (by decide));refine callWith_builtin1 (thn ((jf (es:=[]) peS q8 hs).to (σ:=σ) (H:=H) (Q:=λvs H1=>∃v,vs=[v]/\j0 H H1/\Enc X.K H1 (.lst (l.map pairD)) v) (ha σ H _ R λv H1 g1 e1=>⟨v,rfl,g1,e1⟩) pos pins s I) λus s1 ⟨vs,H1,I1,r1,v,ev,g1,e1⟩=>?_) hs rfl;subst ev;obtain⟨b,xs,eb,sq,en⟩:=e1;subst eb;obtain⟨u,eu,ru⟩:=r1.one;subst eu;cases(show u=aC b from ru);have hlen:xs.length=l.length:=by rw[en.length,xf]
 have hin:=(X7.mp hk).1;have item:∀{i:Nat}{x:V},xs[i]?=a3 x->Enc X.K H1 (pairD (l.getD i (0,[]))) x:=λ{i x} hx=>by
  obtain⟨d,hd,ed⟩:=en.get' hx;rw[xx]at hd;obtain⟨k',hk',ek⟩:=Xv.mp hd;subst ek;have eg:l.getD i (0,[])=k':=by rw[kj,hk'];rfl
  rw[eg];exact ed
 have part:∀{q:Int×List Int}{x:V},Enc X.K H1 (pairD q) x->∃t y,x=.ref t/\SqT X.K H1 t [.int q.1,.ref y]/\SqT X.K H1 y (q.2.map V.int)/\Enc X.K H1 (.tup (q.2.map D.int)) (.ref y):=λ{q x} ed=>by obtain⟨t,ys,e1,sq',l'⟩:=ed;obtain⟨v1,ys1,rfl,e2,v2,ys2,rfl,e3,rfl⟩:=l';cases(show v1=.int q.1 from e2);obtain⟨y,zs,e4,sq2,l4⟩:=id e3;subst e4;rw[vh l4]at sq2;exact⟨t,y,e1,sq',sq2,e3⟩
 refine j59 (Z8 l) (I.ok.hd hcalm) I1 sq nofun (λi j x y u v s2 Q2 E2 hx hy rx ry I2 hq=>?_) λx hx=>?_
 .obtain⟨t,x1,e1,s1',s1'',en1⟩:=part (item hx);obtain⟨t',y1,e2,s2',s2'',en2⟩:=part (item hy);subst e1 e2;cases rx;cases ry;obtain⟨its,r1,p1,_⟩:=I2.tuple s1';obtain⟨its2,r2,p2,_⟩:=I2.tuple s2';obtain⟨itx,rx1,px,_⟩:=I2.tuple s1'';obtain⟨ity,ry1,py,_⟩:=I2.tuple s2'';obtain⟨_,_,rfl,⟨k1,rfl⟩,eu⟩:=r1.two;obtain⟨_,_,rfl,⟨k2,rfl⟩,ev⟩:=r2.two;cases eu;cases ev;have hE:=(Zz I2 1 X.A.in1.in1 (d:=.tup ((l.getD i (0,[])).2.map D.int)) (d':=.tup ((l.getD j (0,[])).2.map D.int)) (by rw[D.dep,Bj];decide) (by show X.A.units+1+1+1<aI;omega) (by rw[D.dep,Bj];decide) en1 rfl en2 rfl).2;obtain⟨⟨cls,dd,data,sl⟩,ho,hc,n,hd⟩:=id p1;obtain⟨⟨cls2,dd2,data2,sl2⟩,ho2,hc2,n2,hd2⟩:=id p2;simp only at hc hd hc2 hd2;subst hc hd hc2 hd2;have hb:Z8 l i j=if (l.getD i (0,[])).1=(l.getD j (0,[])).1 then(if deq (.tup ((l.getD i (0,[])).2.map D.int)) (.tup ((l.getD j (0,[])).2.map D.int))=a7 then a4 else HT.lexLt (l.getD i (0,[])).2 (l.getD j (0,[])).2)else decide ((l.getD i (0,[])).1<(l.getD j (0,[])).1):=by
   show(if _ then _ else _)=_;split
   .split
    .rename_i h;rw[j0h]at h;rw[Lq h,Ng]
    .rfl
   .rfl
  rw[hb]at hq;exact iJ (op:=.Lt) ⟨_,ho,rfl⟩ ⟨_,ho2,rfl⟩ g9 fQ (fN _ _) (K7 t t' x1 y1 _ _ _ _ n n2 dd dd2 sl sl2 _ _)
   ⟨ho,ho2,hE,λprog w E Q h=>HT.lt_tupInts (A:=X.A.in1.in1) px py (intsAre_of rx1) (intsAre_of ry1) (by show X.A.units+1+1<aI;omega) h,(λx=>nomatch x),hq⟩ (by show X.A.units+1<aI;omega)
 .rw[hlen]at hx;have ed:=item hx;have eg:l.getD (aE (Z8 l) (l.length-1)) (0,[])=k:=by rw[kj,hk];rfl
  rw[eg]at ed;exact q x H1 g1 ed
end
section
variable{X:Cx}{ρ:Rho}{a:aj}{p p1 p2 pos:aK}
end
noncomputable def jjl(kvs:List (ah×Int))(k:ah):Option Int:=(kvs.find? λp=>decide (p.1=k)).map λp=>p.2
noncomputable def jjo(kvs:List (ah×Int))(k:ah):Bool:=kvs.any λp=>decide (p.1=k)
noncomputable def dput(kvs:List (ah×Int))(k:ah)(n:Int):List (ah×Int):=if jjo kvs k=a7 then kvs.map λp=>if p.1=k then(p.1,n)else p else kvs++[(k,n)]
section
variable{X:Cx}{ρ:Rho}{a b e k:aj}{rest:List aX}{P:Po}{kvs:List (ah×Int)}{z:ah}{n:Int}{i j:Nat}{nx ny:ah}{pos pos' p p1 p2 p3 p4 p5 p6 p7 p8:aK}{td ty tv:TE}{o value:aj}
theorem j55 (hu:X.A.units+100<aI):MtR X "list.index" (λx vs H Q=>∃t xs ds d y k,x=.ref t/\vs=[y]/\SqL X.K H t xs/\j4 X.K H ds xs/\Enc X.K H d y/\D.depL ds<=97/\d.dep<10000/\ixD d ds=a3 k/\Q (.int (k:Nat)) H):=by
 rintro pins s σ H x vs v us Q I rx rv ⟨t,xs,ds,d,y,k,e,e',sq,l,en,hd,nd,hk,q⟩;subst e e';cases rx;obtain⟨u,eu,ru⟩:=rv.one;subst eu;obtain⟨its,ri,⟨⟨cl,dd,da,sl⟩,n,h1,h2,h4,h3⟩,hz0⟩:=I.list sq;have h2:cl=.type "list":=h2;have h3:da=.seq its.toArray n:=h3;subst h2 h3;obtain⟨z,hz,ez,fz⟩:=j0a hk;have ll:=l.length;have rl:=ri.length;have hks:k<its.toArray.size:=by have:=(X7.mp hz).1;simp;omega
 have at_:∀(j:Nat)(h:j<its.toArray.size)(z:D),ds[j]?=a3 z->eqW X H d its.toArray[j]=deq z d:=λj h z hz=>by
  obtain⟨x,hx,ex⟩:=l.get hz;obtain⟨w,hw,rw⟩:=ri.get hx;have g1:its.toArray[j]=w:=by simp at h ⊢;rw[kh (by simpa using h)]at hw;exact av hw
  have:=D.depL_le hz;rw[g1];exact Rj I nofun ex rw
 have hn:=Uu;have hks':k<its.length:=by simpa using hks
 refine bj hZ ⟨_,h1,rfl⟩ F.entry_list_index (F.args_list_index_2 _ _) (SeqAt.list_indexAt t its.toArray n dd sl u (eqW X H d) k hks nofun (by rw[at_ k hks z hz];exact ez) (λj h hj=>?_))
  ⟨h1,λy hy=>V4 (n:=97) I en ru nd (by show X.A.units+1+97<aI;omega) hd l ri y (by simpa using hy),⟨.int _,H,I.tok _,⟨_,rfl⟩,q⟩⟩
 have hlt:j<ds.length:=by simp at h;omega
 rw[at_ j h ds[j] (kh hlt)];exact fz j _ hj (kh hlt)
theorem DE.indexL {ds:List D} {d:D} {k':Nat} (hu:X.A.units+100<aI) (ha:DT X ρ a (.lst ds)) (hb:DT X ρ b d) (hd:D.depL ds<=97) (nd:d.dep<10000) (hk:ixD d ds=a3 k') (hbase:aN a "index" X.env (ay a X.env)=ay a X.env)
  (hfew:((aO p2 (a9 [b] X.env)).all (λx=>!x.1)&&(bu p2 (aT [] X.env)).all (λx=>x.1.isSome)
   && decide (([b]:List aj).length+([]:List aR).length+(if ([]:List aR).isEmpty then 0 else 1)<30))=a7) (hline:(p1.endLine==p2.line)=a7)
  (hs:a9 [b] X.env=(a4,ay b X.env)::a9 [] X.env):DE X ρ (.Call (.Attribute a "index" p1) [b] [] p2) (.int (k':Nat)):=λσ H Q R q =>
 (W4 bU hZ PySem.F.type_list_index (j55 hu) peS (jf peS q8 hs) hbase hfew hline hs rfl).to (ha σ H _ R λv H1 g1 ⟨t,xs,e,sq,l⟩=>⟨by rw[e];exact .inl ⟨rfl,xs,sq⟩,hb σ H1 _ (R.grow g1) λu H2 g2 e2 =>
  ⟨t,xs,ds,d,u,k',e,rfl,g2.seq sq,l.mono g2,e2,hd,nd,hk,q _ H2 (g1.trans g2) rfl⟩⟩)
end
section
variable{prog:au}{w:ax}{A:az}{E:k8p}{s:af}
end
section
variable{prog:au}{w:ax}{A:az}{E:k8p}{s:af}{l1 l2:Bool}{z TI TO i1 i2 t1 t2 p:aa}{f:Bool}{op:dn}{k:Nat}{us vs:Array a8}{x y a b:a8}
end
section
variable{X:Cx}{pins:k8q}{σ:St}{z TI TO i1 i2 t1 t2 d:aa}{l1 l2:Bool}{ks:List ah}{ns:List Int}{A:az}{R:fB->af->Prop}
end
section
variable{X:Cx}{ρ:Rho}{a b:aj}{ks:List ah}{ns:List Int}{p p2 p3 p4:aK}
end
section
variable{X:Cx}{ρ:Rho}{a e:aj}{es:List aj}{x:ah}{d:D}{p p1 p2 pos:aK}{y:ah}{ds:List D}
theorem Cm.grow{σ:St}{H H':Hp}(k:Cm X σ H x)(g:j0 H H'):Cm X σ H' x:=λpins H2 s' e C I g2 hC Fe=>k pins H2 s' e C I (g.trans g2) hC Fe
theorem DXA.head(ha:DX X ρ a x)(hs:a9 (a::es) X.env=(a4,ay a X.env)::a9 es X.env):DXA X ρ (a::es) x:=λσ H Q R k =>(jf peS paS hs).to (ha σ H _ R k)
theorem DXA.tail(ha:DT X ρ a d)(h:DXA X ρ es x)(hs:a9 (a::es) X.env=(a4,ay a X.env)::a9 es X.env):DXA X ρ (a::es) x:=λσ H Q R k =>(jf peS paS hs).to (ha σ H _ R λv H1 g _=>h σ H1 _ (R.grow g) (k.grow g))
theorem DX.args {f:ah} (ha:DXA X ρ (e::es) x) (hg:Gl X f) (hdb:(f==k8s)=a4) {fa:aa} (hfa:X.mg f=a3 (.ref fa)) (hk:W.keepIn X.K (.ref fa)=a7)
  (he:a9 (e::es) X.env=(a4,ay e X.env)::a9 es X.env) (hpl:(aO pos (a9 es X.env)).any (·.1)=a4):DX X ρ (.Call (.Name f p) (e::es) [] pos) x:=λσ H Q R k pins s I=>by
 refine aH (Uv I hg hfa ?_ hdb);exact W.callWith_K (h₀:=X.base) I.ok.mod.kin hk (thn (ha σ H (λ_ _=>False) R k pos pins s I) λus s1 ⟨vs,H1,I1,r,z⟩=>z.elim) he hpl
end
noncomputable def ju:List Int->Int
 |[]=>0
 |a::r=>r.foldl max a
theorem j7r:∀(r:List Int)(a:Int),a<=r.foldl max a
 |[],a=>Ph a
 |b::r,a=>by rw[Pr];have:=j7r r (max a b);omega
theorem Ln:∀(r:List Int)(a:Int),r.foldl max a∈a::r/\∀b∈a::r,b<=r.foldl max a
 |[],a=>⟨xm.mpr rfl,λb hb=>by rw[xm.mp hb];exact Ph _⟩
 |c::r,a=>by
  rw[Pr];obtain⟨h1,h2⟩:=Ln r (max a c);refine⟨?_,λb hb=>?_⟩
  .rcases xr.mp h1 with z|z
   .rw[z];by_cases q:a<=c
    .rw[Int.max_eq_right q];exact km _ xn
    .rw[Int.max_eq_left nofun];exact xn
   .exact km _ (km _ z)
  .have l:=h2 (max a c) xn;rcases xr.mp hb with z|z
   .rw[z];omega
   .rcases xr.mp z with z|z
    .rw[z];omega
    .exact h2 b (km _ z)
theorem Yl{ns:List Int}(h:ns≠[]):ju ns∈ns/\∀b∈ns,b<=ju ns:=by
 cases ns with
 |nil=>exact absurd rfl h
 |cons a r=>exact Ln r a
theorem j27{ns:List Int}{M:Int}(h1:M∈ns)(h2:∀a∈ns,a<=M):ju ns=M:=by
 have hn:ns≠[]:=λe=>by rw[e]at h1;exact nomatch h1
 obtain⟨a,b⟩:=Yl hn;have:=h2 _ a;have:=b _ h1;omega
noncomputable def Q0(ns:List Int):Int:=-ju (ns.map λn=>-n)
theorem Yk{ns:List Int}(h:ns≠[]):Q0 ns∈ns/\∀b∈ns,Q0 ns<=b:=by
 obtain⟨h1,h2⟩:=Yl (ns:=ns.map λn=>-n) (by simpa using h);obtain⟨a,ha,e⟩:=X5.mp h1;unfold Q0;refine⟨?_,λb hb=>?_⟩
 .rw[<-e,Int.neg_neg];exact ha
 .have:=h2 _ (X5.mpr ⟨b,hb,rfl⟩);omega
theorem Mi{ns:List Int}{M:Int}(h1:M∈ns)(h2:∀a∈ns,M<=a):Q0 ns=M:=by
 obtain⟨a,b⟩:=Yk (ns:=ns) λe=>by rw[e]at h1;exact nomatch h1
 have:=h2 _ a;have:=b _ h1;omega
section
variable{X:Cx}{ρ:Rho}{a b e:aj}{es:List aj}{x y:ah}{d:D}{i j:Int}{p p1 p2 p3 p4 pk pos:aK}{ds:List D}
theorem j97{pins:k8q}{s:af}{σ:St}{H:Hp}{l:aa}{ns:List Int}(I:Inv X pins σ H s)(sq:SqL X.K H l (ns.map V.int))(hne:ns≠[]):∃zs,s.heap.IsList l (eP zs)/\0<zs.size/\zs.size=ns.length/\∀i,i<zs.size->gh zs i=ns.getD i 0:=by
 obtain⟨its,rv,pl,_⟩:=I.list sq;have hl:its.length=ns.length:=by rw[<-rv.length,xf]
 have val:∀(i:Nat)(v:a8),its[i]?=a3 v->∃t,v=b9 (ns.getD i 0) t:=by
  intro i v hv;have hi:i<its.length:=(X7.mp hv).1;have hi':i<ns.length:=by omega
  obtain⟨w1,hw,rw1⟩:=rv.get (x:=.int (ns.getD i 0)) (i:=i) (by rw[xx,kh hi',kj,kh hi'];rfl);rw[hw]at hv;cases hv;exact rw1
 have hall:AllInts its.toArray:=by intro v hv;obtain⟨i,hi,e⟩:=Pk.mp (show v∈its by simpa using hv);obtain⟨t,e'⟩:=val i v (by rw[kh hi,e]);exact⟨_,t,e'⟩
 obtain⟨zs,hz⟩:=hall.items;have pl':=pl.isList;rw[hz]at pl';have hsz:0<zs.size:=by
  have:its.toArray.size=(eP zs).size:=by rw[hz]
  have h1:0<ns.length:=List.length_pos_iff.mpr hne;simp[eP]at this;omega
 have hns:∀i,i<zs.size->gh zs i=ns.getD i 0:=by
  intro i hi;obtain⟨v1,e1⟩:∃v,(eP zs)[i]?=a3 v:=⟨_,bO (by simpa [eP]using hi)⟩
  obtain⟨t,ht⟩:=jC e1;rw[<-hz]at e1;obtain⟨t',ht'⟩:=val i _ (by simpa using e1);rw[ht]at ht';exact(Value.int.inj ht').1
 have len:zs.size=ns.length:=by
  have:its.toArray.size=(eP zs).size:=by rw[hz]
  simp[eP]at this;omega
 exact⟨zs,pl',hsz,len,hns⟩
theorem j6d (hc:X.calm=a7):Q7 X (.builtin "max") (λxs H Q=>∃(l:aa)(ns:List Int),xs=[.ref l]/\SqL X.K H l (ns.map V.int)/\ns≠[]/\Q (.int (ju ns)) H):=by
 rintro pins s σ H xs us Q I r ⟨l,ns,e,sq,hne,q⟩;subst e;obtain⟨u,eu,ru⟩:=vals1 r;subst eu;cases ru;obtain⟨zs,pl',hsz,len,hns⟩:=j97 I sq hne;refine max_intList (I.ok.hd hc) pl' hsz λv h' tk hv hk=>?_;obtain⟨t,rfl⟩:=jC hv;obtain⟨h1,h2⟩:=argBest_gt (gh zs) (zs.size-1);have hM:ju ns=gh zs (aE (λi j=>decide (gh zs i>gh zs j)) (zs.size-1)):=by
  refine j27 ?_ λc hc=>?_
  .rw[hns _ nofun];rw[kj,kh nofun];exact Xr _
  .obtain⟨k,hk,rfl⟩:=Pk.mp hc;have:=h2 k nofun
   rw[hns k nofun,kj,kh hk]at this;exact this
 rw[hM]at q;exact⟨.int _,H,I.kept hk,⟨t,rfl⟩,q⟩
theorem j6b (hc:X.calm=a7):Q7 X (.builtin "min") (λxs H Q=>∃(l:aa)(ns:List Int),xs=[.ref l]/\SqL X.K H l (ns.map V.int)/\ns≠[]/\Q (.int (Q0 ns)) H):=by
 rintro pins s σ H xs us Q I r ⟨l,ns,e,sq,hne,q⟩;subst e;obtain⟨u,eu,ru⟩:=vals1 r;subst eu;cases ru;obtain⟨zs,pl',hsz,len,hns⟩:=j97 I sq hne;refine min_intList (I.ok.hd hc) pl' hsz λv h' tk hv hk=>?_;obtain⟨t,rfl⟩:=jC hv;obtain⟨h1,h2⟩:=argBest_lt (gh zs) (zs.size-1);have hM:Q0 ns=gh zs (aE (λi j=>decide (gh zs i<gh zs j)) (zs.size-1)):=by
  refine Mi ?_ λc hc=>?_
  .rw[hns _ nofun];rw[kj,kh nofun];exact Xr _
  .obtain⟨k,hk,rfl⟩:=Pk.mp hc;have:=h2 k nofun
   rw[hns k nofun,kj,kh hk]at this;exact this
 rw[hM]at q;exact⟨.int _,H,I.kept hk,⟨t,rfl⟩,q⟩
theorem DE.max2 (ha:DT X ρ a (.int i)) (hb:DT X ρ b (.int j)) (hm:X.mg "max" = a6) (hc:X.calm=a7) (hg:Gl X "max") (hs:a9 [a,b] X.env=(a4,ay a X.env)::a9 [b] X.env) (hs2:a9 [b] X.env=(a4,ay b X.env)::a9 [] X.env)
  (hpl:(aO pos (a9 [b] X.env)).any (·.1)=a4):DE X ρ (.Call (.Name "max" p) [a,b] [] pos) (.int (if j>i then j else i)):=λσ H Q R q =>
 (J9 (j6e hc) hg hm boot_max (jf peS (jf peS q8 hs2) hs) (by decide) (by decide) hs hpl).to (ha σ H _ R λv H1 g1 e1=>hb σ H1 _ (R.grow g1) λu H2 g2 e2=>⟨i,j,by rw[show v=.int i from e1,show u=.int j from e2],q _ H2 (g1.trans g2) rfl⟩)
theorem DE.maxL {ns:List Int} (ha:DT X ρ a (.lst (ns.map D.int))) (hn:ns≠[]) (hm:X.mg "max" = a6) (hc:X.calm=a7) (hg:Gl X "max") (hs:a9 [a] X.env=[(a4,ay a X.env)]):DE X ρ (.Call (.Name "max" p) [a] [] pos) (.int (ju ns)):=λσ H Q R q =>(J9 (j6d hc) hg hm boot_max (jf peS q8 hs) (by decide) (by decide) hs).to (ha σ H _ R λv H1 g1 ⟨l,xs,e,sq,en⟩=>⟨l,ns,by rw[e],by rw[vh en]at sq;exact sq,hn,q _ H1 g1 rfl⟩)
theorem DE.minL {ns:List Int} (ha:DT X ρ a (.lst (ns.map D.int))) (hn:ns≠[]) (hm:X.mg "min" = a6) (hc:X.calm=a7) (hg:Gl X "min") (hs:a9 [a] X.env=[(a4,ay a X.env)]):DE X ρ (.Call (.Name "min" p) [a] [] pos) (.int (Q0 ns)):=λσ H Q R q =>(J9 (j6b hc) hg hm jH (jf peS q8 hs) (by decide) (by decide) hs).to (ha σ H _ R λv H1 g1 ⟨l,xs,e,sq,en⟩=>⟨l,ns,by rw[e],by rw[vh en]at sq;exact sq,hn,q _ H1 g1 rfl⟩)
theorem jhm {K:k8o} {fd:aJ} {ps:List ah} (hn:0<ps.length) (h:∀(s:af)(us:List a8)(w:a8),K.In s.heap->us.length+1=ps.length->d5 s fd ⟨us,[("prices",w)]⟩ (ps.zip (us++[w]))):KBinds K fd ps ["prices"] kG kGV :=
 ⟨λs us ws hK hl=>by
  match ws,hl with
  |[w],hl=>exact h s us w hK (by simpa [kG]using hl)
  |[],hl=>exact absurd hl (Xa hn)
  |_::_::_,hl=>exact absurd hl (Xa hn),λ{vs us zs ws} r1 r2=>by
  cases r2 with
  |nil=>exact .nil
  |cons a b =>
   cases b with
   |nil=>exact r1.append (.cons a .nil)
   |cons _ _=>exact .nil⟩
theorem DE.callD {S:List D->D->Prop} (c:Cal X x (spP X.K S)) (hx:x∈j3q) (ha:DA X ρ (e::es) ds) (hS:S (ds++[.non]) d) (hg:Gl X x) (hdb:(x==k8s)=a4)
  (he:a9 (e::es) X.env=(a4,ay e X.env)::a9 es X.env) (hpl:(aO pos (a9 es X.env)).any (·.1)=a4):DE X ρ (.Call (.Name x p) (e::es) [] pos) d:=λσ H Q R q=>by
 obtain⟨k,f,fd,ps,F,hr,hm,hk,hb,hd⟩:=c.ex;refine(Mh (dvs:=[.non]) F (hr.mono (Py _)) hg hm hk (hd hx).1 (.cons rfl .nil) Kr paS hdb he hpl).to (ha σ H _ R λvs H1 g1 e1=>?_);show spP X.K S (vs++[.non]) H1 Q E0;exact⟨owns ρ,ds++[.non],d,R.tb.mono g1,(R.grow g1).owned,e1.append (show j4 X.K _ [D.non] [V.non] from⟨.non,[],rfl,rfl,rfl⟩),hS,λv H2 g2 z=>q v H2 (g1.trans g2) z⟩
end
section
variable{X:Cx}{ρ:Rho}{p1 p2 p3 p4 p5 p6 q1 pos:aK}
end
section
variable{X:Cx}{ρ:Rho}{p1 p2 p3 p4 p5 p6 q1 pos:aK}
end
noncomputable def ch1(c:Nat):ah:=⟨#[c]⟩
noncomputable def chs(y:ah):List D:=y.cps.toList.map λc=>D.str (ch1 c)
noncomputable def ascii(y:ah):Bool:=y.cps.all (· < 128)
noncomputable def Its(y:ah):It:=⟨λi _=>i<y.cps.size,λi H x H'=>H'=H/\∃c,y.cps[i]?=a3 c/\x=.str (ch1 c),λi _=>y.cps.size<=i⟩
theorem j6p {P:au} {w:ax} {K:k8o} {tg:aj} (it:aa) (y:ah) (t:gy):Turn P w K tg (Its y) [it] it (λi h=>h.IsStrIter it "str_ascii_iterator" y t i) where
 mem:=by simp
 obj:=λi h st b hb=>by
  have e:b=it:=by simpa using hb
  subst e;obtain⟨o,e,c,d⟩:=st;exact⟨o,e,λv z=>by rw[d]at z;cases z⟩
 keep:=λi h h' st k=>let ⟨o,e,r⟩:=st;⟨o,k it (by simp) o e,r⟩
 item:=by intro X hP hw hK hc i pins s σ H E I hf st hg;subst hP hw hK;obtain⟨f0,f1,f2,f3,f4,f5⟩:=hf it (by simp);have W:=Walks.strAscii (prog:=X.prog) (w:=X.w) (I.ok.hd hc) it y t;refine W.item i s _ _ hg st λv h' tk hv st' kk=>?_;obtain⟨c,u,hcu,rfl⟩:=hv;have I1:Inv X pins σ H { s with heap:=h',toks:=tk }:=I.turned (λb o hb e=>kk b o (by simpa using hb) e) f0 f1 f3 f4 f5;obtain⟨o,e,oc,d⟩:=id st';exact⟨_,rfl,Kv (s:={ s with heap:=h',toks:=tk }) e oc d (by decide) ⟨.str (ch1 c),H,I1,⟨u,rfl⟩,⟨rfl,c,hcu,rfl⟩,st',λb hb=>(hf b hb).1⟩⟩
 done:=by intro X hP hw hK hc i pins s σ H E I hf st hg;subst hP hw hK;obtain⟨f0,f1,f2,f3,f4,f5⟩:=hf it (by simp);exact wpAny_pyNext_ascii_end (I.ok.hd hc) st (by have:y.cps.size<=i:=hg;simp;omega) λh' eb=>⟨rfl,I.turned (t':=s.toks) (λb o hb e=>eb b o hb e) f0 f1 f3 f4 f5⟩
 self:=λ_ _ _ _ _ st h=>wpAny_pyIter_striter_ascii st h
section
variable{X:Cx}{ρ:Rho}{a b c e tg it:aj}{y z:ah}{i j k:Int}{p p2 pos:aK}
theorem j7x{K:k8o}{F:Hp}(y:ah):Ul K F (Its y) (chs y):=λi H A g hA=>by
 have hl:(chs y).length=y.cps.size:=by unfold chs;rw[xf,cG]
 rw[hl];refine⟨λh=>h,λh=>h,λx H' ⟨e,c,hc,ex⟩=>?_⟩;subst e ex;refine⟨j0.refl _,λd hd=>?_⟩;unfold chs at hd;rw[xx,gC,hc]at hd;cases hd;rfl
theorem DI.str(h:DT X ρ it (.str y))(ha:ascii y=a7):DI X ρ tg it (chs y):=λσ H R r q pins s I=>by
 refine thn (h σ H (λv H1=>v=.str y/\j0 H H1) r (λv H1 g e=>⟨e,g⟩) pins s I) λv s1 ⟨x,H1,I1,r1,ex,g1⟩=>?_;subst ex;obtain⟨t,rfl⟩:=(show ∃t,v=bH y t from r1)
 refine wpAny_pyIter_ascii ha ?_;refine⟨s1.heap.objs.size,[s1.heap.objs.size],_,_,H1,rfl,I1.kept (t':=s1.toks) λb o e=>xg _ e,j6p _ y t,⟨_,X6 _ rfl,rfl,rfl⟩,λb hb=>?_,q _ H1 g1 (j7x y)⟩;have e:b=s1.heap.objs.size:=by simpa using hb
 subst e;exact I1.fpOk (X3 _) (I1.hok.fresh (X3 _))
noncomputable def inS(y z:ah):Bool:=!(fe z y 0 z.length 1).isEmpty
theorem Le:OpR X (aL .Gt) (λx y H Q=>∃i j,x=.str i/\y=.str j/\Q (.bl (decide (j.cps.toList<i.cps.toList))) H):=by intro pins s σ H x y v u Q I rx ry h;obtain⟨i,j,rfl,rfl,q⟩:=h;obtain⟨t,rfl⟩:=rx;obtain⟨t',rfl⟩:=ry;exact P.gt_str (jr I q rfl)
theorem DE.ltS(ha:DT X ρ a (.str y))(hb:DT X ρ b (.str z)):DE X ρ (.Compare a [.Lt] [b] pos) (.bl (decide (y.cps.toList<z.cps.toList))):=λσ H Q R q =>(Jf Lb peS peS (qx _)).to (ha σ H _ R λv H1 g1 e1=>hb σ H1 _ (R.grow g1) λu H2 g2 e2=>⟨y,z,e1,e2,q _ H2 (g1.trans g2) rfl⟩)
theorem DB.ltS(ha:DT X ρ a (.str y))(hb:DT X ρ b (.str z)):DB X ρ (.Compare a [.Lt] [b] pos) (decide (y.cps.toList<z.cps.toList)):=λσ H Q R q =>(Je Lb peS peS (qx _)).to (ha σ H _ R λv H1 g1 e1=>hb σ H1 _ (R.grow g1) λu H2 g2 e2=>⟨y,z,e1,e2,_,rfl,q H2 (g1.trans g2)⟩)
theorem DE.gtS(ha:DT X ρ a (.str y))(hb:DT X ρ b (.str z)):DE X ρ (.Compare a [.Gt] [b] pos) (.bl (decide (z.cps.toList<y.cps.toList))):=λσ H Q R q =>(Jf Le peS peS (qx _)).to (ha σ H _ R λv H1 g1 e1=>hb σ H1 _ (R.grow g1) λu H2 g2 e2=>⟨y,z,e1,e2,q _ H2 (g1.trans g2) rfl⟩)
theorem DB.gtS(ha:DT X ρ a (.str y))(hb:DT X ρ b (.str z)):DB X ρ (.Compare a [.Gt] [b] pos) (decide (z.cps.toList<y.cps.toList)):=λσ H Q R q =>(Je Le peS peS (qx _)).to (ha σ H _ R λv H1 g1 e1=>hb σ H1 _ (R.grow g1) λu H2 g2 e2=>⟨y,z,e1,e2,_,rfl,q H2 (g1.trans g2)⟩)
theorem DE.inS(ha:DT X ρ a (.str y))(hb:DT X ρ b (.str z))(hm:aF .In b=a4):DE X ρ (.Compare a [.In] [b] pos) (.bl (inS y z)):=λσ H Q R q =>(Jf Ld peS peS hm).to (ha σ H _ R λv H1 g1 e1=>hb σ H1 _ (R.grow g1) λu H2 g2 e2=>⟨y,z,e1,e2,q _ H2 (g1.trans g2) rfl⟩)
theorem DB.inS(ha:DT X ρ a (.str y))(hb:DT X ρ b (.str z))(hm:aF .In b=a4):DB X ρ (.Compare a [.In] [b] pos) (inS y z):=λσ H Q R q =>(Je Ld peS peS hm).to (ha σ H _ R λv H1 g1 e1=>hb σ H1 _ (R.grow g1) λu H2 g2 e2=>⟨y,z,e1,e2,_,rfl,q H2 (g1.trans g2)⟩)
theorem mulOk_of(h1:1<=k/\k<=1000)(h2:y.length<=1000):MulOk y k:=by
 refine⟨?_,λ_ _=>?_,λ_ _=>?_⟩
 .simp;omega
 .have:(1000:Int)<=(2^63-1)/k:=Int.le_ediv_of_mul_le nofun nofun
  omega
 .have hk:k.toNat<=1000:=by omega
  have:y.length*k.toNat<=1000000:=Nat.mul_le_mul h2 hk;unfold cw;rw[jA];simp;omega
theorem j39:OpR X (aW .Mult) (λx y H Q=>∃i k,x=.str i/\y=.int k/\MulOk i k/\Q (.str (iF i k)) H):=by intro pins s σ H x y v u Q I rx ry h;obtain⟨i,k,rfl,rfl,hm,q⟩:=h;obtain⟨t,rfl⟩:=rx;obtain⟨t',rfl⟩:=ry;exact SB.mul hm λt' tk=>⟨.str _,H,I.un (t':=tk) Un.refl I.hok,⟨_,rfl⟩,q⟩
theorem DE.mulS(ha:DT X ρ a (.str y))(hb:DT X ρ b (.int k))(h1:1<=k/\k<=1000)(h2:y.length<=1000):DE X ρ (.BinOp a .Mult b pos) (.str (iF y k)):=λσ H Q R q =>(U6 j39 peS peS).to (ha σ H _ R λv H1 g1 e1=>hb σ H1 _ (R.grow g1) λu H2 g2 e2=>⟨y,k,e1,e2,mulOk_of h1 h2,q _ H2 (g1.trans g2) rfl⟩)
theorem DE.chn(ha:DT X ρ a (.int i))(hb:DT X ρ b (.int j))(hc:DT X ρ c (.int k))(hm:kN [.Lt,.Lt] [b,c]=a4):DE X ρ (.Compare a [.Lt,.Lt] [b,c] pos) (.bl (decide (i<j)&&decide (j<k))):=λσ H Q R q =>
 (j7i Ks Ks peS peS peS hm).to (ha σ H _ R λv H1 g1 e1=>hb σ H1 _ (R.grow g1) λu H2 g2 e2=>⟨i,j,e1,e2,_,rfl,by
  by_cases h:i<j
  .rw[decide_eq_true h,if_pos rfl]
   exact hc σ H2 _ (R.grow (g1.trans g2)) λw H3 g3 e3=>⟨j,k,e2,e3,q _ H3 ((g1.trans g2).trans g3) (by rw[decide_eq_true h,gn];rfl)⟩
  .rw[decide_eq_false h,if_neg xj]
   exact q _ H2 (g1.trans g2) (by rw[decide_eq_false h,fO];rfl)⟩)
end
end L2
end
section
namespace L2
noncomputable def Zb(t:Int):List Int:=if t=2 then[0,1] else[t]
noncomputable def step(acc:List (List Int))(f:List Int):List (List Int):=acc.flatMap λa=>f.map λx=>a++[x]
noncomputable def ql(fs:List (List Int)):List (List Int):=fs.foldl step [[]]
noncomputable def zb:List (List Int)->List (List Int)
 |[]=>[[]]
 |f::fs=>f.flatMap λx=>(zb fs).map (x :: ·)
theorem Nv:∀(fs:List (List Int)) (acc:List (List Int)),fs.foldl step acc=acc.flatMap λa=>(zb fs).map (a ++ ·)
 |[],acc=>by simp[zb]
 |f::fs,acc=>by
  rw[Pr,Nv fs,step,List.flatMap_assoc];congr 1
  funext a
  rw[zb,List.map_flatMap,List.flatMap_map];congr 1
  funext x
  rw[Xc];congr 1
  funext r
  simp
theorem J6(fs:List (List Int)):ql fs=zb fs:=by rw[ql,Nv];simp
noncomputable def Vg:Nat->List (List Int)
 |0=>[[]]
 |m+1=>(Vg m).map (0 :: ·)++(Vg m).map (1 :: ·)
theorem Em:∀m,(Vg m).length=2^m
 |0=>rfl
 |m+1=>by rw[Vg,Xb,xf,xf,Em m,T9];omega
theorem Bg{b:Int}(hb:0<b)(n c:Int):∀{i m:Nat},i<=m->j6 b i (n+b^m*c)=j6 b i n
 |0,m,_=>rfl
 |i+1,m,h=>by
  rw[j6,j6,Bg hb n c nofun];congr 1;obtain⟨k,rfl⟩:∃k,m=i+(k+1):=⟨m-i-1,by omega⟩
  have hp:b^i≠0:=hJ (bJ hb);rw[Int.pow_add,kx,dO _ _ hp,gZ,dG (b^k) b,kx,Int.add_mul_emod_self_left]
theorem Eo:∀m:Nat,(ar (2^m)).map (λn=>j6 2 m ((n:Nat):Int))=Vg m
 |0=>rfl
 |m+1=>by
  have e:2^(m+1)=2^m+2^m:=by rw[T9];omega
  rw[e,List.range_add,Xq,Vg,<-Eo m,Xc,Xc,Xc];have pc:((2^m:Nat):Int)=(2:Int)^m:=by simp
  congr 1
  .apply Th;intro n hn;have hn':n<2^m:=Xd.mp hn;show j6 2 (m+1) (n:Int)=0::j6 2 m (n:Int);rw[j6];congr 1;have h0:(n:Int)/2^m=0:=Tp nofun (by rw[<-pc];omega)
   rw[h0];rfl
  .apply Th;intro n hn;have hn':n<2^m:=Xd.mp hn;show j6 2 (m+1) ((2^m+n:Nat):Int)=1::j6 2 m (n:Int);have e1:((2^m+n:Nat):Int)=(n:Int)+2^m*1:=by rw[jR,pc,iq,hV]
   rw[e1,j6,Bg (by decide) _ _ (X3 m)];congr 1;have hp:(2:Int)^m≠0:=hJ (bJ (by decide));have h0:(n:Int)/2^m=0:=Tp nofun (by rw[<-pc];omega)
   rw[dO _ _ hp,h0];rfl
noncomputable def fits:List Int->List Int->Bool
 |t::ts,x::xs=>(t==2 || t==x)&&fits ts xs
 |_,_=>a7
theorem Rb:∀{p:List Int},(∀t∈p,0<=t/\t<3)->(Vg p.length).filter (fits p)=zb (p.map Zb)
 |[],_=>rfl
 |t::ts,h=>by
  have ih:=Rb (p:=ts) λu hu=>h u (km _ hu);rw[xq,Vg,c7,X4,zb,<-ih];have key:∀x:Int,((Vg ts.length).map (x :: ·)).filter (fits (t::ts))=if (t==2 || t==x)=a7 then((Vg ts.length).filter (fits ts)).map (x :: ·) else[]:=λx=>by
   rw[jK];by_cases c:(t==2 || t==x)=a7
   .rw[if_pos c];congr 1;apply List.filter_congr;intro r _;show((t==2 || t==x)&&fits ts r)=fits ts r;rw[c,gn]
   .rw[if_neg c];have:(fits (t::ts) ∘ λr=>x::r)=λ_=>a4:=by
     funext r
     show((t==2 || t==x)&&fits ts r)=a4;rw[Bool.eq_false_iff.mpr c,fO]
    rw[this];simp
  rw[key 0,key 1];have ht:=h t (xn ..);have:t=0\/t=1\/t=2:=by omega
  rcases this with e|e|e<;>subst e<;>simp[Zb]
theorem Ye:∀p:List Int,(zb (p.map Zb)).length=2^(p.countP λt=>t==2)
 |[]=>rfl
 |t::ts=>by
  have ih:=Ye ts;rw[X4,zb,Xu];by_cases c:t=2
  .subst c;simp[Zb,ih,T9];omega
  .have e1:Zb t=[t]:=if_neg c;have e2:(t==2)=a4:=by simpa using c
   rw[e1,e2];simp[ih]
end L2
end
section
namespace L2
open PySem
inductive Sv where
 |un
 |val (d:D)
 |own (l:List D)
 |exc (x:ah)
noncomputable abbrev En:=List Sv
set_option genInjectivity true in
inductive Rk where
 |e (d:D)
 |o (l:List D)
 |w (l:List D)
 |t (d:D)
noncomputable def Rk.d:Rk->D
 |.e d=>d
 |.o l=>.lst l
 |.w l=>.lst l
 |.t d=>d
noncomputable def Rk.st:Rk->Option D
 |.e d=>a3 d
 |.o l=>a3 (.lst l)
 |.w l=>a6
 |.t d=>if Qo d=a7 then a3 d else a6
noncomputable def Rk.sq:Rk->Option (Bool×List D)
 |.e (.lst l)=>a3 (a7,l)
 |.e (.tup l)=>a3 (a4,l)
 |.o l=>a3 (a7,l)
 |.w l=>a3 (a7,l)
 |_=>a6
noncomputable def Rk.lw:Rk->Option (List D)
 |.o l=>a3 l
 |.w l=>a3 l
 |_=>a6
inductive Rc where
 |val (d:D)
 |fresh (l:List D)
 |err (x:ah)
 |lval (d:D)
 |no
noncomputable def Rc.rk:Rc->Option Rk
 |.val d=>a3 (.e d)
 |.fresh l=>a3 (.o l)
 |_=>a6
inductive Bop where
 |add|sub|mul|fdiv|mod|pow|shl|shr|band|bxor
inductive Cop where
 |lt|le|gt|ge|eq|ne|isin|notin
inductive Bf where
 |len|min|max|all|tuple|list|sum|int|any|sorted
inductive Mf where
 |count
inductive Ex where
 |lit (d:D)
 |var (i:Nat)
 |glob (x:ah)
 |bin (op:Bop) (a b:Ex)
 |neg (a:Ex)
 |cmp (op:Cop) (a b:Ex)
 |isN (a:Ex)
 |and (a b:Ex)
 |or (a b:Ex)
 |not (a:Ex)
 |ite (c a b:Ex)
 |nil
 |cons (a b:Ex)
 |tup (es:Ex)
 |lst (es:Ex)
 |ix (a b:Ex)
 |sl (a lo hi:Ex)
 |call (f:ah) (es:Ex)
 |blt (f:Bf) (es:Ex)
 |meth (m:Mf) (a es:Ex)
 |isi (a:Ex) (ts:List String)
 |comp (is:List Nat) (elt it cond:Ex)
 |seq (a:Ex)
 |range (es:Ex)
 |join (sep:ah) (a:Ex)
 |enum (a:Ex)
 |lset (a:Ex)
 |lrng (a:Ex)
 |tix (a b:Ex)
 |dzip (a b:Ex)
 |callD (f:ah) (es:Ex)
 |chn (a b c:Ex)
 |callK (f:ah) (es a:Ex)
 |dix (a b:Ex)
 |dnil
 |rpr (a:Ex)
 |upr (a:Ex)
 |din (a b:Ex)
 |items (a:Ex)
 |callV (i:Nat) (es:Ex)
 |dget (a b:Ex)
 |dvals (a:Ex)
 |minT (a:Ex)
set_option genInjectivity true in
inductive W where
 |v (r:Rk)
 |a (rs:List Rk)
 |i (ds:List D)
noncomputable def jk(n:Nat):Bool:=decide (n<=ak)
noncomputable def binI:Bop->Int->Int->Option Int
 |.add,i,j=>a3 (i+j)
 |.sub,i,j=>a3 (i-j)
 |.mul,i,j=>if (-(2^64)<i/\i<2^64)\/(-(2^64)<j/\j<2^64)then a3 (i*j)else a6
 |.fdiv,i,j=>if 0<j/\j<18446744073709551616 then a3 (i/j)else a6
 |.mod,i,j=>if 0<j then a3 (i%j)else a6
 |.pow,i,j=>if 0<=j/\j<=1000000/\i.natAbs<2^64 then a3 (i^j.toNat)else a6
 |.shl,i,j=>if 0<=j/\j<=1000000/\i.natAbs<2^64 then a3 (i*2^j.toNat)else a6
 |.shr,i,j=>if 0<=j then a3 (i/2^j.toNat)else a6
 |.band,i,j=>a3 (Builtin.bitAnd i j)
 |.bxor,i,j=>a3 (Builtin.bitXor i j)
noncomputable def Vx(op:Bop)(a b:Rk):Option Rk :=
 match a.d,b.d with
 |.int i,.int j=>(binI op i j).map λk=>.e (.int k)
 |.str y,.str z=>match op with
  |.add=>if jk (y.length+z.length)=a7 then a3 (.e (.str (y++z)))else a6
  |_=>a6
 |.str y,.int k=>match op with
  |.mul=>if (1<=k/\k<=1000)/\y.length<=1000 then a3 (.e (.str (iF y k)))else a6
  |_=>a6
 |_,_=>match op,a.sq,b.sq,b.d with
  |.add,a3 (a7,l),a3 (a7,m),_=>if jk (l.length+m.length)=a7 then a3 (.o (l++m))else a6
  |.add,a3 (a4,l),a3 (a4,m),_=>if jk (l.length+m.length)=a7 then a3 (.e (.tup (l++m)))else a6
  |.mul,a3 (a4,l),_,.int k=>if 1<=k/\k<2^63/\l.isEmpty=a4/\jk (l.length*k.toNat)=a7 then a3 (.e (.tup (ae k.toNat l).flatten))else a6
  |.mul,_,_,.int k=>match a.lw with
   |some l=>if -(2^63)<=k/\k<2^63/\jk (l.length*k.toNat)=a7 then a3 (.o (ae k.toNat l).flatten)else a6
   |none=>a6
  |_,_,_,_=>a6
noncomputable def cmpI:Cop->Int->Int->Option Bool
 |.lt,i,j=>a3 (decide (i<j))
 |.le,i,j=>a3 (decide (i<=j))
 |.gt,i,j=>a3 (decide (j<i))
 |.ge,i,j=>a3 (decide (j<=i))
 |.eq,i,j=>a3 (decide (i=j))
 |.ne,i,j=>a3 (!decide (i=j))
 |_,_,_=>a6
noncomputable def D.sqv:D->Option (Bool×List D)
 |.lst l=>a3 (a7,l)
 |.tup l=>a3 (a4,l)
 |_=>a6
noncomputable def Wf(op:Cop)(a b:D):Option Bool :=
 match op,a,b with
 |op,.int i,.int j=>cmpI op i j
 |.eq,a,b=>if a.dep<=90/\b.dep<=90 then a3 (deq a b)else a6
 |.ne,.bl a,.bl b=>a3 (a != b)
 |.ne,.str a,.str b=>a3 (!decide (a=b))
 |.ne,.non,.non=>a3 a4
 |.ne,.lst l,.lst m=>if D.depL l<=90/\D.depL m<=90 then a3 (!v8 l m)else a6
 |.ne,.tup l,.tup m=>if D.depL l<=90/\D.depL m<=90 then a3 (!v8 l m)else a6
 |.isin,.str a,.str b=>a3 (inS a b)
 |.lt,.str a,.str b=>a3 (decide (a.cps.toList<b.cps.toList))
 |.gt,.str a,.str b=>a3 (decide (b.cps.toList<a.cps.toList))
 |.isin,a,b=>match b.sqv with
  |some (_,l)=>if D.depL l<=90/\a.dep<=90 then a3 (l.any λe=>deq e a)else a6
  |none=>a6
 |.notin,a,b=>match b.sqv with
  |some (_,l)=>if D.depL l<=90/\a.dep<=90 then a3 (!l.any λe=>deq e a)else a6
  |none=>a6
 |_,_,_=>a6
noncomputable def boolsOf:List D->Option (List Bool)
 |[]=>a3 []
 |.bl b::r=>(boolsOf r).map (b :: ·)
 |_::_=>a6
noncomputable def intsOf:List D->Option (List Int)
 |[]=>a3 []
 |.int b::r=>(intsOf r).map (b :: ·)
 |_::_=>a6
noncomputable def strsOf:List D->Option (List ah)
 |[]=>a3 []
 |.str b::r=>(strsOf r).map (b :: ·)
 |_::_=>a6
noncomputable def Vc:Bf->List Rk->Option Rk
 |.len,[a]=>match a.d with
  |.lst l=>a3 (.e (.int l.length))
  |.tup l=>a3 (.e (.int l.length))
  |.str y=>if jk y.length=a7 then a3 (.e (.int y.length))else a6
  |_=>a6
 |.min,[a,b]=>match a.d,b.d with
  |.int i,.int j=>a3 (.e (.int (if j<i then j else i)))
  |_,_=>a6
 |.max,[a,b]=>match a.d,b.d with
  |.int i,.int j=>a3 (.e (.int (if j>i then j else i)))
  |_,_=>a6
 |.max,[a]=>match a.d with
  |.lst l=>match intsOf l with
   |some ns=>if ns.isEmpty=a4 then a3 (.e (.int (ju ns)))else a6
   |none=>a6
  |_=>a6
 |.min,[a]=>match a.d with
  |.lst l=>match intsOf l with
   |some ns=>if ns.isEmpty=a4 then a3 (.e (.int (Q0 ns)))else a6
   |none=>a6
  |_=>a6
 |.all,[a]=>match a.d with
  |.lst l=>(boolsOf l).map λbs=>.e (.bl (bs.all id))
  |_=>a6
 |.any,[a]=>match a.d with
  |.lst l=>(boolsOf l).map λbs=>.e (.bl (bs.any id))
  |_=>a6
 |.tuple,[a]=>match a.sq with
  |some (_,l)=>a3 (.e (.tup l))
  |none=>a6
 |.list,[a]=>match a.sq with
  |some (_,l)=>a3 (.o l)
  |none=>a6
 |.sum,[a]=>match a.d with
  |.lst l=>(intsOf l).map λns=>.e (.int ns.sum)
  |.tup l=>(intsOf l).map λns=>.e (.int ns.sum)
  |_=>a6
 |.int,[a]=>match a.d with
  |.bl k=>a3 (.e (.int (if k then 1 else 0)))
  |_=>a6
 |_,_=>a6
noncomputable def j3e:Mf->Rk->List Rk->Option Rk
 |.count,a,[b]=>match a.d with
  |.tup l=>if D.depL l<=90/\b.d.dep<=90 then a3 (.e (.int (l.countP λe=>deq e b.d)))else a6
  |.lst l=>if D.depL l<=90/\b.d.dep<=90 then a3 (.e (.int (l.countP λe=>deq e b.d)))else a6
  |_=>a6
 |_,_,_=>a6
noncomputable def jer(t c:String):Option Bool :=
 if t = "function" then a6 else
 if c = "int" then a3 (t == "int" || t == "bool") else
 if c = "bool" then a3 (t == "bool") else
 if c = "str" then a3 (t == "str") else
 if c = "list" then a3 (t == "list") else
 if c = "tuple" then a3 (t == "tuple")else a6
noncomputable def jes(d:D):List String->Option Bool
 |[]=>a3 a4
 |c::cs=>match jer d.ty c,jes d cs with
  |some a,a3 b=>a3 (a || b)
  |_,_=>a6
noncomputable def qz:List Nat->D->En->Option En
 |[i],d,ρ=>a3 (ρ.set i (.val d))
 |[i,j],d,ρ=>match d with
  |.tup [a,b]=>a3 ((ρ.set i (.val a)).set j (.val b))
  |_=>a6
 |[i,j,k],d,ρ=>match d with
  |.tup [a,.tup [b,c]]=>a3 (((ρ.set i (.val a)).set j (.val b)).set k (.val c))
  |_=>a6
 |[i,j,k,_],d,ρ=>match d with
  |.tup [a,b,c]=>a3 (((ρ.set i (.val a)).set j (.val b)).set k (.val c))
  |_=>a6
 |_,_,_=>a6
noncomputable def Kw(is:List Nat)(ρ:En):Bool:=is.all λi=>match ρ[i]? with
 |some .un=>a7
 |_=>a4
noncomputable def Jw(f:D->Option (Option D)):List D->Option (List D)
 |[]=>a3 []
 |d::ds=>match f d,Jw f ds with
  |some (a3 x),a3 xs=>a3 (x::xs)
  |some a6,a3 xs=>a3 xs
  |_,_=>a6
noncomputable def zp:List Rk->Option (List D)
 |[]=>a3 []
 |r::rs=>match r.st,zp rs with
  |some d,a3 ds=>a3 (d::ds)
  |_,_=>a6
noncomputable def W.one:W->Option Rk
 |.v r=>a3 r
 |_=>a6
noncomputable def W.args:W->Option (List Rk)
 |.a rs=>a3 rs
 |_=>a6
noncomputable def W.it:W->Option (List D)
 |.i ds=>a3 ds
 |_=>a6
noncomputable def Qj:Option W->Option (Option Int)
 |some (.a [])=>a3 a6
 |some (.a [r])=>match r.d with
  |.int i=>a3 (a3 i)
  |_=>a6
 |_=>a6
noncomputable def truth:Option W->Option Bool
 |some (.v r)=>match r.d with
  |.bl k=>a3 k
  |_=>a6
 |_=>a6
noncomputable def j85:Ex->Option Nat
 |.seq (.var i)=>a3 i
 |.enum (.var i)=>a3 i
 |_=>a6
noncomputable def frz(t:Ex)(ρ:En):En:=match j85 t with
 |some i=>match ρ[i]? with
  |some (.own l)=>ρ.set i (.val (.lst l))
  |_=>ρ
 |none=>ρ
noncomputable def J4(t:Ex)(ρ:En):Bool:=match j85 t with
 |some i=>match ρ[i]? with
  |some (.own _)=>a7
  |_=>a4
 |none=>a4
noncomputable def j9c:D->Option ah
 |.int i=>if -18446744073709551616<i/\i<18446744073709551616 then a3 (cN (toString i))else a6
 |.str y=>if y.length<=2000 then a3 y else a6
 |_=>a6
noncomputable def j1r:List Rk->Option (List ah)
 |[]=>a3 []
 |r::rs=>match j9c r.d,j1r rs with
  |some y,a3 ys=>a3 (y::ys)
  |_,_=>a6
noncomputable def bang(x:ah):ah:=("!":ah)++x
noncomputable def qm(f:ah):ah:=("??":ah)++f
noncomputable def tupI:D->Option (List Int)
 |.tup l=>intsOf l
 |_=>a6
noncomputable def j3d(kf:D->Option Int):D->Int->List D->Option D
 |b,_,[]=>a3 b
 |b,kb,d::ds=>match kf d with
  |some k=>if k<kb then j3d kf d k ds else j3d kf b kb ds
  |none=>a6
noncomputable def Yx:List D->Option (List (List Int))
 |[]=>a3 []
 |d::ds=>match tupI d,Yx ds with
  |some k,a3 ks=>a3 (k::ks)
  |_,_=>a6
noncomputable def prI:D->Option (Int×List Int)
 |.tup [.int a,d]=>(tupI d).map λk=>(a,k)
 |_=>a6
noncomputable def Dk:List D->Option (List (Int×List Int))
 |[]=>a3 []
 |d::ds=>match prI d,Dk ds with
  |some k,a3 ks=>a3 (k::ks)
  |_,_=>a6
noncomputable def Rc.lv:Rc->Option W
 |.lval d=>a3 (.v (.e d))
 |_=>a6
noncomputable def jiq(w:Option W):Option W:=match w with
 |some (.v x)=>match x.d with
  |.str y=>if y.length<=1000 then a3 (.v (.e (.str (PySem.Txt.upper y))))else a6
  |_=>a6
 |_=>a6
noncomputable def Ft(s:Option Sv):Option W:=match s with
 |some (.val d)=>a3 (.v (.e d))
 |some (.own l)=>a3 (.v (.w l))
 |_=>a6
noncomputable def blW(i:Option Bool):Option W:=i.map λk=>.v (.e (.bl k))
noncomputable def rkW(r:Option Rk):Option W:=r.map .v
noncomputable def Jm(op:Bop)(a b:Option W):Option W:=match a,b with
 |some (.v x),a3 (.v y)=>rkW (Vx op x y)
 |_,_=>a6
noncomputable def j06(a:Option W):Option W:=match a with
 |some (.v x)=>match x.d with
  |.int i=>a3 (.v (.e (.int (-i))))
  |_=>a6
 |_=>a6
noncomputable def Ca(op:Cop)(a b:Option W):Option W:=match a,b with
 |some (.v x),a3 (.v y)=>blW (Wf op x.d y.d)
 |_,_=>a6
noncomputable def consW(a b:Option W):Option W:=match a,b with
 |some (.v x),a3 (.a xs)=>a3 (.a (x::xs))
 |_,_=>a6
noncomputable def Yd(a:Option W):Option W:=match a with
 |some (.a rs)=>match zp rs with
  |some ds=>if jk ds.length=a7 then a3 (.v (.e (.tup ds)))else a6
  |none=>a6
 |_=>a6
noncomputable def Ym(a:Option W):Option W:=match a with
 |some (.a rs)=>match zp rs with
  |some ds=>if jk ds.length=a7 then a3 (.v (.o ds))else a6
  |none=>a6
 |_=>a6
noncomputable def ixW(a b:Option W):Option W:=match a,b with
 |some (.v x),a3 (.v y)=>match x.sq,y.d with
  |some (_,l),.int i=>(atI l i).map λd=>.v (.e d)
  |none,.int i=>match x.d with
   |.str z=>if jk z.length=a7 then(atI z.cps.toList i).map λc=>.v (.e (.str ⟨#[c]⟩))else a6
   |_=>a6
  |_,_=>a6
 |_,_=>a6
noncomputable def Mp(sep:ah)(a:Option W):Option W:=match a with
 |some (.v x)=>match x.d with
  |.lst l=>match strsOf l with
   |some ts=>if eV sep ts=a7 then a3 (.v (.e (.str (dU sep ts))))else a6
   |none=>a6
  |_=>a6
 |_=>a6
noncomputable def De(a b:Option W):Option W:=match a,b with
 |some (.v x),a3 (.v y)=>match x.d with
  |.tup l=>if D.depL l<=90/\y.d.dep<=90 then(ixD y.d l).map λk=>.v (.e (.int (k:Nat)))else a6
  |.lst l=>if D.depL l<=90/\y.d.dep<=90 then(ixD y.d l).map λk=>.v (.e (.int (k:Nat)))else a6
  |_=>a6
 |_,_=>a6
noncomputable def jhf(a:Option W):Option W:=match a with
 |some (.v y)=>match y.d with
  |.int n=>if 0<=n/\n<=1000000 then a3 (.v (.o ((ar n.toNat).map λ(i:Nat)=>D.int (i:Int))))else a6
  |_=>a6
 |_=>a6
noncomputable def Ml(a:Option W):Option W:=match a with
 |some (.v x)=>match x.d with
  |.lst l=>match strsOf l with
   |some ts=>if ts.length<4000 then a3 (.v (.e (.int (dd ts).length)))else a6
   |none=>a6
  |_=>a6
 |_=>a6
noncomputable def Mq(a:Option W):Option W:=match a with
 |some (.v x)=>match x.st with
  |some (.lst l)=>a3 (.i (Jt l))
  |some (.tup l)=>a3 (.i (Jt l))
  |_=>a6
 |_=>a6
noncomputable def Qq(Γ:ah->List D->Rc)(f:ah)(a:Option W):Option W:=match a with
 |some (.a rs)=>match zp rs with
  |some ds=>rkW (Γ f ds).rk
  |none=>match Γ f (rs.map Rk.d) with
   |.val d=>a3 (.v (.t d))
   |_=>a6
 |_=>a6
noncomputable def vz(f:Bf)(a:Option W):Option W:=match a with
 |some (.a rs)=>rkW (Vc f rs)
 |_=>a6
noncomputable def Mj(m:Mf)(a b:Option W):Option W:=match a,b with
 |some (.v x),a3 (.a rs)=>rkW (j3e m x rs)
 |_,_=>a6
noncomputable def jjh(a:Option W)(ts:List String):Option W:=match a with
 |some (.v x)=>blW (jes x.d ts)
 |_=>a6
noncomputable def Om(a:Option W):Option W:=match a with
 |some (.v (.e (.lst l)))=>a3 (.i l)
 |some (.v (.e (.tup l)))=>a3 (.i l)
 |some (.v (.o l))=>a3 (.i l)
 |some (.v (.e (.str y)))=>if ascii y=a7 then a3 (.i (chs y))else a6
 |_=>a6
noncomputable def Us(a:Option W):Option W:=match a with
 |some (.a [x])=>match x.d with
  |.int n=>if -(2^62)<=n/\n<2^62 then a3 (.i (upto 0 n.toNat))else a6
  |_=>a6
 |some (.a [x,y])=>match x.d,y.d with
  |.int m,.int n=>if -(2^62)<=m/\m<2^62/\-(2^62)<=n/\n<2^62 then a3 (.i (upto m (n-m).toNat))else a6
  |_,_=>a6
 |_=>a6
noncomputable def jjn(a b:Option W):Option W:=match a,b with
 |some (.v x),a3 (.v y)=>match x.d,y.d with
  |.tup l,.dct ks _=>(intsOf l).map λk=>.v (.e (.bl (ks.contains k)))
  |_,_=>a6
 |_,_=>a6
noncomputable def jen(a:Option W):Option W:=match a with
 |some (.v (.e (.dct ks ds)))=>a3 (.i (jeo ks ds))
 |_=>a6
noncomputable def ji3(a b:Option W):Option W:=match a,b with
 |some (.v x),a3 (.v y)=>match x.st.bind D.sqv,y.st.bind D.sqv with
  |some (_,l),a3 (_,m)=>match strsOf l,intsOf m with
   |some ks,a3 ns=>if ks.Nodup/\ks.length=ns.length/\jk ks.length=a7 then a3 (.v (.e (.sct (ks.zip ns))))else a6
   |_,_=>a6
  |_,_=>a6
 |_,_=>a6
noncomputable def j0q(a b c:Option W):Option W:=match a,b,c with
 |some (.v x),a3 (.v y),a3 (.v z)=>match x.d,y.d,z.d with
  |.int i,.int j,.int k=>a3 (.v (.e (.bl (decide (i<j)&&decide (j<k)))))
  |_,_,_=>a6
 |_,_,_=>a6
noncomputable def Ux(Γ:ah->List D->Rc)(s:Option Sv)(a:Option W):Option W:=match s,a with
 |some (.val (.fn x cs)),a3 (.a rs)=>match zp rs with
  |some ds=>if vg ds=a7 then(Γ (jq x) (cs++ds)).lv else a6
  |none=>a6
 |_,_=>a6
noncomputable def Mr(a b:Option W):Option W:=match a,b with
 |some (.v (.e (.dct ks ds))),a3 (.v y)=>match tupI y.d with
  |some k=>(zu ks ds k).map λd=>.v (.e d)
  |none=>a6
 |_,_=>a6
noncomputable def Ro(a:Option W):Option W:=match a with
 |some (.v (.e (.dct _ ds)))=>a3 (.v (.e (.tup ds)))
 |_=>a6
noncomputable def U7(a:Option W):Option W:=match a with
 |some (.v x)=>match x.d with
  |.lst l=>match Yx l with
   |some ks=>(ks[aE (Jb ks) (ks.length-1)]?).map λk=>.v (.t (.tup (k.map D.int)))
   |none=>match Dk l with
    |some ps=>(ps[aE (Z8 ps) (ps.length-1)]?).map λk=>.v (.t (pairD k))
    |none=>a6
  |_=>a6
 |_=>a6
noncomputable def jjm(a b:Option W):Option W:=match a,b with
 |some (.v x),a3 (.v y)=>match x.d,y.d with
  |.sct kvs,.str k=>(jjl kvs k).map λn=>.v (.e (.int n))
  |_,_=>a6
 |_,_=>a6
noncomputable def ev(Γ:ah->List D->Rc)(G:ah->Option D):Ex->En->Option W
 |.lit d,_=>a3 (.v (.e d))
 |.var i,ρ=>Ft ρ[i]?
 |.glob x,_=>(G x).map λd=>.v (.e d)
 |.bin op a b,ρ=>Jm op (ev Γ G a ρ) (ev Γ G b ρ)
 |.neg a,ρ=>j06 (ev Γ G a ρ)
 |.cmp op a b,ρ=>Ca op (ev Γ G a ρ) (ev Γ G b ρ)
 |.isN a,ρ=>match ev Γ G a ρ with
  |some (.v x)=>a3 (.v (.e (.bl x.d.isNon)))
  |_=>a6
 |.and a b,ρ=>match truth (ev Γ G a ρ) with
  |some a4=>a3 (.v (.e (.bl a4)))
  |some a7=>(truth (ev Γ G b ρ)).map λk=>.v (.e (.bl k))
  |none=>a6
 |.or a b,ρ=>match truth (ev Γ G a ρ) with
  |some a7=>a3 (.v (.e (.bl a7)))
  |some a4=>(truth (ev Γ G b ρ)).map λk=>.v (.e (.bl k))
  |none=>a6
 |.not a,ρ=>(truth (ev Γ G a ρ)).map λk=>.v (.e (.bl (!k)))
 |.ite c a b,ρ=>match truth (ev Γ G c ρ) with
  |some a7=>match ev Γ G a ρ with
   |some (.v x)=>x.st.map λd=>.v (.e d)
   |_=>a6
  |some a4=>match ev Γ G b ρ with
   |some (.v x)=>x.st.map λd=>.v (.e d)
   |_=>a6
  |none=>a6
 |.nil,_=>a3 (.a [])
 |.cons a b,ρ=>consW (ev Γ G a ρ) (ev Γ G b ρ)
 |.tup es,ρ=>Yd (ev Γ G es ρ)
 |.lst es,ρ=>Ym (ev Γ G es ρ)
 |.ix a b,ρ=>ixW (ev Γ G a ρ) (ev Γ G b ρ)
 |.sl a lo hi,ρ=>match ev Γ G a ρ,Qj (ev Γ G lo ρ),Qj (ev Γ G hi ρ) with
  |some (.v x),a3 l,a3 h=>match x.sq with
   |some (a7,ds)=>a3 (.v (.o (cutD ds l h)))
   |some (a4,ds)=>if HT.sIx ds.length 0 l=0/\HT.sIx ds.length ds.length h=ds.length then a6 else a3 (.v (.e (.tup (cutD ds l h))))
   |none=>match x.d with
    |.str z=>if jk z.length=a7 then a3 (.v (.e (.str (bD z l h))))else a6
    |_=>a6
  |_,_,_=>a6
 |.call f es,ρ=>Qq Γ f (ev Γ G es ρ)
 |.blt f es,ρ=>vz f (ev Γ G es ρ)
 |.meth m a es,ρ=>Mj m (ev Γ G a ρ) (ev Γ G es ρ)
 |.isi a ts,ρ=>jjh (ev Γ G a ρ) ts
 |.comp is elt it cond,ρ=>match ev Γ G it (frz it ρ) with
  |some (.i ds)=>if Kw is (frz it ρ)=a7/\jk ds.length=a7 then
    (Jw (λd=>match qz is d (frz it ρ) with
     |none=>a6
     |some ρ2=>match ev Γ G cond ρ2 with
      |some (.a [])=>match ev Γ G elt ρ2 with
       |some (.v x)=>x.st.map a3
       |_=>a6
      |some (.a [y])=>match y.d with
       |.bl a7=>match ev Γ G elt ρ2 with
        |some (.v x)=>x.st.map a3
        |_=>a6
       |.bl a4=>a3 a6
       |_=>a6
      |_=>a6) ds).bind λl=>if (J4 it ρ && !qy l)=a7 then a6 else a3 (.v (.o l))
   else a6
  |_=>a6
 |.seq a,ρ=>Om (ev Γ G a ρ)
 |.chn a b c,ρ=>j0q (ev Γ G a ρ) (ev Γ G b ρ) (ev Γ G c ρ)
 |.range es,ρ=>Us (ev Γ G es ρ)
 |.join sep a,ρ=>Mp sep (ev Γ G a ρ)
 |.enum a,ρ=>Mq (ev Γ G a ρ)
 |.tix a b,ρ=>De (ev Γ G a ρ) (ev Γ G b ρ)
 |.dzip a b,ρ=>ji3 (ev Γ G a ρ) (ev Γ G b ρ)
 |.callD f es,ρ=>match ev Γ G es ρ with
  |some (.a rs)=>match zp rs with
   |some ds=>match Γ f (ds++[.non]) with
    |.val d=>a3 (.v (.e d))
    |_=>a6
   |none=>a6
  |_=>a6
 |.callK f es a,ρ=>match ev Γ G es ρ,ev Γ G a ρ with
  |some (.a rs),a3 (.v x)=>match zp rs,x.st with
   |some ds,a3 d'=>match Γ f (ds++[d']) with
    |.val d=>a3 (.v (.e d))
    |_=>a6
   |_,_=>a6
  |_,_=>a6
 |.dix a b,ρ=>jjm (ev Γ G a ρ) (ev Γ G b ρ)
 |.dnil,_=>a3 (.v (.e (.sct [])))
 |.rpr a,ρ=>match ev Γ G a ρ with
  |some (.v x)=>match x.d with
   |.str y=>if (reprText y).length<=2000 then a3 (.v (.e (.str (reprText y))))else a6
   |_=>a6
  |_=>a6
 |.upr a,ρ=>jiq (ev Γ G a ρ)
 |.lrng a,ρ=>jhf (ev Γ G a ρ)
 |.lset a,ρ=>Ml (ev Γ G a ρ)
 |.din a b,ρ=>jjn (ev Γ G a ρ) (ev Γ G b ρ)
 |.items a,ρ=>jen (ev Γ G a ρ)
 |.callV i es,ρ=>Ux Γ ρ[i]? (ev Γ G es ρ)
 |.dget a b,ρ=>Mr (ev Γ G a ρ) (ev Γ G b ρ)
 |.dvals a,ρ=>Ro (ev Γ G a ρ)
 |.minT a,ρ=>U7 (ev Γ G a ρ)
section
variable{Γ:ah->List D->Rc}{G:ah->Option D}{ρ:En}
theorem Ie{d}:ev Γ G (.lit d) ρ=(a3 (.v (.e d))):=(rfl)
theorem ji9{i}:ev Γ G (.var i) ρ=(Ft ρ[i]?):=(rfl)
theorem jg8{x}:ev Γ G (.glob x) ρ=((G x).map λd=>.v (.e d)):=(rfl)
theorem jih{op a b}:ev Γ G (.bin op a b) ρ=(Jm op (ev Γ G a ρ) (ev Γ G b ρ)):=(rfl)
theorem jid{a}:ev Γ G (.neg a) ρ=(j06 (ev Γ G a ρ)):=(rfl)
theorem j9u{op a b}:ev Γ G (.cmp op a b) ρ=(Ca op (ev Γ G a ρ) (ev Γ G b ρ)):=(rfl)
theorem j3z{a}:ev Γ G (.isN a) ρ=(match ev Γ G a ρ with
  |some (.v x)=>a3 (.v (.e (.bl x.d.isNon)))
  |_=>a6):=(rfl)
theorem jii{a b}:ev Γ G (.and a b) ρ=(match truth (ev Γ G a ρ) with
  |some a4=>a3 (.v (.e (.bl a4)))
  |some a7=>(truth (ev Γ G b ρ)).map λk=>.v (.e (.bl k))
  |none=>a6):=(rfl)
theorem jju{a b}:ev Γ G (.or a b) ρ=(match truth (ev Γ G a ρ) with
  |some a7=>a3 (.v (.e (.bl a7)))
  |some a4=>(truth (ev Γ G b ρ)).map λk=>.v (.e (.bl k))
  |none=>a6):=(rfl)
theorem Ib{a}:ev Γ G (.not a) ρ=((truth (ev Γ G a ρ)).map λk=>.v (.e (.bl (!k)))):=(rfl)
theorem jif{c a b}:ev Γ G (.ite c a b) ρ=(match truth (ev Γ G c ρ) with
  |some a7=>match ev Γ G a ρ with
   |some (.v x)=>x.st.map λd=>.v (.e d)
   |_=>a6
  |some a4=>match ev Γ G b ρ with
   |some (.v x)=>x.st.map λd=>.v (.e d)
   |_=>a6
  |none=>a6):=(rfl)
theorem Mz:ev Γ G (.nil) ρ=(a3 (.a [])):=(rfl)
theorem Fp{a b}:ev Γ G (.cons a b) ρ=(consW (ev Γ G a ρ) (ev Γ G b ρ)):=(rfl)
theorem jia{es}:ev Γ G (.tup es) ρ=(Yd (ev Γ G es ρ)):=(rfl)
theorem jie{es}:ev Γ G (.lst es) ρ=(Ym (ev Γ G es ρ)):=(rfl)
theorem jjv{a b}:ev Γ G (.ix a b) ρ=(ixW (ev Γ G a ρ) (ev Γ G b ρ)):=(rfl)
theorem jjt{a lo hi}:ev Γ G (.sl a lo hi) ρ=(match ev Γ G a ρ,Qj (ev Γ G lo ρ),Qj (ev Γ G hi ρ) with
  |some (.v x),a3 l,a3 h=>match x.sq with
   |some (a7,ds)=>a3 (.v (.o (cutD ds l h)))
   |some (a4,ds)=>if HT.sIx ds.length 0 l=0/\HT.sIx ds.length ds.length h=ds.length then a6 else a3 (.v (.e (.tup (cutD ds l h))))
   |none=>match x.d with
    |.str z=>if jk z.length=a7 then a3 (.v (.e (.str (bD z l h))))else a6
    |_=>a6
  |_,_,_=>a6):=(rfl)
theorem jgc{f es}:ev Γ G (.call f es) ρ=(Qq Γ f (ev Γ G es ρ)):=(rfl)
theorem Wm{f es}:ev Γ G (.blt f es) ρ=(vz f (ev Γ G es ρ)):=(rfl)
theorem jg5{m a es}:ev Γ G (.meth m a es) ρ=(Mj m (ev Γ G a ρ) (ev Γ G es ρ)):=(rfl)
theorem jgb{is elt it cond}:ev Γ G (.comp is elt it cond) ρ=(match ev Γ G it (frz it ρ) with
  |some (.i ds)=>if Kw is (frz it ρ)=a7/\jk ds.length=a7 then
    (Jw (λd=>match qz is d (frz it ρ) with
     |none=>a6
     |some ρ2=>match ev Γ G cond ρ2 with
      |some (.a [])=>match ev Γ G elt ρ2 with
       |some (.v x)=>x.st.map a3
       |_=>a6
      |some (.a [y])=>match y.d with
       |.bl a7=>match ev Γ G elt ρ2 with
        |some (.v x)=>x.st.map a3
        |_=>a6
       |.bl a4=>a3 a6
       |_=>a6
      |_=>a6) ds).bind λl=>if (J4 it ρ && !qy l)=a7 then a6 else a3 (.v (.o l))
   else a6
  |_=>a6):=(rfl)
theorem jic{a}:ev Γ G (.seq a) ρ=(Om (ev Γ G a ρ)):=(rfl)
theorem jig{a b c}:ev Γ G (.chn a b c) ρ=(j0q (ev Γ G a ρ) (ev Γ G b ρ) (ev Γ G c ρ)):=(rfl)
theorem jce{es}:ev Γ G (.range es) ρ=(Us (ev Γ G es ρ)):=(rfl)
theorem jg7{sep a}:ev Γ G (.join sep a) ρ=(Mp sep (ev Γ G a ρ)):=(rfl)
theorem jg9{a}:ev Γ G (.enum a) ρ=(Mq (ev Γ G a ρ)):=(rfl)
theorem jib{a b}:ev Γ G (.tix a b) ρ=(De (ev Γ G a ρ) (ev Γ G b ρ)):=(rfl)
theorem jch{f es}:ev Γ G (.callD f es) ρ=(match ev Γ G es ρ with
  |some (.a rs)=>match zp rs with
   |some ds=>match Γ f (ds++[.non]) with
    |.val d=>a3 (.v (.e d))
    |_=>a6
   |none=>a6
  |_=>a6):=(rfl)
theorem jg6{a}:ev Γ G (.lset a) ρ=(Ml (ev Γ G a ρ)):=(rfl)
theorem jcg{i es}:ev Γ G (.callV i es) ρ=(Ux Γ ρ[i]? (ev Γ G es ρ)):=(rfl)
theorem jga{a b}:ev Γ G (.dget a b) ρ=(Mr (ev Γ G a ρ) (ev Γ G b ρ)):=(rfl)
theorem jcf{a}:ev Γ G (.dvals a) ρ=(Ro (ev Γ G a ρ)):=(rfl)
theorem jg4{a}:ev Γ G (.minT a) ρ=(U7 (ev Γ G a ρ)):=(rfl)
end
noncomputable def er(Γ:ah->List D->Rc)(G:ah->Option D):Ex->En->Option ah
 |.call f es,ρ=>match er Γ G es ρ with
  |some x=>if (G (qm f)).isSome=a7 then a3 x else a6
  |none=>match ev Γ G es ρ with
   |some (.a rs)=>match Γ f (rs.map Rk.d) with
    |.err x=>if (G (bang x)).isSome=a7 then a3 x else a6
    |_=>a6
   |_=>a6
 |.cons a b,ρ=>match er Γ G a ρ with
  |some x=>a3 x
  |none=>match ev Γ G a ρ with
   |some (.v _)=>er Γ G b ρ
   |_=>a6
 |.ix a _,ρ=>er Γ G a ρ
 |.dzip a b,ρ=>match er Γ G a ρ with
  |some x=>a3 x
  |none=>match ev Γ G a ρ with
   |some (.v _)=>er Γ G b ρ
   |_=>a6
 |_,_=>a6
end L2
end
section
namespace L2
open PySem PySem.Spec PyProof.Rows
def DM(X:Cx)(ρ:Rho)(e:aj)(s:Bool)(ds:List D):Prop:=∀σ H Q,Rep X.K ρ σ H->(∀a xs H',j0 H H'->SqB X.K s H' a xs->j4 X.K (del H' (owns ρ)) ds xs->Q (.ref a) H')->Qx X e σ H Q
section
variable{X:Cx}{ρ:Rho}{e a b c:aj}{es:List aj}{d:D}{ds ds':List D}{i j:Int}{pos p p2:aK}{k:Nat}{x:ah}{s:Bool}
theorem jgy{K:k8o}{H:Hp}{a:aa}{xs:List V}(h:SqL K H a xs):SqB K a7 H a xs:=by unfold SqB;rw[if_pos rfl];exact h
theorem Up{K:k8o}{H:Hp}{a:aa}{xs:List V}(h:SqB K a7 H a xs):SqL K H a xs:=by unfold SqB at h;rw[if_pos rfl]at h;exact h
theorem Q9{K:k8o}{H:Hp}{a:aa}{xs:List V}(h:SqB K a4 H a xs):SqT K H a xs:=by unfold SqB at h;rw[if_neg xj]at h;exact h
theorem DE.toM(h:DE X ρ e (D.seq s ds)):DM X ρ e s ds:=λσ H Q R q=>h σ H Q R λv H1 g1 e1=>by obtain⟨t,xs,ev,sq,en⟩:=Vb e1;subst ev;exact q t xs H1 g1 (jx.seqB sq) en
theorem DL.toM(h:DL X ρ e ds):DM X ρ e a7 ds:=λσ H Q R q=>h σ H Q R λt xs H1 g1 m en=>q t xs H1 g1 (jgy (.inl (.inl m))) en
theorem DO.toM(h:DO X ρ e ds):DM X ρ e a7 ds:=h.toL.toM
def Has(X:Cx)(ρ:Rho)(e:aj):Rk->Prop
 |.e d=>DE X ρ e d
 |.o l=>DO X ρ e l
 |.w l=>DL X ρ e l
 |.t d=>DT X ρ e d
theorem Has.toT:∀{r:Rk},Has X ρ e r->DT X ρ e r.d
 |.e _,h=>DE.toT h
 |.o _,h=>DL.toT (DO.toL h)
 |.w _,h=>DL.toT h
 |.t _,h=>h
theorem Has.toE:∀{r:Rk}{d:D},Has X ρ e r->r.st=a3 d->DE X ρ e d
 |.e _,_,h,q=>by cases q;exact h
 |.o _,_,h,q=>by cases q;exact DO.toE h
 |.w _,_,h,q=>by cases q
 |.t d',d,h,q=>by
  have q:(if Qo d'=a7 then a3 d' else a6)=a3 d:=q;by_cases z:Qo d'=a7
  .rw[if_pos z]at q;cases q;exact DT.toE h z
  .rw[if_neg z]at q;cases q
theorem Has.toM:∀{r:Rk}{s:Bool}{l:List D},Has X ρ e r->r.sq=a3 (s,l)->DM X ρ e s l
 |.e (.lst l),_,_,h,q=>by cases q;exact DE.toM (s:=a7) h
 |.e (.tup l),_,_,h,q=>by cases q;exact DE.toM (s:=a4) h
 |.e .non,_,_,_,q=>by cases q
 |.e (.bl _),_,_,_,q=>by cases q
 |.e (.int _),_,_,_,q=>by cases q
 |.e (.str _),_,_,_,q=>by cases q
 |.o l,_,_,h,q=>by cases q;exact DO.toM h
 |.w l,_,_,h,q=>by cases q;exact DL.toM h
 |.t _,_,_,_,q=>by cases q
theorem jb3:OpR X (aW .Add) (λx y H Q=>∃l b xs zs,x=.ref l/\y=.ref b/\SqL X.K H l xs/\SqL X.K H b zs/\xs.length+zs.length<=ak/\∀p,H p=a6->Q (.ref p) (upd H p (.lst (xs++zs)))):=by
 intro pins s σ H x y v u Q I rx ry h;obtain⟨l,b,xs,zs,e1,e2,hH,hB,hz,q⟩:=h;subst e1 e2;cases rx;cases ry;obtain⟨us,ru,⟨⟨c1,d1,f1,g1⟩,n1,h1,k1,w1,m1⟩,_⟩:=I.list hH;obtain⟨vs,rv,⟨⟨c2,d2,f2,g2⟩,n2,h2,k2,w2,m2⟩,_⟩:=I.list hB;have k1:c1=.type "list":=k1;have m1:f1=.seq us.toArray n1:=m1;have k2:c2=.type "list":=k2;have m2:f2=.seq vs.toArray n2:=m2;subst k1 m1 k2 m2;have l1:=ru.length;have l2:=rv.length;have ea:us.toArray++vs.toArray=(us++vs).toArray:=by simp
 refine fK ⟨_,h1,rfl⟩ ⟨_,h2,rfl⟩ noFill_list_add seq_list_add PySem.F.slot_list_add PySem.F.entry_list_add (PySem.F.args_list_add_2 _ _)
  (list_addW l b us.toArray vs.toArray n1 n2 d1 d2 g1 g2 (by rw[X8,X8,<-l1,<-l2];exact hz)) ⟨h1,h2,?_⟩
 rw[ea];exact⟨.ref _,_,I.lnew (t':=s.toks) (ru.append rv) (by rw[Xb];exact hz),rfl,q _ I.fresh⟩
theorem DO.catM(ha:DM X ρ a a7 ds)(hb:DM X ρ b a7 ds')(hl:ds.length+ds'.length<=ak):DO X ρ (.BinOp a .Add b pos) (ds++ds'):=λσ H Q R q =>
 (U6 jb3 peS peS).to (ha σ H _ R λl xs H1 g1 s1 e1=>hb σ H1 _ (R.grow g1) λl' ys H2 g2 s2 e2 =>
  ⟨l,l',xs,ys,rfl,rfl,g2.seq (Up s1),Up s2,by rw[e1.length,e2.length];exact hl,λp hp=>q p _ _ ((g1.trans g2).trans (j7 hp)) ((g1.trans g2).free hp) jc (Wa hp ((e1.mono (je g2)).append e2))⟩)
theorem DE.catTM(ha:DM X ρ a a4 ds)(hb:DM X ρ b a4 ds')(hl:ds.length+ds'.length<=ak):DE X ρ (.BinOp a .Add b pos) (.tup (ds++ds')):=λσ H Q R q =>
 (U6 j7m peS peS).to (ha σ H _ R λt xs H1 g1 sq l=>hb σ H1 _ (R.grow g1) λt' ys H2 g2 sq' l'=>by
  have l2:=l.mono (je g2)
  have enT:∀{t:aa}{xs:List V}{ds:List D},SqT X.K H2 t xs->j4 X.K (del H2 (owns ρ)) ds xs->Enc X.K (del H2 (owns ρ)) (.tup ds) (.ref t):=λ{t xs ds} sq l=>by
   refine⟨t,xs,rfl,?_,l⟩
   have ow:=(R.grow (g1.trans g2)).owned
   have out:∀{o:HO},H2 t=a3 o->(∀zs,o≠.lst zs)->del H2 (owns ρ) t=a3 o:=λ{o} h z=>by
    rw[j5];exact h
    intro y;obtain⟨zs,e'⟩:=ow t y;rw[h]at e';cases e';exact z zs rfl
   rcases sq with (h|⟨o,h⟩)|h
   .exact .inl (.inl (out h λ_ z=>by cases z))
   .exact .inl (.inr ⟨o,out h λ_ z=>by cases z⟩)
   .exact .inr h
  refine⟨t,t',xs,ys,rfl,rfl,g2.seqT (Q9 sq),Q9 sq',by rw[l.length,l'.length];exact hl,λh=>?_,λh h'=>?_,λh h' p hp=>?_⟩
  .subst h
   cases ds with
   |nil=>exact q _ H2 (g1.trans g2) (enT (Q9 sq') l')
   |cons _ _=>have:=l.length;cases this
  .subst h'
   cases ds' with
   |nil=>exact q _ H2 (g1.trans g2) (by rw[Xn];exact enT (g2.seqT (Q9 sq)) l2)
   |cons _ _=>have:=l'.length;cases this
  .have np:p∉owns ρ:=(R.grow (g1.trans g2)).fresh hp
   exact q _ _ ((g1.trans g2).trans (j7 hp)) ⟨p,xs++ys,rfl,.inl (.inl (by rw[j5 np];exact jc)),(l2.append l').mono (je (j7 hp))⟩)
theorem DE.ixM(ha:DM X ρ a s ds)(hb:DT X ρ b (.int i))(h:L2.atI ds i=a3 d)(hs:Yb b):DE X ρ (.Subscript a b pos) d:=by
 cases s with
 |true=>exact λσ H Q R q=>(Nb jbh peS peS hs).to (ha σ H _ R λl xs H1 g1 sq en=>hb σ H1 _ (R.grow g1) λu H2 g2 e2=>by
   obtain⟨y,hy,ey⟩:=en.atI h
   exact⟨l,xs,i,y,rfl,e2,g2.seq (Up sq),hy,q y H2 (g1.trans g2) (ey.mono (je g2))⟩)
 |false=>exact λσ H Q R q=>(Nb j5f peS peS hs).to (ha σ H _ R λl xs H1 g1 sq en=>hb σ H1 _ (R.grow g1) λu H2 g2 e2=>by
   obtain⟨y,hy,ey⟩:=en.atI h
   exact⟨l,xs,i,y,rfl,e2,g2.seqT (Q9 sq),hy,q y H2 (g1.trans g2) (ey.mono (je g2))⟩)
variable{lo hi:Option aj}{l u:Option Int}
theorem DO.sliceM(ha:DM X ρ a a7 ds)(hl:DP X ρ lo l)(hu:DP X ρ hi u):DO X ρ (.Subscript a (.Slice lo hi a6 p2) pos) (cutD ds l u):=λσ H Q R q =>
 (Ou ja7 peS poS poS).to (ha σ H _ R λt xs H1 g1 sq en=>hl σ H1 _ (R.grow g1) λH2 g2=>hu σ H2 _ (R.grow (g1.trans g2)) λH3 g3=>⟨t,xs,rfl,(g2.trans g3).seq (Up sq),λp hp =>
  q p _ _ ((g1.trans (g2.trans g3)).trans (j7 hp)) ((g1.trans (g2.trans g3)).free hp) jc (Wa hp ((en.mono (je (g2.trans g3))).cut l u))⟩)
theorem DE.sliceM(ha:DM X ρ a a4 ds)(hl:DP X ρ lo l)(hu:DP X ρ hi u)(hw:¬(HT.sIx ds.length 0 l=0/\HT.sIx ds.length ds.length u=ds.length)):DE X ρ (.Subscript a (.Slice lo hi a6 p2) pos) (.tup (cutD ds l u)):=λσ H Q R q =>
 (Ou jcv peS poS poS).to (ha σ H _ R λt xs H1 g1 sq en=>hl σ H1 _ (R.grow g1) λH2 g2=>hu σ H2 _ (R.grow (g1.trans g2)) λH3 g3=>⟨t,xs,rfl,(g2.trans g3).seqT (Q9 sq),by rw[en.length];exact hw,λp hp =>
  q _ _ ((g1.trans (g2.trans g3)).trans (j7 hp)) ⟨p,_,rfl,.inl (.inl (by rw[j5 ((R.grow (g1.trans (g2.trans g3))).fresh hp)];exact jc)),((en.mono (je (g2.trans g3))).cut l u).mono (je (j7 hp))⟩⟩)
theorem DE.tupM (ha:DM X ρ a s ds) (hm:X.mg "tuple" = a6) (hg:Gl X "tuple") (hs:a9 [a] X.env=[(a4,ay a X.env)]):DE X ρ (.Call (.Name "tuple" p) [a] [] pos) (.tup ds):=λσ H Q R q =>
 (Wx Kl hg hm boot_tuple (jf peS q8 hs) (by decide) (by decide) hs).to (ha σ H _ R λl xs H1 g1 sq en=>by
  cases s with
  |true =>
   refine⟨l,xs,rfl,.inl ⟨Up sq,λt ht=>?_⟩⟩
   have nt:t∉owns ρ:=(R.grow g1).fresh ht
   exact q _ _ (g1.trans (j7 ht)) ⟨t,xs,rfl,.inl (.inl (by rw[j5 nt];exact jc)),en.mono (je (j7 ht))⟩
  |false =>
   refine⟨l,xs,rfl,.inr ⟨Q9 sq,?_⟩⟩
   refine q _ _ g1 ⟨l,xs,rfl,?_,en⟩
   have ow:=(R.grow g1).owned
   have out:∀{o:HO},H1 l=a3 o->(∀zs,o≠.lst zs)->del H1 (owns ρ) l=a3 o:=λ{o} h z=>by
    rw[j5];exact h
    intro y;obtain⟨zs,e'⟩:=ow l y;rw[h]at e';cases e';exact z zs rfl
   rcases Q9 sq with (h|⟨o,h⟩)|h
   .exact .inl (.inl (out h λ_ z=>by cases z))
   .exact .inl (.inr ⟨o,out h λ_ z=>by cases z⟩)
   .exact .inr h)
theorem DO.listM (ha:DM X ρ a s ds) (hm:X.mg "list" = a6) (hg:Gl X "list") (hs:a9 [a] X.env=[(a4,ay a X.env)]):DO X ρ (.Call (.Name "list" p) [a] [] pos) ds:=λσ H Q R q =>
 (Wx j0s hg hm boot_list (jf peS q8 hs) (by decide) (by decide) hs).to (ha σ H _ R λl xs H1 g1 sq en =>
  ⟨l,xs,rfl,(by cases s with|true=>exact .inl (Up sq)|false=>exact .inr (Q9 sq)),λp hp=>q p _ _ (g1.trans (j7 hp)) (g1.free hp) jc (Wa hp en)⟩)
end
theorem Dl:fillsNumberSlot (.type "tuple") "mul" = pure a4 :=
 PySem.fillsNumberSlot_seq (id:="tuple.__mul__") (r:=a3 (.builtin "tuple.__rmul__")) PySem.F.slot_tuple_mul.lookup (by decide +kernel) PySem.F.slot_tuple_rmul.lookup (by decide +kernel)
theorem jaq:seqRepeat? (.type "tuple")=pure (a3 (.builtin "tuple.__mul__")):=by
 unfold seqRepeat?;rw[iI (T:="tuple") (name:="__mul__") (id:="tuple.__mul__") PySem.F.slot_tuple_mul.lookup (by decide +kernel),
  iI (T:="tuple") (name:="__rmul__") (id:="tuple.__rmul__") PySem.F.slot_tuple_rmul.lookup (by decide +kernel)]
 rfl
section
variable(a:Int)(t:gy)(l:aa)(its:Array a8)(n:Nat)(d1:Option aa)(sl:Array (Option a8))
theorem j0c:jG (d4.«int.__rmul__» ⟨[.int a t,.ref l],[]⟩) (λ_ R s=>s.heap.get? l=a3 ⟨.type "tuple",d1,.seq its n,sl⟩/\R (.ok (.ret gD)) s) :=
 .of_wp λ_ _ _ _ s h=>by
  obtain⟨_,_,_,_,_⟩:=s;obtain⟨hl,h⟩:=h
  wp_walk
  exact⟨_,rfl,h⟩
theorem j6s:jG (d4.«tuple.__mul__» ⟨[.ref l,.int 1 t],[]⟩) (λ_ R s=>s.heap.get? l=a3 ⟨.type "tuple",d1,.seq its n,sl⟩/\R (.ok (.ret (.ref l))) s) :=
 .of_wp λ_ _ _ _ s h=>by
  obtain⟨_,_,_,_,_⟩:=s;obtain⟨hl,h⟩:=h
  wp_walk
  exact⟨_,rfl,h⟩
theorem j6r(h0:its.isEmpty=a4)(h1:1<a)(h2:a<2^63)(hz:its.size*a.toNat<=ak) :
  jG (d4.«tuple.__mul__» ⟨[.ref l,.int a t],[]⟩) (λ_ R s=>s.heap.get? l=a3 ⟨.type "tuple",d1,.seq its n,sl⟩ /\
   R (.ok (.ret (.ref s.heap.objs.size))) { s with heap:=s.heap.push { cls:=.type "tuple",data:=.seq (cS (λx y=>x++y) #[] (ae a.toNat its)) } }) :=
 .of_wp λ_ _ _ _ s h=>by
  obtain⟨_,_,_,_,_⟩:=s;obtain⟨hl,h⟩:=h;have c1:(decide (a < -2^63) || decide (a>=2^63))=a4:=by rw[decide_eq_false nofun,decide_eq_false nofun];rfl
  have c2:(its.isEmpty || a==1)=a4:=by rw[h0,beq_eq_false_iff_ne.mpr nofun];rfl
  have c3:(decide (a<=0) || its.isEmpty)=a4:=by rw[h0,decide_eq_false nofun];rfl
  have ea:((its.size*a.toNat:Nat):Int)=(its.size:Int)*a:=by rw[cJ,iD nofun]
  have hz':(its.size:Int)*a<=(ak:Int):=by rw[<-ea];exact Int.ofNat_le.mpr hz
  have c4:¬(its.size:Int)*a>(2^63-1)/8:=by
   have:(ak:Int)<=(2^63-1)/8:=by decide
   omega
  have c5:eF ((its.size:Int)*a)=a4:=by unfold eF;exact decide_eq_false nofun
  have c6:(cS (λx y=>x++y) #[] (ae a.toNat its)).size<=ak:=by rw[AutoListH.size_joined,Array.size_empty,Pa,dC];exact hz
  wp_walk
  rw[c1]
  wp_walk
  rw[c2]
  wp_walk
  rw[c3]
  wp_walk
  rw[if_neg c4]
  wp_walk
  exact⟨_,rfl,h⟩
end
theorem jb1{X:Cx}:OpR X (aW .Mult) (λx y H Q=>∃a k xs,x=.ref a/\y=.int k/\SqT X.K H a xs/\xs≠[]/\1<=k/\k<2^63/\xs.length*k.toNat<=ak /\
  (k=1->Q (.ref a) H)/\(1<k->∀p,H p=a6->Q (.ref p) (upd H p (.tup (ae k.toNat xs).flatten)))):=by
 intro pins s σ H x y v u Q I rx ry h;obtain⟨a,k,xs,e1,e2,sq,hne,h1,h2,hz,q1,q2⟩:=h;subst e1 e2;cases rx;obtain⟨t,e⟩:=ry;subst e;obtain⟨us,ru,⟨⟨c1,d1,f1,g1⟩,p1,k1,n1,m1⟩,_⟩:=I.tuple sq;have k1:c1=.type "tuple":=k1;have m1:f1=.seq us.toArray n1:=m1;subst k1 m1;have lu:=ru.length;have hne':us.toArray.isEmpty=a4:=by
  cases us with
  |nil=>cases ru;exact absurd rfl hne
  |cons _ _=>simp
 refine i5 (T:="tuple") (U:="int") (by decide) ⟨_,p1,rfl⟩ (λs'=>fv s' k t) Dl ke dQ jaq F.slot_int_index.lookup
  (bj dQ (fv s k t) jU (jP _ _) (j0c k t a us.toArray n1 d1 g1) ⟨p1,rfl,⟨_,p1,rfl⟩,?_⟩)
 by_cases hk:k=1
 .subst hk;exact bj jT ⟨_,p1,rfl⟩ jO (jv _ _) (j6s t a us.toArray n1 d1 g1) ⟨p1,⟨.ref a,H,I,rfl,q1 rfl⟩⟩
 .have hz':us.toArray.size*k.toNat<=ak:=by rw[X8,<-lu];exact hz
  refine bj jT ⟨_,p1,rfl⟩ jO (jv _ _) (j6r k t a us.toArray n1 d1 g1 hne' nofun h2 hz') ⟨p1,?_⟩;have hnew:cS (λx1 x2=>x1++x2) #[] (ae k.toNat us.toArray)=(ae k.toNat us).flatten.toArray:=by have:=foldl_rep us k.toNat [];rw[bX]at this;exact this
  rw[hnew];refine⟨.ref _,_,I.laid (t':=s.toks) (λb o e=>xg _ e) (X3 _) ?_,rfl,q2 nofun _ I.fresh⟩;exact⟨by rw[len_rep,dC];exact hz,_,ru.rep k.toNat,IsTup.new _ _,Zx.new _ _⟩
theorem DE.repT{X:Cx}{ρ:Rho}{a b:aj}{ds:List D}{k:Int}{pos:aK}(ha:DM X ρ a a4 ds)(hb:DT X ρ b (.int k))(hne:ds≠[])(h1:1<=k)(h2:k<2^63)(hl:ds.length*k.toNat<=ak) :
  DE X ρ (.BinOp a .Mult b pos) (.tup (ae k.toNat ds).flatten):=λσ H Q R q =>
 (U6 jb1 peS peS).to (ha σ H _ R λt xs H1 g1 sq l=>hb σ H1 _ (R.grow g1) λu H2 g2 e2=>by
  have l2:=l.mono (je g2)
  refine⟨t,k,xs,rfl,e2,g2.seqT (Q9 sq),?_,h1,h2,by rw[l.length];exact hl,λh=>?_,λh p hp=>?_⟩
  .intro z;subst z
   cases ds with
   |nil=>exact hne rfl
   |cons _ _=>have:=l.length;cases this
  .subst h
   have e:(ae (1:Int).toNat ds).flatten=ds:=by simp
   rw[e]at q
   refine q _ H2 (g1.trans g2) ⟨t,xs,rfl,?_,l2⟩
   have ow:=(R.grow (g1.trans g2)).owned
   have out:∀{o:HO},H2 t=a3 o->(∀zs,o≠.lst zs)->del H2 (owns ρ) t=a3 o:=λ{o} h z=>by
    rw[j5];exact h
    intro y;obtain⟨zs,e'⟩:=ow t y;rw[h]at e';cases e';exact z zs rfl
   rcases g2.seqT (Q9 sq)with (h|⟨o,h⟩)|h
   .exact .inl (.inl (out h λ_ z=>by cases z))
   .exact .inl (.inr ⟨o,out h λ_ z=>by cases z⟩)
   .exact .inr h
  .have np:p∉owns ρ:=(R.grow (g1.trans g2)).fresh hp
   exact q _ _ ((g1.trans g2).trans (j7 hp)) ⟨p,_,rfl,.inl (.inl (by rw[j5 np];exact jc)),(l2.rep k.toNat).mono (je (j7 hp))⟩)
section
variable{X:Cx}{ρ:Rho}{a:aj}{m k:Bool}{d:D}{n:Nat}{pos p2:aK}
theorem DE.isNotN(ha:DT X ρ a d):DE X ρ (.Compare a [.IsNot] [.Constant .none n p2] pos) (.bl (!d.isNon)):=λσ H Q R q =>(Jf j22 peS j00 (qx _)).to (ha σ H _ R λx H1 g1 e1=>⟨rfl,q _ H1 g1 (by rw[Ra e1];rfl)⟩)
theorem DB.isNotN(ha:DT X ρ a d):DB X ρ (.Compare a [.IsNot] [.Constant .none n p2] pos) (!d.isNon):=λσ H Q R q =>(Je j22 peS j00 (qx _)).to (ha σ H _ R λx H1 g1 e1=>⟨rfl,_,rfl,by rw[Ra e1];exact q H1 g1⟩)
end
end L2
end
section
namespace PySem
open Sem (wp)
namespace F
end F
section
variable{prog:au}{w:ax}{A:az}{E:k8p}{s:af}{I:aa}{fp wr:List aa}{G:Array eX->Array eX->Prop}{n:Nat}{P:Nat->a8->Prop}{St:Nat->af->Prop}
end
end PySem
namespace L2
open PySem PySem.Spec PyProof.Rows
section
variable{X:Cx}{ρ:Rho}{a:aj}{ds:List D}{p p1 p2 p3 pos:aK}
end
noncomputable def Sl.abs:Sl->Sv
 |.un=>.un
 |.val d=>.val d
 |.own _ l=>.own l
 |.raw _ _ x=>.exc x
noncomputable def j8(ρ:Rho):En:=ρ.map Sl.abs
theorem Bl{ρ:Rho}{i:Nat}:(j8 ρ)[i]?=(ρ[i]?).map Sl.abs:=xx ..
theorem Yw{ρ:Rho}{i:Nat}{d:D}(h:(j8 ρ)[i]?=a3 (.val d)):ρ[i]?=a3 (.val d):=by
 rw[Bl]at h;cases e:ρ[i]? with
 |none=>rw[e]at h;cases h
 |some s=>rw[e]at h;cases s<;>cases h;rfl
theorem jcd{ρ:Rho}{i:Nat}(h:(j8 ρ)[i]?=a3 .un):ρ[i]?=a3 .un:=by
 rw[Bl]at h;cases e:ρ[i]? with
 |none=>rw[e]at h;cases h
 |some s=>rw[e]at h;cases s<;>cases h;rfl
theorem Qm{ρ:Rho}{i:Nat}{l:List D}(h:(j8 ρ)[i]?=a3 (.own l)):∃a,ρ[i]?=a3 (.own a l):=by
 rw[Bl]at h;cases e:ρ[i]? with
 |none=>rw[e]at h;cases h
 |some s=>rw[e]at h;cases s<;>cases h;exact⟨_,rfl⟩
theorem jo{ρ:Rho}{i:Nat}{s:Sl}:j8 (ρ.set i s)=(j8 ρ).set i s.abs:=List.map_set ..
noncomputable def Bop.op:Bop->jE
 |.add=>.Add
 |.sub=>.Sub
 |.mul=>.Mult
 |.fdiv=>.FloorDiv
 |.mod=>.Mod
 |.pow=>.Pow
 |.shl=>.LShift
 |.shr=>.RShift
 |.band=>.BitAnd
 |.bxor=>.BitXor
noncomputable def Cop.op:Cop->gj
 |.lt=>.Lt
 |.le=>.LtE
 |.gt=>.Gt
 |.ge=>.GtE
 |.eq=>.Eq
 |.ne=>.NotEq
 |.isin=>.In
 |.notin=>.NotIn
noncomputable def Bf.name:Bf->ah
 |.len=>"len"
 |.min=>"min"
 |.max=>"max"
 |.all=>"all"
 |.tuple=>"tuple"
 |.list=>"list"
 |.sum=>"sum"
 |.int=>"int"
 |.any=>"any"
 |.sorted=>"sorted"
noncomputable def Rx:List ah:=["len","min","max","all","tuple","list","sum","int","any","sorted","isinstance","bool","str","range","zip","enumerate","reversed","ValueError","set","dict"]
noncomputable def Vp(x:ah):Bool:=x.cps.toList.head?==a3 33 || x.cps.toList.head?==a3 63
inductive Nd where
 |e (x:aj)
 |b (x:aj)
 |w (x:aj)
 |a (xs:List aj)
 |i (tg it:aj)
 |o (x:Option aj)
 |c (xs:List aj)
 |p (xs:List aj)
structure Cok(X:Cx)(G:ah->Option D):Prop where
 un':X.A.units+100<aI
 un:X.calm=a7->X.A.units+150<aI
 dp:X.calm=a7->X.A.depth+4<eO
 bt:∀x∈Rx,X.mg x=a6
 gl:∀x d,Vp x=a4->G x=a3 d->∃u v,X.mg x=a3 u/\RelV v u/\∀H,Enc X.K H d v
 nd:X.N.Nodup
 po:fX (aw X.prog X.w) X.A X.env X.xe
 ea:Ky X.K=a7
 ec:∀x d,G (bang x)=a3 d->x∈Jj/\∃o,W.nsIn X.K aq x=a3 (a3 o)
 el:G "?" = a3 (.bl a7)->∀c∈Jj,∃v,W.nsIn X.K aq c=a3 (a3 v)
 kin:X.K.In X.base
 ns:X.base.Ns aq X.mg
 kd:∀x l,G (bang x)=a3 (.lst l)->Kinds X "_law_kinds" x l
 fn:∀f d,G (qm f)=a3 d->∃fa,X.mg f=a3 (.ref fa)/\W.keepIn X.K (.ref fa)=a7
 pl:∀d,G (qm "_law_plan")=a3 d->Cal X "_law_plan" (jcu X.K j9d)
 lm:∀x∈Zn,X.env.qual=x ++ ".<locals>."->∃c P,X.env.code=.ref c/\W.codeHdIn X.K c P=a7/\W.tabIn X.K x=a3 (c,P)
def Gok(X:Cx)(Γ:ah->List D->Rc):Prop:=∀f ds,match Γ f ds with
 |.val d=>Cal X f (spP X.K λds' d'=>ds'=ds/\d'=d)
 |.fresh l=>Cal X f (spF X.K λds' l'=>ds'=ds/\l'=l)
 |.err x=>CalX X f (spX X.K X.mg λds' y=>ds'=ds/\y=x)
 |.lval d=>∀x,f=jq x->∃k,Room k X.A/\Ig X.prog X.w X.K X.mg X.base k x λds' d'=>ds'=ds/\d'=d
 |.no=>True
theorem Cok.comp{X:Cx}{G:ah->Option D}{scope:aY}{C:aa}{s:af}{H:Hp}{fp:List aa}{pn:k8q}(h:Cok X G):Cok (cCx X scope C s H fp pn) G:=⟨h.un',h.un,h.dp,h.bt,h.gl,h.nd,bK,h.ea,h.ec,h.el,h.kin,h.ns,h.kd,h.fn,λd e=>Cal.comp (h.pl d e),h.lm⟩
theorem Gok.comp{X:Cx}{Γ:ah->List D->Rc}{scope:aY}{C:aa}{s:af}{H:Hp}{fp:List aa}{pn:k8q}(h:Gok X Γ):Gok (cCx X scope C s H fp pn) Γ:=λf ds=>by
 have q:=h f ds;cases e:Γ f ds with
 |val d=>rw[e]at q;exact Cal.comp q
 |fresh l=>rw[e]at q;exact Cal.comp q
 |err x=>rw[e]at q;exact⟨q.ex⟩
 |lval d=>rw[e]at q;exact q
 |no=>trivial
inductive HasA(X:Cx)(ρ:Rho):List aj->List Rk->Prop where
 |nil:HasA X ρ [] []
 |cons {a:aj} {es:List aj} {r:Rk} {rs:List Rk} (hs:a9 (a::es) X.env=(a4,ay a X.env)::a9 es X.env):Has X ρ a r->HasA X ρ es rs->HasA X ρ (a::es) (r::rs)
section
variable{X:Cx}{ρ:Rho}{es:List aj}{rs:List Rk}
theorem HasA.toA:∀{es:List aj}{rs:List Rk}{ds:List D},HasA X ρ es rs->zp rs=a3 ds->DA X ρ es ds
 |_,_,_,.nil,q=>by cases q;exact DA.nil
 |_,_,ds,.cons (r:=r) (rs:=rs) hs h t,q=>by
  unfold zp at q;cases e1:r.st with
  |none=>rw[e1]at q;cases q
  |some d =>
   cases e2:zp rs with
   |none=>rw[e1,e2]at q;cases q
   |some ds'=>rw[e1,e2]at q;cases q;exact DA.cons (h.toE e1) (t.toA e2) hs
theorem HasA.toT:∀{es:List aj}{rs:List Rk},HasA X ρ es rs->DTA X ρ es (rs.map Rk.d)
 |_,_,.nil=>DTA.nil
 |_,_,.cons hs h t=>DTA.cons h.toT t.toT hs
theorem HasA.one{e:aj}(h:HasA X ρ [e] rs):∃r,rs=[r]/\Has X ρ e r/\a9 [e] X.env=[(a4,ay e X.env)]:=by cases h with|cons hs h t=>cases t;exact⟨_,rfl,h,hs⟩
theorem DO.unfrz{e:aj}{i:Nat}{a:aa}{l ds:List D}(hk:ρ[i]?=a3 (.own a l))(h:DO X (ρ.set i (.val (.lst l))) e ds)(hn:qy ds=a7):DO X ρ e ds:=λσ H Q R q =>
 h σ H Q (R.freeze hk) λb xs H' g n m en=>q b xs H' g n m ((en.mono jx).hide (λc hc=>by
  rcases xr.mp hc with z|z
  .rw[z];exact .inl ⟨xs,m⟩
  .exact .inl ((R.grow g).owned c z)) hn)
end
theorem Nz{f:D->Option (Option D)}:∀{ds l:List D},Jw f ds=a3 l ->
  l=(ds.filter (λd=>(f d).join.isSome)).map (λd=>(f d).join.getD .non)/\∀d∈ds,∃o,f d=a3 o
 |[],l,h=>by cases h;exact⟨rfl,λd hd=>nomatch hd⟩
 |d::ds,l,h=>by
  unfold Jw at h;cases e1:f d with
  |none=>rw[e1]at h;cases h
  |some o =>
   cases e2:Jw f ds with
   |none=>rw[e1,e2]at h;cases o<;>cases h
   |some xs =>
    rw[e1,e2]at h;obtain⟨q1,q2⟩:=Nz e2;have mem:∀d'∈d::ds,∃o,f d'=a3 o:=λd' hd=>by
     rcases xr.mp hd with z|z
     .subst z;exact⟨o,e1⟩
     .exact q2 d' z
    cases o with
    |none=>cases h;exact⟨by rw[du (by rw[e1];simp)];exact q1,mem⟩
    |some x=>cases h;exact⟨by rw[c9 (by rw[e1];rfl),X4,<-q1,e1];rfl,mem⟩
section
variable{X:Cx}{ρ:Rho}{a b:aj}{d da db:D}{ds ds':List D}{pos:aK}{k:Bool}
theorem DE.neD(s:Bool)(hu:X.A.units+100<aI)(ha:DT X ρ a (D.seq s ds))(hb:DT X ρ b (D.seq s ds'))(hd:D.depL ds<=98)(nd:D.depL ds'<10000):DE X ρ (.Compare a [.NotEq] [b] pos) (.bl (!v8 ds ds')):=λσ H Q R q =>(Jf (j4x hu) peS peS (qx _)).to (ha σ H _ R λv H1 g1 e1=>hb σ H1 _ (R.grow g1) λu H2 g2 e2=>⟨ds,ds',s,e1.mono g2,e2,hd,nd,q _ H2 (g1.trans g2) rfl⟩)
theorem DE.notIn(s:Bool)(hu:X.A.units+100<aI)(ha:DT X ρ a d)(hb:DT X ρ b (D.seq s ds))(hd:D.depL ds<=98)(nd:d.dep<10000)(hm:aF .NotIn b=a4):DE X ρ (.Compare a [.NotIn] [b] pos) (.bl (!ds.any λe=>deq e d)):=λσ H Q R q =>(Jf (La hu) peS peS hm).to (ha σ H _ R λv H1 g1 e1=>hb σ H1 _ (R.grow g1) λu H2 g2 e2=>⟨d,ds,s,e1.mono g2,e2,hd,nd,q _ H2 (g1.trans g2) rfl⟩)
theorem DE.in(s:Bool)(hu:X.A.units+100<aI)(ha:DT X ρ a d)(hb:DT X ρ b (D.seq s ds))(hd:D.depL ds<=98)(nd:d.dep<10000)(hm:aF .In b=a4):DE X ρ (.Compare a [.In] [b] pos) (.bl (ds.any λe=>deq e d)):=λσ H Q R q =>(Jf (j4y hu) peS peS hm).to (ha σ H _ R λv H1 g1 e1=>hb σ H1 _ (R.grow g1) λu H2 g2 e2=>⟨d,ds,s,e1.mono g2,e2,hd,nd,q _ H2 (g1.trans g2) rfl⟩)
theorem ja6:∀{b:D}{s:Bool}{l:List D},b.sqv=a3 (s,l)->b=D.seq s l
 |.lst _,_,_,h=>by cases h;rfl
 |.dct _ _,_,_,h=>by cases h
 |.sct _,_,_,h=>by cases h
 |.fn _ _,_,_,h=>by cases h
 |.tup _,_,_,h=>by cases h;rfl
 |.non,_,_,h=>by cases h
 |.bl _,_,_,h=>by cases h
 |.int _,_,_,h=>by cases h
 |.str _,_,_,h=>by cases h
theorem j3s{op:Cop}{i j:Int}(h:cmpI op i j=a3 k)(ha:DT X ρ a (.int i))(hb:DT X ρ b (.int j)):DE X ρ (.Compare a [op.op] [b] pos) (.bl k)/\DB X ρ (.Compare a [op.op] [b] pos) k:=by
 cases op<;>(first|(cases h;done)|skip)
 .cases h;exact⟨DE.lt ha hb,DB.lt ha hb⟩
 .cases h;exact⟨DE.le ha hb,DB.le ha hb⟩
 .cases h;exact⟨DE.gt ha hb,DB.gt ha hb⟩
 .cases h;exact⟨DE.ge ha hb,DB.ge ha hb⟩
 .cases h;exact⟨DE.eqI ha hb,DB.eqI ha hb⟩
 .cases h;exact⟨DE.neI ha hb,DB.neI ha hb⟩
theorem Lw{op:Cop}(hu:X.A.units+100<aI)(h:Wf op da db=a3 k)(ha:DT X ρ a da)(hb:DT X ρ b db)(hm:aF op.op b=a4) :
  DE X ρ (.Compare a [op.op] [b] pos) (.bl k)/\DB X ρ (.Compare a [op.op] [b] pos) k:=by
 have inn:∀{r:Bool->Bool},(match db.sqv with|some (_,l)=>if D.depL l<=90/\da.dep<=90 then a3 (r (l.any λe=>deq e da))else a6|none=>a6)=a3 k->∃s l,DT X ρ b (D.seq s l)/\D.depL l<=98/\da.dep<10000/\k=r (l.any λe=>deq e da):=λ{r} h=>by
  cases e:db.sqv with
  |none=>rw[e]at h;cases h
  |some p =>
   obtain⟨s,l⟩:=p;rw[e]at h;have h:(if D.depL l<=90/\da.dep<=90 then a3 (r (l.any λe=>deq e da))else a6)=a3 k:=h;by_cases z:D.depL l<=90/\da.dep<=90
   .rw[if_pos z]at h;cases h;exact⟨s,l,ja6 e▸hb,by omega,by omega,rfl⟩
   .rw[if_neg z]at h;cases h
 unfold Wf at h;split at h
 .exact j3s h ha hb
 .by_cases z:da.dep<=90/\db.dep<=90
  .rw[if_pos z]at h;cases h;exact⟨DE.eqD hu ha hb nofun nofun,DB.eqD hu ha hb nofun nofun⟩
  .rw[if_neg z]at h;cases h
 .cases h;exact⟨DE.neB ha hb,DB.neB ha hb⟩
 .cases h;exact⟨(DE.neS ha hb).eq (by rw[j0k]),(DB.neS ha hb).eq (by rw[j0k])⟩
 .cases h;exact⟨(DE.neS ha hb).eq (by simp),(DB.neS ha hb).eq (by simp)⟩
 .rename_i l m;by_cases z:D.depL l<=90/\D.depL m<=90
  .rw[if_pos z]at h;cases h;exact⟨DE.neD a7 hu ha hb nofun nofun,DB.neD a7 hu ha hb nofun nofun⟩
  .rw[if_neg z]at h;cases h
 .rename_i l m;by_cases z:D.depL l<=90/\D.depL m<=90
  .rw[if_pos z]at h;cases h;exact⟨DE.neD a4 hu ha hb nofun nofun,DB.neD a4 hu ha hb nofun nofun⟩
  .rw[if_neg z]at h;cases h
 .cases h;exact⟨DE.inS ha hb hm,DB.inS ha hb hm⟩
 .cases h;exact⟨DE.ltS ha hb,DB.ltS ha hb⟩
 .cases h;exact⟨DE.gtS ha hb,DB.gtS ha hb⟩
 .obtain⟨s,l,hb,hd,nd,e⟩:=inn (r:=id) h;subst e;exact⟨DE.in s hu ha hb hd nd hm,DB.in s hu ha hb hd nd hm⟩
 .obtain⟨s,l,hb,hd,nd,e⟩:=inn (r:=(!·)) h;subst e;exact⟨DE.notIn s hu ha hb hd nd hm,DB.notIn s hu ha hb hd nd hm⟩
 .cases h
theorem DE.shr{i j:Int}(ha:DT X ρ a (.int i))(hb:DT X ρ b (.int j))(h:0<=j):DE X ρ (.BinOp a .RShift b pos) (.int (i/2^j.toNat)):=DE.arI (g:=λi j=>i/2^j.toNat) jdv ha hb h
theorem jw{α:Type}{c:Prop}[Decidable c]{x y:α}(h:(if c then a3 x else a6)=a3 y):c/\x=y:=by
 by_cases z:c
 .rw[if_pos z]at h;exact⟨z,av h⟩
 .rw[if_neg z]at h;cases h
theorem j3u{op:Bop}{i j n:Int}(h:binI op i j=a3 n)(ha:DT X ρ a (.int i))(hb:DT X ρ b (.int j)):DE X ρ (.BinOp a op.op b pos) (.int n):=by
 cases op
 .cases h;exact DE.add ha hb
 .cases h;exact DE.sub ha hb
 .obtain⟨z,e⟩:=jw h;subst e;exact DE.mul ha hb z
 .obtain⟨z,e⟩:=jw h;subst e;exact DE.fdivB ha hb z
 .obtain⟨z,e⟩:=jw h;subst e;exact DE.mod ha hb z
 .obtain⟨z,e⟩:=jw h;subst e;exact DE.pow ha hb z
 .obtain⟨z,e⟩:=jw h;subst e;exact DE.shl ha hb z
 .obtain⟨z,e⟩:=jw h;subst e;exact DE.shr ha hb z
 .cases h;exact DE.arI0 je1 ha hb
 .cases h;exact DE.arI0 jdt ha hb
theorem za{n:Nat}(h:jk n=a7):n<=ak:=of_decide_eq_true h
end
section
variable{X:Cx}{ρ:Rho}{a b e:aj}{es:List aj}{d:D}{pos p:aK}
theorem Has.lw:∀{r:Rk}{l:List D},Has X ρ a r->r.lw=a3 l->DL X ρ a l
 |.o l,_,h,q=>by cases q;exact DO.toL h
 |.w l,_,h,q=>by cases q;exact h
 |.e _,_,_,q=>by cases q
 |.t _,_,_,q=>by cases q
theorem j6i{op:Bop}{x y r:Rk}(h:Vx op x y=a3 r)(ha:Has X ρ a x)(hb:Has X ρ b y):Has X ρ (.BinOp a op.op b pos) r:=by
 unfold Vx at h;split at h
 .rename_i i j e1 e2;cases z:binI op i j with
  |none=>rw[z]at h;cases h
  |some n=>rw[z]at h;cases h;exact j3u z (e1▸ha.toT) (e2▸hb.toT)
 .rename_i y z e1 e2;split at h
  .obtain⟨q,e⟩:=jw h;subst e;exact DE.catS (e1▸ha.toT) (e2▸hb.toT) (za q)
  .cases h
 .rename_i y k e1 e2;split at h
  .obtain⟨q,e⟩:=jw h;subst e;exact DE.mulS (e1▸ha.toT) (e2▸hb.toT) q.1 q.2
  .cases h
 .split at h
  .rename_i l m _ e1 e2;obtain⟨z,q⟩:=jw h;subst q;exact DO.catM (ha.toM e1) (hb.toM e2) (za z)
  .rename_i l m _ e1 e2;obtain⟨z,q⟩:=jw h;subst q;exact DE.catTM (ha.toM e1) (hb.toM e2) (za z)
  .rename_i l k _ _ e1 e3;obtain⟨z,q⟩:=jw h;subst q;exact DE.repT (ha.toM e1) (e3▸hb.toT) (λe=>by subst e;exact absurd z.2.2.1 (by simp)) z.1 z.2.1 (za z.2.2.2)
  .rename_i k _ _ _ e3 _;cases e:x.lw with
   |none=>rw[e]at h;cases h
   |some l =>rw[e]at h;obtain⟨z,q⟩:=jw h;subst q;exact DO.rep (ha.lw e) (e3▸hb.toT) z.1 z.2.1 (za z.2.2)
  .cases h
theorem Wh:∀{l:List D}{bs:List Bool},boolsOf l=a3 bs->l=bs.map D.bl
 |[],_,h=>by cases h;rfl
 |.bl b::r,bs,h=>by
  unfold boolsOf at h;cases e:boolsOf r with
  |none=>rw[e]at h;cases h
  |some q=>rw[e]at h;cases h;rw[Wh e];rfl
 |.non::_,_,h=>by cases h
 |.int _::_,_,h=>by cases h
 |.str _::_,_,h=>by cases h
 |.tup _::_,_,h=>by cases h
 |.lst _::_,_,h=>by cases h
 |.dct _ _::_,_,h=>by cases h
 |.sct _::_,_,h=>by cases h
 |.fn _ _::_,_,h=>by cases h
theorem Qf:∀{l:List D}{bs:List Int},intsOf l=a3 bs->l=bs.map D.int
 |[],_,h=>by cases h;rfl
 |.int b::r,bs,h=>by
  unfold intsOf at h;cases e:intsOf r with
  |none=>rw[e]at h;cases h
  |some q=>rw[e]at h;cases h;rw[Qf e];rfl
 |.non::_,_,h=>by cases h
 |.bl _::_,_,h=>by cases h
 |.str _::_,_,h=>by cases h
 |.tup _::_,_,h=>by cases h
 |.lst _::_,_,h=>by cases h
 |.dct _ _::_,_,h=>by cases h
 |.sct _::_,_,h=>by cases h
 |.fn _ _::_,_,h=>by cases h
theorem Ws:∀{l:List D}{bs:List ah},strsOf l=a3 bs->l=bs.map D.str
 |[],_,h=>by cases h;rfl
 |.str b::r,bs,h=>by
  unfold strsOf at h;cases e:strsOf r with
  |none=>rw[e]at h;cases h
  |some q=>rw[e]at h;cases h;rw[Ws e];rfl
 |.non::_,_,h=>by cases h
 |.bl _::_,_,h=>by cases h
 |.int _::_,_,h=>by cases h
 |.tup _::_,_,h=>by cases h
 |.lst _::_,_,h=>by cases h
 |.dct _ _::_,_,h=>by cases h
 |.sct _::_,_,h=>by cases h
 |.fn _ _::_,_,h=>by cases h
theorem v7{w:Option W}{k:Bool}(h:truth w=a3 k):∃r,w=a3 (.v r)/\r.d=.bl k:=by
 unfold truth at h;split at h
 .rename_i r;split at h
  .rename_i q e;cases h;exact⟨r,rfl,e⟩
  .cases h
 .cases h
def jgl(X:Cx)(ρ:Rho):List aj->List Rk->Prop
 |[],[]=>True
 |e::es,r::rs=>(∀y,j9c r.d=a3 y->DE X ρ e (.str y))/\jgl X ρ es rs
 |_,_=>False
def jgj(Γ:ah->List D->Rc)(G:ah->Option D)(X:Cx)(t:Ex):Nd->Prop
 |.e e=>∀ρ r,ev Γ G t (j8 ρ)=a3 (.v r)->Has X ρ e r
 |.b e=>∀ρ k,truth (ev Γ G t (j8 ρ))=a3 k->DB X ρ e k
 |.w e=>∀ρ k,truth (ev Γ G t (j8 ρ))=a3 k->DW X ρ e k
 |.a es=>∀ρ rs,ev Γ G t (j8 ρ)=a3 (.a rs)->HasA X ρ es rs
 |.i tg it=>∀ρ ds,ev Γ G t (j8 ρ)=a3 (.i ds)->DI X ρ tg it ds
 |.o e=>∀ρ o,Qj (ev Γ G t (j8 ρ))=a3 o->DP X ρ e o
 |.p es=>∀ρ rs,ev Γ G t (j8 ρ)=a3 (.a rs)->jgl X ρ es rs
 |.c ifs=>∀ρ,(ev Γ G t (j8 ρ)=a3 (.a [])->DTs X ρ ifs a7)/\∀y k,ev Γ G t (j8 ρ)=a3 (.a [y])->y.d=.bl k->DTs X ρ ifs k
end
section
variable{Γ:ah->List D->Rc}{G:ah->Option D}{X:Cx}
theorem Oc{is:List Nat}{elt' it' c':Ex}{elt it tg:aj}{ifs:List aj}{scope:aY}{ρ:Rho}{r:Rk}
  (hit:∀ρ ds,ev Γ G it' (j8 ρ)=a3 (.i ds)->DI X ρ tg it ds)
  (hb:∀ρ d ρ2,qz is d (j8 ρ)=a3 ρ2->(∀j∈is,ρ[j]?=a3 .un)->∃ρ',j8 ρ'=ρ2/\Wk ρ' ρ/\owns ρ'=owns ρ/\∀C s H fp pn,DG (cCx X scope C s H fp pn) ρ tg d ρ')
  (he:∀C s H fp pn ρ r,ev Γ G elt' (j8 ρ)=a3 (.v r)->Has (cCx X scope C s H fp pn) ρ elt r)
  (hc:∀C s H fp pn ρ,(ev Γ G c' (j8 ρ)=a3 (.a [])->DTs (cCx X scope C s H fp pn) ρ ifs a7)/\∀y k,ev Γ G c' (j8 ρ)=a3 (.a [y])->y.d=.bl k->DTs (cCx X scope C s H fp pn) ρ ifs k)
  (h:ev Γ G (.comp is elt' it' c') (j8 ρ)=a3 (.v r)):∃(l:List D)(ρf:Rho)(ds:List D)(pr:D->Bool)(g:D->D),r=.o l/\l=(ds.filter pr).map g /\
   (ρf=ρ\/(qy l=a7/\∃(i:Nat)(a:aa)(l':List D),ρ[i]?=a3 (.own a l')/\ρf=ρ.set i (.val (.lst l'))))/\DI X ρf tg it ds/\(∀j∈is,ρf[j]?=a3 .un)/\ds.length<=ak /\
   (∀C s H fp pn,∀d∈ds,∃ρ2,DG (cCx X scope C s H fp pn) ρf tg d ρ2/\Wk ρ2 ρf/\owns ρ2=owns ρf/\DTs (cCx X scope C s H fp pn) ρ2 ifs (pr d)/\(pr d=a7->DE (cCx X scope C s H fp pn) ρ2 elt (g d))):=by
 have fr:∃ρf,j8 ρf=frz it' (j8 ρ)/\((J4 it' (j8 ρ)=a4/\ρf=ρ)\/(J4 it' (j8 ρ)=a7/\∃i a l,ρ[i]?=a3 (.own a l)/\ρf=ρ.set i (.val (.lst l)))):=by
  by_cases z:J4 it' (j8 ρ)=a7
  .unfold J4 at z;split at z
   .rename_i i ei;split at z
    .rename_i l e;obtain⟨a,q⟩:=Qm e;refine⟨ρ.set i (.val (.lst l)),?_,.inr ⟨?_,i,a,l,q,rfl⟩⟩
     .rw[jo];simp only[frz,ei,e,Sl.abs]
     .simp only[J4,ei,e]
    .cases z
   .cases z
  .have z':J4 it' (j8 ρ)=a4:=by simpa using z
   refine⟨ρ,?_,.inl ⟨z',rfl⟩⟩;unfold frz;split
   .rename_i i ei;split
    .rename_i l e;simp only[J4,ei,e]at z';cases z'
    .rfl
   .rfl
 obtain⟨ρf,ef,fr⟩:=fr;rw[jgb]at h;rw[<-ef]at h;split at h
 .rename_i ds hds;split at h
  .rename_i hz;obtain⟨hfree,hlen⟩:=hz;generalize hf:(λd=>_:D->Option (Option D))=f at h;cases hl:Jw f ds with
   |none=>rw[hl]at h;cases h
   |some l =>
    rw[hl]at h;have h:(if (J4 it' (j8 ρ) && !qy l)=a7 then a6 else a3 (W.v (.o l)))=a3 (.v r):=h;by_cases zz:(J4 it' (j8 ρ) && !qy l)=a7
    .rw[if_pos zz]at h;cases h
    .rw[if_neg zz]at h;cases h;obtain⟨el,hmem⟩:=Nz hl;have hun:∀j∈is,ρf[j]?=a3 .un:=λj hj=>by
      have:=T5.mp hfree j hj;split at this
      .rename_i e;exact jcd e
      .cases this
     refine⟨l,ρf,ds,_,_,rfl,el,?_,hit ρf ds hds,hun,za hlen,λC s H fp pn d hd=>?_⟩
     .rcases fr with ⟨_,e⟩|⟨e1,i,a,l',hk,e⟩
      .exact .inl e
      .exact .inr ⟨by rw[e1]at zz;simpa using zz,i,a,l',hk,e⟩
     ·
      obtain⟨o,ho⟩:=hmem d hd;rw[<-hf]at ho ⊢;dsimp only at ho ⊢;cases hb2:qz is d (j8 ρf) with
      |none=>rw[hb2]at ho;cases ho
      |some ρ2 =>
       obtain⟨ρ',e',wk,ow,dg⟩:=hb ρf d ρ2 hb2 hun;subst e';refine⟨ρ',dg C s H fp pn,wk,ow,?_⟩;rw[hb2]at ho;dsimp only at ho ⊢;cases hcv:ev Γ G c' (j8 ρ') with
       |none=>rw[hcv]at ho;cases ho
       |some w =>
        rw[hcv]at ho;split at ho
        .rename_i hw;cases hw;cases hev:ev Γ G elt' (j8 ρ') with
         |none=>rw[hev]at ho;cases ho
         |some w =>
          rw[hev]at ho;cases w with
          |i _=>cases ho
          |a _=>cases ho
          |v x =>
           dsimp only at ho ⊢;cases hst:x.st with
           |none=>rw[hst]at ho;cases ho
           |some y =>simp only[hst,ff,iz,eB,d9];exact⟨((hc C s H fp pn ρ').1 hcv),λ_=>(he C s H fp pn ρ' x hev).toE hst⟩
        .rename_i y hw;cases hw;split at ho
         .rename_i e1;cases hev:ev Γ G elt' (j8 ρ') with
          |none=>rw[hev]at ho;cases ho
          |some w =>
           rw[hev]at ho;cases w with
           |i _=>cases ho
           |a _=>cases ho
           |v x =>
            dsimp only at ho ⊢;cases hst:x.st with
            |none=>rw[hst]at ho;cases ho
            |some z =>simp only[e1,hst,ff,iz,eB,d9];exact⟨(hc C s H fp pn ρ').2 y a7 hcv e1,λ_=>(he C s H fp pn ρ' x hev).toE hst⟩
         .rename_i e1;simp only[e1,Option.join,jZ];exact⟨(hc C s H fp pn ρ').2 y a4 hcv e1,λz=>by cases z⟩
         .cases ho
        .cases ho
  .cases h
 .cases h
theorem Ny{is:List Nat}{elt' it' c':Ex}{elt it tg:aj}{ifs:List aj}{scope:aY}{p:aK}{ρ:Rho}{r:Rk}(hq:X.calm=a7)(hX:Cok X G)
  (hit:∀ρ ds,ev Γ G it' (j8 ρ)=a3 (.i ds)->DI X ρ tg it ds) (hkind:scope.kind=.function) (hok:Jl scope X.env X.N is=a7) (hs:∀x,aD it X.env x=pure x)
  (hb:∀ρ d ρ2,qz is d (j8 ρ)=a3 ρ2->(∀j∈is,ρ[j]?=a3 .un)->∃ρ',j8 ρ'=ρ2/\Wk ρ' ρ/\owns ρ'=owns ρ/\∀C s H fp pn,DG (cCx X scope C s H fp pn) ρ tg d ρ')
  (he:∀C s H fp pn ρ r,ev Γ G elt' (j8 ρ)=a3 (.v r)->Has (cCx X scope C s H fp pn) ρ elt r)
  (hc:∀C s H fp pn ρ,(ev Γ G c' (j8 ρ)=a3 (.a [])->DTs (cCx X scope C s H fp pn) ρ ifs a7)/\∀y k,ev Γ G c' (j8 ρ)=a3 (.a [y])->y.d=.bl k->DTs (cCx X scope C s H fp pn) ρ ifs k)
  (h:ev Γ G (.comp is elt' it' c') (j8 ρ)=a3 (.v r)):∃l,r=.o l/\DO X ρ (.ListComp elt [⟨tg,it,ifs,0⟩] scope p) l:=by
 obtain⟨l,ρf,ds,pr,g,er,el,hf,hi,hun,hz,hb'⟩:=Oc hit hb he hc h;refine⟨l,er,?_⟩;have main:DO X ρf (.ListComp elt [⟨tg,it,ifs,0⟩] scope p) ((ds.filter pr).map g):=DO.comp is _ _ hi hb' hun hz hq hkind hok hs;rw[<-el]at main;rcases hf with e|⟨hn,i,a,l',hk,e⟩
 .subst e;exact main
 .subst e;exact DO.unfrz hk main hn
end
section
variable{X:Cx}{ρ:Rho}{a b e:aj}{es:List aj}{d:D}{pos p:aK}
theorem Has.map(h:∀σ H Q,Qx X a σ H Q->Qx X e σ H Q):∀{r:Rk},Has X ρ a r->Has X ρ e r
 |.e _,q=>λσ H Q R z=>h σ H Q (q σ H Q R z)
 |.o _,q=>λσ H Q R z=>h σ H Q (q σ H Q R z)
 |.w _,q=>λσ H Q R z=>h σ H Q (q σ H Q R z)
 |.t _,q=>λσ H Q R z=>h σ H Q (q σ H Q R z)
theorem Has.bl{r:Rk}{k:Bool}(h:Has X ρ a r)(e:r.d=.bl k):DE X ρ a (.bl k):=DT.toE (e▸h.toT)
theorem Qk{f:Bf}{rs:List Rk}{r:Rk}{p2:aK}{G:ah->Option D}(c:Cok X G)(hq:f=.min\/f=.all\/f=.sum\/f=.any\/f=.max->X.calm=a7)(hg:Gl X f.name)(h:Vc f rs=a3 r)(ha:HasA X ρ es rs):Has X ρ (.Call (.Name f.name p) es [] p2) r:=by
 have one:∀{x:Rk},HasA X ρ es [x]->∃e,es=[e]/\Has X ρ e x/\a9 [e] X.env=[(a4,ay e X.env)]:=λ{x} h=>by cases h with|cons hs h t=>cases t;exact⟨_,rfl,h,hs⟩
 have two:∀{x y:Rk},HasA X ρ es [x,y]->∃e f,es=[e,f]/\Has X ρ e x/\Has X ρ f y/\a9 [e,f] X.env=(a4,ay e X.env)::a9 [f] X.env/\a9 [f] X.env=[(a4,ay f X.env)]:=λ{x y} h=>by cases h with|cons hs h t=>cases t with|cons hs2 h2 t2=>cases t2;exact⟨_,_,rfl,h,h2,hs,hs2⟩
 unfold Vc at h;split at h
 .rename_i x;obtain⟨e,ee,hx,hs⟩:=one ha;subst ee;split at h
  .rename_i l el;cases h;exact DE.lenL (el▸hx.toT) (c.bt _ (by decide)) hg hs
  .rename_i l el;cases h;exact DE.lenT (el▸hx.toT) (c.bt _ (by decide)) hg hs
  .rename_i y el;obtain⟨z,q⟩:=jw h;subst q;exact DE.lenS (el▸hx.toT) (za z) (c.bt _ (by decide)) hg hs
  .cases h
 .rename_i x y;obtain⟨e,f,ee,hx,hy,hs,hs2⟩:=two ha;subst ee;split at h
  .rename_i i j ei ej;cases h;exact DE.min (ei▸hx.toT) (ej▸hy.toT) (c.bt _ (by decide)) (hq (.inl rfl)) hg hs hs2 (by rw[hs2];rfl)
  .cases h
 .rename_i x y;obtain⟨e,f,ee,hx,hy,hs,hs2⟩:=two ha;subst ee;split at h
  .rename_i i j ei ej;cases h;exact DE.max2 (ei▸hx.toT) (ej▸hy.toT) (c.bt _ (by decide)) (hq (.inr (.inr (.inr (.inr rfl))))) hg hs hs2 (by rw[hs2];rfl)
  .cases h
 .rename_i x;obtain⟨e,ee,hx,hs⟩:=one ha;subst ee;split at h
  .rename_i l el;split at h
   .rename_i ns en;obtain⟨z,q⟩:=jw h;cases q;have:=Qf en;subst this;exact DE.maxL (el▸hx.toT) (λz'=>by subst z';simp at z) (c.bt _ (by decide)) (hq (.inr (.inr (.inr (.inr rfl))))) hg hs
   .cases h
  .cases h
 .rename_i x;obtain⟨e,ee,hx,hs⟩:=one ha;subst ee;split at h
  .rename_i l el;split at h
   .rename_i ns en;obtain⟨z,q⟩:=jw h;cases q;have:=Qf en;subst this;exact DE.minL (el▸hx.toT) (λz'=>by subst z';simp at z) (c.bt _ (by decide)) (hq (.inl rfl)) hg hs
   .cases h
  .cases h
 .rename_i x;obtain⟨e,ee,hx,hs⟩:=one ha;subst ee;split at h
  .rename_i l el;cases q:boolsOf l with
   |none=>rw[q]at h;cases h
   |some bs =>rw[q]at h;cases h;have:=Wh q;subst this;exact DE.all (el▸hx.toT) (c.bt _ (by decide)) (hq (.inr (.inl rfl))) hg hs
  .cases h
 .rename_i x;obtain⟨e,ee,hx,hs⟩:=one ha;subst ee;split at h
  .rename_i l el;cases q:boolsOf l with
   |none=>rw[q]at h;cases h
   |some bs =>rw[q]at h;cases h;have:=Wh q;subst this;exact DE.any (el▸hx.toT) (c.bt _ (by decide)) (hq (.inr (.inr (.inr (.inl rfl))))) hg hs
  .cases h
 .rename_i x;obtain⟨e,ee,hx,hs⟩:=one ha;subst ee;split at h
  .rename_i s l el;cases h;exact DE.tupM (hx.toM el) (c.bt _ (by decide)) hg hs
  .cases h
 .rename_i x;obtain⟨e,ee,hx,hs⟩:=one ha;subst ee;split at h
  .rename_i s l el;cases h;exact DO.listM (hx.toM el) (c.bt _ (by decide)) hg hs
  .cases h
 .rename_i x;obtain⟨e,ee,hx,hs⟩:=one ha;subst ee;split at h
  .rename_i l el;cases q:intsOf l with
   |none=>rw[q]at h;cases h
   |some ns =>rw[q]at h;cases h;have:=Qf q;subst this;exact DE.sum a7 (show DT X ρ e (.lst (ns.map D.int))from el▸hx.toT) (c.bt _ (by decide)) (hq (.inr (.inr (.inl rfl)))) hg hs
  .rename_i l el;cases q:intsOf l with
   |none=>rw[q]at h;cases h
   |some ns =>rw[q]at h;cases h;have:=Qf q;subst this;exact DE.sum a4 (show DT X ρ e (.tup (ns.map D.int))from el▸hx.toT) (c.bt _ (by decide)) (hq (.inr (.inr (.inl rfl)))) hg hs
  .cases h
 .rename_i x;obtain⟨e,ee,hx,hs⟩:=one ha;subst ee;split at h
  .rename_i k el;cases h;exact DE.int1 (el▸hx.toT) (c.bt _ (by decide)) hg hs
  .cases h
 .cases h
end
section
variable{Γ:ah->List D->Rc}{G:ah->Option D}{X:Cx}
theorem Fv{d:D}{ns:List Int}(h:tupI d=a3 ns):d=.tup (ns.map D.int):=by
 unfold tupI at h;split at h
 .rw[Qf h]
 .cases h
theorem Il:∀{l:List D}{ks:List (List Int)},Yx l=a3 ks->l=ks.map λk=>D.tup (k.map D.int)
 |[],ks,h=>by cases h;rfl
 |d::l,ks,h=>by
  unfold Yx at h;split at h
  .rename_i k ks' e1 e2;cases h;rw[Fv e1,Il e2];rfl
  .cases h
theorem jdk:∀{d:D}{k:Int×List Int},prI d=a3 k->d=pairD k:=λ{d k} h=>by
 unfold prI at h;split at h
 .obtain⟨x,e,z⟩:=Xv.mp h;subst z;rw[Fv e];rfl
 .cases h
theorem j1x:∀{l:List D}{ks:List (Int×List Int)},Dk l=a3 ks->l=ks.map pairD
 |[],ks,h=>by cases h;rfl
 |d::l,ks,h=>by
  unfold Dk at h;split at h
  .rename_i k ks' e1 e2;cases h;rw[jdk e1,j1x e2];rfl
  .cases h
theorem j3t {ρ:Rho} {f:ah} {e:aj} {es:List aj} {rs:List Rk} {r:Rk} {p p2:aK} (g:Gok X Γ) (hg:Gl X f) (hdb:(f==k8s)=a4) (he:a9 (e::es) X.env=(a4,ay e X.env)::a9 es X.env)
  (hpl:(aO p2 (a9 es X.env)).any (·.1)=a4) (ha:HasA X ρ (e::es) rs)
  (h:(match zp rs with|some ds=>(Γ f ds).rk.map W.v|none=>match Γ f (rs.map Rk.d)with|.val d=>a3 (.v (.t d))|_=>a6)=a3 (.v r)):Has X ρ (.Call (.Name f p) (e::es) [] p2) r:=by
 split at h
 .rename_i ds hds;have q:=g f ds;cases z:Γ f ds with
  |val d=>rw[z]at h q;cases h;exact DE.call q (ha.toA hds) ⟨rfl,rfl⟩ hg hdb he hpl
  |fresh l=>rw[z]at h q;cases h;exact DO.call q (ha.toA hds) ⟨rfl,rfl⟩ hg hdb he hpl
  |err x=>rw[z]at h;cases h
  |lval d=>rw[z]at h;cases h
  |no=>rw[z]at h;cases h
 .have q:=g f (rs.map Rk.d);split at h
  .rename_i d z;rw[z]at q;cases h;exact DT.call q ha.toT ⟨rfl,rfl⟩ hg hdb he hpl
  .cases h
end
def XM(X:Cx)(ρ:Rho)(y:ah):Nd->Prop
 |.e e=>DX X ρ e y
 |.a es=>DXA X ρ es y
 |_=>True
structure Tr(X:Cx)(t:Ex)(nd:Nd):Prop where
 m:∀(Γ:ah->List D->Rc)(G:ah->Option D),Cok X G->Gok X Γ->jgj Γ G X t nd
 x:∀(Γ:ah->List D->Rc)(G:ah->Option D),Cok X G->Gok X Γ->∀ρ y,er Γ G t (j8 ρ)=a3 y->XM X ρ y nd
theorem Tr.int:∀{X:Cx}{i:Int}{n:Nat}{p:aK},Tr X (.lit (.int i)) (.e (.Constant (.int i) n p)):=by intro _ _ _ _;refine⟨λΓ G=>?_,λ_ _ _ _ _ _ h=>nomatch h⟩;intro _ _ ρ r h;simp only[Ie]at h;cases h;exact DE.int
theorem Tr.bl:∀{X:Cx}{b:Bool}{n:Nat}{p:aK},Tr X (.lit (.bl b)) (.e (.Constant (.bool b) n p)):=by intro _ _ _ _;refine⟨λΓ G=>?_,λ_ _ _ _ _ _ h=>nomatch h⟩;intro _ _ ρ r h;simp only[Ie]at h;cases h;exact DE.bl
theorem Tr.non:∀{X:Cx}{n:Nat}{p:aK},Tr X (.lit .non) (.e (.Constant .none n p)):=by intro _ _ _;refine⟨λΓ G=>?_,λ_ _ _ _ _ _ h=>nomatch h⟩;intro _ _ ρ r h;simp only[Ie]at h;cases h;exact DE.non
theorem Tr.str:∀{X:Cx}{y:ah}{n:Nat}{p:aK},Tr X (.lit (.str y)) (.e (.Constant (.str y) n p)):=by intro _ _ _ _;refine⟨λΓ G=>?_,λ_ _ _ _ _ _ h=>nomatch h⟩;intro _ _ ρ r h;simp only[Ie]at h;cases h;exact DE.str
theorem Tr.var:∀{X:Cx}{k:Nat}{x:ah}{p:aK}(hN:X.N[k]?=a3 x) (hv:Vis X.env.scope x) (hd:(x==k8s)=a4) (hcd:(x==k8t)=a4),Tr X (.var k) (.e (.Name x p)):=by
 intro _ _ _ _ hN hv hd hcd;refine⟨λΓ G=>?_,λ_ _ _ _ _ _ h=>nomatch h⟩;intro _ _ ρ r h;simp only[ji9,Ft]at h;split at h
 .rename_i e;cases h;exact DE.var _ (Yw e) hN hv hd hcd
 .rename_i e;cases h;obtain⟨a,q⟩:=Qm e;exact DL.var _ q hN hv hd hcd
 .cases h
theorem Tr.glob:∀{X:Cx}{x:ah}{p:aK}(hg:Gl X x)(hd:(x==k8s)=a4) (hb:Vp x=a4),Tr X (.glob x) (.e (.Name x p)):=by
 intro _ _ _ hg hd hb;refine⟨λΓ G=>?_,λ_ _ _ _ _ _ h=>nomatch h⟩;rename_i X x p;intro c _ ρ r h;simp only[jg8]at h;cases e:G x with
 |none=>rw[e]at h;cases h
 |some d=>rw[e]at h;cases h;obtain⟨u,v,hm,r,q⟩:=c.gl x d hb e;exact DE.glob hg hm r q hd
theorem Tr.bin:∀{X:Cx}{op:Bop}{a' b':Ex}{a b:aj}{p:aK},Tr X a' (.e a)->Tr X b' (.e b)->Tr X (.bin op a' b') (.e (.BinOp a op.op b p)):=by
 intro _ _ _ _ _ _ _ q0 q1;refine⟨λΓ G=>?_,λ_ _ _ _ _ _ h=>nomatch h⟩;have iha:=q0.m Γ G;have ihb:=q1.m Γ G;intro c g ρ r h;simp only[jih,Jm]at h;split at h
 .rename_i x y ex ey;cases e:Vx _ x y with
  |none=>rw[e]at h;cases h
  |some z=>rw[e]at h;cases h;exact j6i e (iha c g ρ x ex) (ihb c g ρ y ey)
 .cases h
theorem Tr.neg:∀{X:Cx}{a':Ex}{a:aj}{p:aK},Tr X a' (.e a)->Tr X (.neg a') (.e (.UnaryOp .USub a p)):=by
 intro _ _ _ _ q0;refine⟨λΓ G=>?_,λ_ _ _ _ _ _ h=>nomatch h⟩;have iha:=q0.m Γ G;intro c g ρ r h;simp only[jid,j06]at h;split at h
 .rename_i x ex;split at h
  .rename_i i e;cases h;exact DE.neg (e▸(iha c g ρ x ex).toT)
  .cases h
 .cases h
theorem Tr.cmp:∀{X:Cx}{op:Cop}{a' b':Ex}{a b:aj}{p:aK}(hm:aF op.op b=a4),Tr X a' (.e a)->Tr X b' (.e b)->Tr X (.cmp op a' b') (.e (.Compare a [op.op] [b] p)):=by
 intro _ _ _ _ _ _ _ hm q0 q1;refine⟨λΓ G=>?_,λ_ _ _ _ _ _ h=>nomatch h⟩;have iha:=q0.m Γ G;have ihb:=q1.m Γ G;intro c g ρ r h;simp only[j9u,Ca]at h;split at h
 .rename_i x y ex ey;cases e:Wf _ x.d y.d with
  |none=>rw[e]at h;cases h
  |some z=>rw[e]at h;cases h;exact(Lw c.un' e (iha c g ρ x ex).toT (ihb c g ρ y ey).toT hm).1
 .cases h
theorem Tr.bcmp:∀{X:Cx}{op:Cop}{a' b':Ex}{a b:aj}{p:aK}(hm:aF op.op b=a4),Tr X a' (.e a)->Tr X b' (.e b)->Tr X (.cmp op a' b') (.b (.Compare a [op.op] [b] p)):=by
 intro _ _ _ _ _ _ _ hm q0 q1;refine⟨λΓ G=>?_,λ_ _ _ _ _ _ _=>trivial⟩;have iha:=q0.m Γ G;have ihb:=q1.m Γ G;intro c g ρ k h;obtain⟨r,h,hk⟩:=v7 h;simp only[j9u,Ca]at h;split at h
 .rename_i x y ex ey;cases e:Wf _ x.d y.d with
  |none=>rw[e]at h;cases h
  |some z=>rw[e]at h;cases h;cases hk;exact(Lw c.un' e (iha c g ρ x ex).toT (ihb c g ρ y ey).toT hm).2
 .cases h
theorem Tr.bisN:∀{X:Cx}{a':Ex}{a:aj}{n:Nat}{p p2:aK},Tr X a' (.e a)->Tr X (.isN a') (.b (.Compare a [.Is] [.Constant .none n p2] p)):=by
 intro _ _ _ _ _ _ q0;refine⟨λΓ G=>?_,λ_ _ _ _ _ _ _=>trivial⟩;have iha:=q0.m Γ G;intro c g ρ k h;obtain⟨r,h,hk⟩:=v7 h;simp only[j3z]at h;split at h
 .rename_i x ex;cases h;cases hk;exact DB.isN (iha c g ρ x ex).toT
 .cases h
theorem Tr.isNN:∀{X:Cx}{a':Ex}{a:aj}{n:Nat}{p p2:aK},Tr X a' (.e a)->Tr X (.not (.isN a')) (.e (.Compare a [.IsNot] [.Constant .none n p2] p)):=by
 intro _ _ _ _ _ _ q0;refine⟨λΓ G=>?_,λ_ _ _ _ _ _ h=>nomatch h⟩;have iha:=q0.m Γ G;intro c g ρ r h;simp only[Ib,j3z]at h;cases e:truth _ with
 |none=>rw[e]at h;cases h
 |some k =>
  rw[e]at h;cases h;obtain⟨x,ex,ed⟩:=v7 e;split at ex
  .rename_i y ey;cases ex;cases ed;exact DE.isNotN (iha c g ρ y ey).toT
  .cases ex
theorem Tr.bisNN:∀{X:Cx}{a':Ex}{a:aj}{n:Nat}{p p2:aK},Tr X a' (.e a)->Tr X (.not (.isN a')) (.b (.Compare a [.IsNot] [.Constant .none n p2] p)):=by
 intro _ _ _ _ _ _ q0;refine⟨λΓ G=>?_,λ_ _ _ _ _ _ _=>trivial⟩;have iha:=q0.m Γ G;intro c g ρ k h;obtain⟨r,h,hk⟩:=v7 h;simp only[Ib,j3z]at h;cases e:truth _ with
 |none=>rw[e]at h;cases h
 |some k =>
  rw[e]at h;cases h;cases hk;obtain⟨x,ex,ed⟩:=v7 e;split at ex
  .rename_i y ey;cases ex;cases ed;exact DB.isNotN (iha c g ρ y ey).toT
  .cases ex
theorem Tr.one:∀{X:Cx}{a':Ex}{a:aj}{op:BoolOp}{p:aK},Tr X a' (.e a)->Tr X a' (.e (.BoolOp op [a] p)):=by intro _ _ _ _ _ q0;refine⟨λΓ G=>?_,λΓ G c g ρ y h σ H Q R k=>(j4u peS).to (q0.x Γ G c g ρ y h σ H Q R k)⟩;have iha:=q0.m Γ G;intro c g ρ r h;exact Has.map (λσ H Q q=>(j4u peS).to q) (iha c g ρ r h)
theorem Tr.and:∀{X:Cx}{a' t':Ex}{a b:aj}{rest:List aj}{p:aK},Tr X a' (.e a)->Tr X t' (.e (.BoolOp .And (b::rest) p))->Tr X (.and a' t') (.e (.BoolOp .And (a::b::rest) p)):=by
 intro _ _ _ _ _ _ _ q0 q1;refine⟨λΓ G=>?_,λ_ _ _ _ _ _ h=>nomatch h⟩;have iha:=q0.m Γ G;have ihb:=q1.m Γ G;intro c g ρ r h;simp only[jii]at h;split at h
 .rename_i e;cases h;obtain⟨x,ex,ed⟩:=v7 e;exact(DE.and (m:=a4) ((iha c g ρ x ex).bl ed).toT λz=>by cases z)
 .rename_i e;obtain⟨x,ex,ed⟩:=v7 e;cases e2:truth (ev Γ G _ (j8 ρ)) with
  |none=>rw[e2]at h;cases h
  |some k =>rw[e2]at h;cases h;obtain⟨y,ey,fd⟩:=v7 e2;exact(DE.and ((iha c g ρ x ex).bl ed).toT λ_=>(ihb c g ρ y ey).bl fd).eq (by simp)
 .cases h
theorem Tr.not:∀{X:Cx}{a':Ex}{a:aj}{p:aK},Tr X a' (.e a)->Tr X (.not a') (.e (.UnaryOp .Not a p)):=by
 intro _ _ _ _ q0;refine⟨λΓ G=>?_,λ_ _ _ _ _ _ h=>nomatch h⟩;have iha:=q0.m Γ G;intro c g ρ r h;simp only[Ib]at h;cases e:truth (ev Γ G _ (j8 ρ)) with
 |none=>rw[e]at h;cases h
 |some k =>rw[e]at h;cases h;obtain⟨x,ex,ed⟩:=v7 e;exact DE.not ((iha c g ρ x ex).bl ed).toT
theorem Tr.wor1:∀{X:Cx}{a':Ex}{a:aj}{p:aK},Tr X a' (.b a)->Tr X a' (.w (.BoolOp .Or [a] p)):=by intro _ _ _ _ q0;refine⟨λΓ G=>?_,λ_ _ _ _ _ _ _=>trivial⟩;have iha:=q0.m Γ G;intro c g ρ k h;exact DW.or1 (iha c g ρ k h)
theorem Tr.wor:∀{X:Cx}{a' t':Ex}{a b:aj}{rest:List aj}{p:aK},Tr X a' (.b a)->Tr X t' (.w (.BoolOp .Or (b::rest) p))->Tr X (.or a' t') (.w (.BoolOp .Or (a::b::rest) p)):=by
 intro _ _ _ _ _ _ _ q0 q1;refine⟨λΓ G=>?_,λ_ _ _ _ _ _ _=>trivial⟩;have iha:=q0.m Γ G;have ihb:=q1.m Γ G;intro c g ρ k h;obtain⟨r,h,hk⟩:=v7 h;simp only[jju]at h;split at h
 .rename_i e;cases h;cases hk;exact DW.or (m:=a4) (iha c g ρ a7 e) λz=>by cases z
 .rename_i e;cases e2:truth (ev Γ G _ (j8 ρ)) with
  |none=>rw[e2]at h;cases h
  |some m =>rw[e2]at h;cases h;cases hk;have q:=DW.or (iha c g ρ a4 e) λ_=>ihb c g ρ _ e2;rw[k8]at q;exact q
 .cases h
theorem Tr.bw:∀{X:Cx}{a':Ex}{op:BoolOp}{es:List aj}{p:aK},Tr X a' (.w (.BoolOp op es p))->Tr X a' (.b (.BoolOp op es p)):=by intro _ _ _ _ _ q0;refine⟨λΓ G=>?_,λ_ _ _ _ _ _ _=>trivial⟩;have iha:=q0.m Γ G;intro c g ρ k h;exact DW.toB (iha c g ρ k h)
theorem Tr.bnot:∀{X:Cx}{a':Ex}{a:aj}{p:aK},Tr X a' (.b a)->Tr X (.not a') (.b (.UnaryOp .Not a p)):=by
 intro _ _ _ _ q0;refine⟨λΓ G=>?_,λ_ _ _ _ _ _ _=>trivial⟩;have iha:=q0.m Γ G;intro c g ρ k h;obtain⟨r,h,hk⟩:=v7 h;simp only[Ib]at h;cases e:truth (ev Γ G _ (j8 ρ)) with
 |none=>rw[e]at h;cases h
 |some m=>rw[e]at h;cases h;cases hk;exact DB.not (iha c g ρ m e)
theorem Tr.bval:∀{X:Cx}{a':Ex}{a:aj}(he:∀whole,fw a X.env whole=(do let v <-whole;ko a.pos;iK [v] (truthy v))),Tr X a' (.e a)->Tr X a' (.b a):=by intro _ _ _ he q0;refine⟨λΓ G=>?_,λ_ _ _ _ _ _ _=>trivial⟩;have iha:=q0.m Γ G;intro c g ρ k h;obtain⟨r,h,hk⟩:=v7 h;exact DB.val ((iha c g ρ r h).bl hk).toT he
theorem Tr.ite:∀{X:Cx}{c' a' b':Ex}{c a b:aj}{p:aK},Tr X c' (.b c)->Tr X a' (.e a)->Tr X b' (.e b)->Tr X (.ite c' a' b') (.e (.IfExp c a b p)):=by
 intro _ _ _ _ _ _ _ _ q0 q1 q2;refine⟨λΓ G=>?_,λ_ _ _ _ _ _ h=>nomatch h⟩;have ihc:=q0.m Γ G;have iha:=q1.m Γ G;have ihb:=q2.m Γ G;intro c g ρ r h;simp only[jif]at h;split at h
 .rename_i e;split at h
  .rename_i x ex;cases es:x.st with
   |none=>rw[es]at h;cases h
   |some d=>rw[es]at h;cases h;exact(DE.ite (d':=d) (ihc c g ρ a7 e) (λ_=>(iha c g ρ x ex).toE es) λz=>by cases z).eq (by simp)
  .cases h
 .rename_i e;split at h
  .rename_i x ex;cases es:x.st with
   |none=>rw[es]at h;cases h
   |some d=>rw[es]at h;cases h;exact(DE.ite (d:=d) (ihc c g ρ a4 e) (λz=>by cases z) λ_=>(ihb c g ρ x ex).toE es).eq (by simp)
  .cases h
 .cases h
theorem Tr.nil:∀{X:Cx},Tr X .nil (.a []):=by intro _;refine⟨λΓ G=>?_,λ_ _ _ _ _ _ h=>nomatch h⟩;intro c g ρ rs h;simp only[Mz]at h;cases h;exact .nil
theorem Tr.cons:∀{X:Cx}{a' b':Ex}{a:aj}{es:List aj}(hs:a9 (a::es) X.env=(a4,ay a X.env)::a9 es X.env),Tr X a' (.e a)->Tr X b' (.a es)->Tr X (.cons a' b') (.a (a::es)):=by
 intro _ _ _ _ _ hs q0 q1;refine⟨λΓ G=>?_,λΓ G=>?_⟩
 .have iha:=q0.m Γ G;have ihb:=q1.m Γ G;intro c g ρ rs h;simp only[Fp,consW]at h;split at h
  .rename_i x xs ex exs;cases h;exact .cons hs (iha c g ρ x ex) (ihb c g ρ xs exs)
  .cases h
 .skip
  intro c g ρ y h;rw[er]at h;split at h
  .rename_i x ex;cases h;exact DXA.head (q0.x Γ G c g ρ _ ex) hs
  split at h
  .rename_i r ez;exact DXA.tail (q0.m Γ G c g ρ r ez).toT (q1.x Γ G c g ρ y h) hs
  .cases h
theorem Tr.tup:∀{X:Cx}{es':Ex}{es:List aj}{n:Nat}{p:aK},Tr X es' (.a es)->Tr X (.tup es') (.e (.Tuple es n p)):=by
 intro _ _ _ _ _ q0;refine⟨λΓ G=>?_,λ_ _ _ _ _ _ h=>nomatch h⟩;have iha:=q0.m Γ G;intro c g ρ r h;simp only[jia,Yd]at h;split at h
 .rename_i rs ers;split at h
  .rename_i ds hds;obtain⟨z,q⟩:=jw h;cases q;exact DE.tup (n:=0) ((iha c g ρ rs ers).toA hds) (za z)
  .cases h
 .cases h
theorem Tr.lst:∀{X:Cx}{es':Ex}{es:List aj}{p:aK},Tr X es' (.a es)->Tr X (.lst es') (.e (.List es p)):=by
 intro _ _ _ _ q0;refine⟨λΓ G=>?_,λ_ _ _ _ _ _ h=>nomatch h⟩;have iha:=q0.m Γ G;intro c g ρ r h;simp only[jie,Ym]at h;split at h
 .rename_i rs ers;split at h
  .rename_i ds hds;obtain⟨z,q⟩:=jw h;cases q;exact DO.lst ((iha c g ρ rs ers).toA hds) (za z)
  .cases h
 .cases h
theorem Tr.ix:∀{X:Cx}{a' b':Ex}{a b:aj}{p:aK}(hs:Yb b),Tr X a' (.e a)->Tr X b' (.e b)->Tr X (.ix a' b') (.e (.Subscript a b p)):=by
 intro _ _ _ _ _ _ hs q0 q1;refine⟨λΓ G=>?_,λΓ G c g ρ y h σ H Q R k=>(Nb j5f peS peS hs).to (q0.x Γ G c g ρ y (by rw[er]at h;exact h) σ H _ R k)⟩;have iha:=q0.m Γ G;have ihb:=q1.m Γ G;intro c g ρ r h;simp only[jjv,ixW]at h;split at h
 .rename_i x y ex ey;split at h
  .rename_i s l i hx hy;cases z:atI l i with
   |none=>rw[z]at h;cases h
   |some d=>rw[z]at h;cases h;exact DE.ixM ((iha c g ρ x ex).toM hx) (hy▸(ihb c g ρ y ey).toT) z hs
  .rename_i i hx hy;split at h
   .rename_i y' ed;split at h
    .rename_i hl;cases z:atI y'.cps.toList i with
     |none=>rw[z]at h;cases h
     |some d=>rw[z]at h;cases h;exact DE.ixC (ed▸(iha c g ρ x ex).toT) (hy▸(ihb c g ρ y ey).toT) (za hl) z hs
    .cases h
   .cases h
  .cases h
 .cases h
theorem Tr.oN:∀{X:Cx},Tr X .nil (.o a6):=by intro _;refine⟨λΓ G=>?_,λ_ _ _ _ _ _ _=>trivial⟩;intro c g ρ o h;simp only[Mz,Qj]at h;cases h;exact DP.none
theorem Tr.oS:∀{X:Cx}{a':Ex}{a:aj},Tr X a' (.e a)->Tr X (.cons a' .nil) (.o (a3 a)):=by
 intro _ _ _ q0;refine⟨λΓ G=>?_,λ_ _ _ _ _ _ _=>trivial⟩;have iha:=q0.m Γ G;intro c g ρ o h;simp only[Fp,Mz,consW]at h;split at h
 .rename_i x xs ex exs;cases exs;simp only[Qj]at h;split at h
  .rename_i i ei;cases h;exact DP.some (ei▸(iha c g ρ x ex).toT)
  .cases h
 .cases h
theorem Tr.sl:∀{X:Cx}{a' l' h':Ex}{a:aj}{lo hi:Option aj}{p p2:aK},Tr X a' (.e a)->Tr X l' (.o lo)->Tr X h' (.o hi)->Tr X (.sl a' l' h') (.e (.Subscript a (.Slice lo hi a6 p2) p)):=by
 intro _ _ _ _ _ _ _ _ _ q0 q1 q2;refine⟨λΓ G=>?_,λ_ _ _ _ _ _ h=>nomatch h⟩;have iha:=q0.m Γ G;have ihl:=q1.m Γ G;have ihh:=q2.m Γ G;intro c g ρ r h;simp only[jjt]at h;split at h
 .rename_i x l hh ex el eh;split at h
  .rename_i ds e;cases h;exact DO.sliceM ((iha c g ρ x ex).toM e) (ihl c g ρ l el) (ihh c g ρ hh eh)
  .rename_i ds e;split at h
   .cases h
   .rename_i z;cases h;exact DE.sliceM ((iha c g ρ x ex).toM e) (ihl c g ρ l el) (ihh c g ρ hh eh) z
  .split at h
   .rename_i y' ed;obtain⟨z,q⟩:=jw h;cases q;exact DE.sliceS (ed▸(iha c g ρ x ex).toT) (ihl c g ρ l el) (ihh c g ρ hh eh) (za z)
   .cases h
 .cases h
theorem Tr.call:∀{X:Cx}{f:ah}{es':Ex}{e:aj}{es:List aj}{p p2:aK}(hg:Gl X f) (hdb:(f==k8s)=a4) (he:a9 (e::es) X.env=(a4,ay e X.env)::a9 es X.env) (hpl:(aO p2 (a9 es X.env)).any (·.1)=a4),Tr X es' (.a (e::es))->Tr X (.call f es') (.e (.Call (.Name f p) (e::es) [] p2)):=by
 intro _ f _ _ _ _ _ hg hdb he hpl q0;refine⟨λΓ G=>?_,λΓ G=>?_⟩
 .have iha:=q0.m Γ G;intro c g ρ r h;simp only[jgc,Qq]at h;split at h
  .rename_i rs ers;exact j3t g hg hdb he hpl (iha c g ρ rs ers) h
  .cases h
 .skip
  intro c g ρ y h;rw[er]at h;split at h
  .rename_i x ex;split at h
   .rename_i hz;cases h;obtain⟨d,hd⟩:=Xw.mp hz;obtain⟨fa,hfa,hk⟩:=c.fn _ d hd;exact DX.args (q0.x Γ G c g ρ _ ex) hg hdb hfa hk he hpl
   .cases h
  split at h
  .rename_i rs ers;split at h
   .rename_i z ez;split at h
    .rename_i hz;cases h;have q:=g f (rs.map Rk.d);rw[ez]at q;obtain⟨d,hd⟩:=Xw.mp hz;obtain⟨_,o,ho⟩:=c.ec _ d hd;exact DX.call q (q0.m Γ G c g ρ rs ers).toT ⟨rfl,rfl⟩ (W.mg_of c.kin c.ns ho) hg hdb he hpl
    .cases h
   .cases h
  .cases h
theorem Tr.chn:∀{X:Cx}{a' b' c':Ex}{a b c:aj}{p:aK}(hm:kN [.Lt,.Lt] [b,c]=a4),Tr X a' (.e a)->Tr X b' (.e b)->Tr X c' (.e c)->Tr X (.chn a' b' c') (.e (.Compare a [.Lt,.Lt] [b,c] p)):=by
 intro _ _ _ _ _ _ _ _ hm q0 q1 q2;refine⟨λΓ G=>?_,λ_ _ _ _ _ _ h=>nomatch h⟩;have iha:=q0.m Γ G;have ihb:=q1.m Γ G;have ihc:=q2.m Γ G;intro c g ρ r h;simp only[jig,j0q]at h;split at h
 .rename_i x y z ex ey ez;split at h
  .rename_i i j k ei ej ek;cases h;exact DE.chn (ei▸(iha c g ρ x ex).toT) (ej▸(ihb c g ρ y ey).toT) (ek▸(ihc c g ρ z ez).toT) hm
  .cases h
 .cases h
theorem Tr.callD:∀{X:Cx}{f:ah}{es':Ex}{e:aj}{es:List aj}{p p2:aK}(hf:f∈j3q) (hg:Gl X f) (hdb:(f==k8s)=a4) (he:a9 (e::es) X.env=(a4,ay e X.env)::a9 es X.env) (hpl:(aO p2 (a9 es X.env)).any (·.1)=a4),Tr X es' (.a (e::es))->Tr X (.callD f es') (.e (.Call (.Name f p) (e::es) [] p2)):=by
 intro _ f _ _ _ _ _ hf hg hdb he hpl q0;refine⟨λΓ G=>?_,λ_ _ _ _ _ _ h=>nomatch h⟩;have iha:=q0.m Γ G;intro c g ρ r h;simp only[jch]at h;split at h
 .rename_i rs ers;split at h
  .rename_i ds eds;split at h
   .rename_i d ed;cases h;have q:=g f (ds++[.non]);rw[ed]at q;exact DE.callD q hf ((iha c g ρ rs ers).toA eds) ⟨rfl,rfl⟩ hg hdb he hpl
   .cases h
  .cases h
 .cases h
theorem Tr.max1:∀{X:Cx}{es':Ex}{e:aj}{p p2:aK}(hq:X.calm=a7)(hg:Gl X "max"),Tr X es' (.a [e])->Tr X (.blt .max es') (.e (.Call (.Name "max" p) [e] [] p2)):=by
 intro _ _ _ _ _ hq hg q0;refine⟨λΓ G=>?_,λ_ _ _ _ _ _ h=>nomatch h⟩;have iha:=q0.m Γ G;intro c g ρ r h;simp only[Wm,vz]at h;split at h
 .rename_i rs ers;cases e:Vc _ rs with
  |none=>rw[e]at h;cases h
  |some x=>rw[e]at h;cases h;exact Qk (f:=.max) c (λ_=>hq) hg e (iha c g ρ rs ers)
 .cases h
theorem Tr.len:∀{X:Cx}{es':Ex}{e:aj}{p p2:aK}(hg:Gl X "len"),Tr X es' (.a [e])->Tr X (.blt .len es') (.e (.Call (.Name "len" p) [e] [] p2)):=by
 intro _ _ _ _ _ hg q0;refine⟨λΓ G=>?_,λ_ _ _ _ _ _ h=>nomatch h⟩;have iha:=q0.m Γ G;intro c g ρ r h;simp only[Wm,vz]at h;split at h
 .rename_i rs ers;cases e:Vc _ rs with
  |none=>rw[e]at h;cases h
  |some x=>rw[e]at h;cases h;exact Qk (f:=.len) c (λz=>by rcases z with z|z|z|z|z<;>cases z) hg e (iha c g ρ rs ers)
 .cases h
theorem Tr.all:∀{X:Cx}{es':Ex}{e:aj}{p p2:aK}(hq:X.calm=a7)(hg:Gl X "all"),Tr X es' (.a [e])->Tr X (.blt .all es') (.e (.Call (.Name "all" p) [e] [] p2)):=by
 intro _ _ _ _ _ hq hg q0;refine⟨λΓ G=>?_,λ_ _ _ _ _ _ h=>nomatch h⟩;have iha:=q0.m Γ G;intro c g ρ r h;simp only[Wm,vz]at h;split at h
 .rename_i rs ers;cases e:Vc _ rs with
  |none=>rw[e]at h;cases h
  |some x=>rw[e]at h;cases h;exact Qk (f:=.all) c (λ_=>hq) hg e (iha c g ρ rs ers)
 .cases h
theorem Tr.tuple:∀{X:Cx}{es':Ex}{e:aj}{p p2:aK}(hg:Gl X "tuple"),Tr X es' (.a [e])->Tr X (.blt .tuple es') (.e (.Call (.Name "tuple" p) [e] [] p2)):=by
 intro _ _ _ _ _ hg q0;refine⟨λΓ G=>?_,λ_ _ _ _ _ _ h=>nomatch h⟩;have iha:=q0.m Γ G;intro c g ρ r h;simp only[Wm,vz]at h;split at h
 .rename_i rs ers;cases e:Vc _ rs with
  |none=>rw[e]at h;cases h
  |some x=>rw[e]at h;cases h;exact Qk (f:=.tuple) c (λz=>by rcases z with z|z|z|z|z<;>cases z) hg e (iha c g ρ rs ers)
 .cases h
theorem Tr.list:∀{X:Cx}{es':Ex}{e:aj}{p p2:aK}(hg:Gl X "list"),Tr X es' (.a [e])->Tr X (.blt .list es') (.e (.Call (.Name "list" p) [e] [] p2)):=by
 intro _ _ _ _ _ hg q0;refine⟨λΓ G=>?_,λ_ _ _ _ _ _ h=>nomatch h⟩;have iha:=q0.m Γ G;intro c g ρ r h;simp only[Wm,vz]at h;split at h
 .rename_i rs ers;cases e:Vc _ rs with
  |none=>rw[e]at h;cases h
  |some x=>rw[e]at h;cases h;exact Qk (f:=.list) c (λz=>by rcases z with z|z|z|z|z<;>cases z) hg e (iha c g ρ rs ers)
 .cases h
theorem Tr.sum:∀{X:Cx}{es':Ex}{e:aj}{p p2:aK}(hq:X.calm=a7)(hg:Gl X "sum"),Tr X es' (.a [e])->Tr X (.blt .sum es') (.e (.Call (.Name "sum" p) [e] [] p2)):=by
 intro _ _ _ _ _ hq hg q0;refine⟨λΓ G=>?_,λ_ _ _ _ _ _ h=>nomatch h⟩;have iha:=q0.m Γ G;intro c g ρ r h;simp only[Wm,vz]at h;split at h
 .rename_i rs ers;cases e:Vc _ rs with
  |none=>rw[e]at h;cases h
  |some x=>rw[e]at h;cases h;exact Qk (f:=.sum) c (λ_=>hq) hg e (iha c g ρ rs ers)
 .cases h
theorem Tr.intc:∀{X:Cx}{es':Ex}{e:aj}{p p2:aK}(hg:Gl X "int"),Tr X es' (.a [e])->Tr X (.blt .int es') (.e (.Call (.Name "int" p) [e] [] p2)):=by
 intro _ _ _ _ _ hg q0;refine⟨λΓ G=>?_,λ_ _ _ _ _ _ h=>nomatch h⟩;have iha:=q0.m Γ G;intro c g ρ r h;simp only[Wm,vz]at h;split at h
 .rename_i rs ers;cases e:Vc _ rs with
  |none=>rw[e]at h;cases h
  |some x=>rw[e]at h;cases h;exact Qk (f:=.int) c (λz=>by rcases z with z|z|z|z|z<;>cases z) hg e (iha c g ρ rs ers)
 .cases h
theorem Tr.join:∀{X:Cx}{a':Ex}{a:aj}{sep:ah}{n:Nat}{p0 p1 p2:aK}(hbase:aN (.Constant (.str sep) n p0) "join" X.env (ay (.Constant (.str sep) n p0) X.env)=ay (.Constant (.str sep) n p0) X.env) (hfew:((aO p2 (a9 [a] X.env)).all (λx=>!x.1)&&(bu p2 (aT [] X.env)).all (λx=>x.1.isSome)&&decide (([a]:List aj).length+([]:List aR).length+(if ([]:List aR).isEmpty then 0 else 1)<30))=a7) (hline:(p1.endLine==p2.line)=a7) (hs:a9 [a] X.env=(a4,ay a X.env)::a9 [] X.env),Tr X a' (.e a)->Tr X (.join sep a') (.e (.Call (.Attribute (.Constant (.str sep) n p0) "join" p1) [a] [] p2)):=by
 intro _ _ _ _ _ _ _ _ hbase hfew hline hs q0;refine⟨λΓ G=>?_,λ_ _ _ _ _ _ h=>nomatch h⟩;have iha:=q0.m Γ G;intro c g ρ r h;simp only[jg7,Mp]at h;split at h
 .rename_i x ex;split at h
  .rename_i l el;split at h
   .rename_i ts et;obtain⟨z,q⟩:=jw h;cases q;have:=Ws et;subst this;exact DE.join (el▸(iha c g ρ x ex).toT) z hfew hbase hline hs
   .cases h
  .cases h
 .cases h
theorem Tr.lset:∀{X:Cx}{a':Ex}{a:aj}{p p1 p2 pos:aK}(hq:X.calm=a7)(hg:Gl X "len") (hg2:Gl X "set") (hs:a9 [a] X.env=[(a4,ay a X.env)]) (hs2:a9 [.Call (.Name "set" p1) [a] [] p2] X.env=[(a4,ay (.Call (.Name "set" p1) [a] [] p2) X.env)]),Tr X a' (.e a)->Tr X (.lset a') (.e (.Call (.Name "len" p) [.Call (.Name "set" p1) [a] [] p2] [] pos)):=by
 intro _ _ _ _ _ _ _ hq hg hg2 hs hs2 q0;refine⟨λΓ G=>?_,λ_ _ _ _ _ _ h=>nomatch h⟩;have iha:=q0.m Γ G;intro c g ρ r h;simp only[jg6,Ml]at h;split at h
 .rename_i x ex;split at h
  .rename_i l el;split at h
   .rename_i ts et;obtain⟨z,q⟩:=jw h;cases q;have:=Ws et;subst this;exact DE.lenSet (el▸(iha c g ρ x ex).toT) hq nofun (c.bt _ (by decide)) (c.bt _ (by decide)) hg hg2 hs hs2
   .cases h
  .cases h
 .cases h
theorem Tr.tix:∀{X:Cx}{a' b':Ex}{a e:aj}{p1 p2:aK}(hbase:aN a "index" X.env (ay a X.env)=ay a X.env) (hfew:((aO p2 (a9 [e] X.env)).all (λx=>!x.1)&&(bu p2 (aT [] X.env)).all (λx=>x.1.isSome)&&decide (([e]:List aj).length+([]:List aR).length+(if ([]:List aR).isEmpty then 0 else 1)<30))=a7) (hline:(p1.endLine==p2.line)=a7) (hs:a9 [e] X.env=(a4,ay e X.env)::a9 [] X.env),Tr X a' (.e a)->Tr X b' (.e e)->Tr X (.tix a' b') (.e (.Call (.Attribute a "index" p1) [e] [] p2)):=by
 intro _ _ _ _ _ _ _ hbase hfew hline hs q0 q1;refine⟨λΓ G=>?_,λ_ _ _ _ _ _ h=>nomatch h⟩;have iha:=q0.m Γ G;have ihb:=q1.m Γ G;intro c g ρ r h;simp only[jib,De]at h;split at h
 .rename_i x y ex ey;split at h
  .rename_i l el;by_cases z:D.depL l<=90/\y.d.dep<=90
   .rw[if_pos z]at h;cases e:ixD y.d l with
    |none=>rw[e]at h;cases h
    |some k=>rw[e]at h;cases h;exact DE.indexT c.un' (el▸(iha c g ρ x ex).toT) (ihb c g ρ y ey).toT nofun nofun e hbase hfew hline hs
   .rw[if_neg z]at h;cases h
  .rename_i l el;by_cases z:D.depL l<=90/\y.d.dep<=90
   .rw[if_pos z]at h;cases e:ixD y.d l with
    |none=>rw[e]at h;cases h
    |some k=>rw[e]at h;cases h;exact DE.indexL c.un' (el▸(iha c g ρ x ex).toT) (ihb c g ρ y ey).toT nofun nofun e hbase hfew hline hs
   .rw[if_neg z]at h;cases h
  .cases h
 .cases h
theorem Tr.enum:∀{X:Cx}{a':Ex}{a:aj}{es:List aj}{n:Nat}{p p2 pt:aK}(hg:Gl X "enumerate") (hs:a9 [a] X.env=[(a4,ay a X.env)]),Tr X a' (.e a)->Tr X (.enum a') (.i (.Tuple es n pt) (.Call (.Name "enumerate" p) [a] [] p2)):=by
 intro _ _ _ _ _ _ _ _ hg hs q0;refine⟨λΓ G=>?_,λ_ _ _ _ _ _ _=>trivial⟩;have iha:=q0.m Γ G;intro c g ρ ds h;simp only[jg9,Mq]at h;split at h
 .rename_i x ex;have ha:=iha c g ρ x ex;split at h
  .rename_i l e1;cases h;exact DI.enum a7 (ha.toE e1) (c.bt _ (by decide)) hg hs
  .rename_i l e1;cases h;exact DI.enum a4 (ha.toE e1) (c.bt _ (by decide)) hg hs
  .cases h
 .cases h
theorem Tr.count:∀{X:Cx}{a' es':Ex}{a e:aj}{p1 p2:aK}(hbase:aN a "count" X.env (ay a X.env)=ay a X.env) (hfew:((aO p2 (a9 [e] X.env)).all (λx=>!x.1)&&(bu p2 (aT [] X.env)).all (λx=>x.1.isSome)&&decide (([e]:List aj).length+([]:List aR).length+(if ([]:List aR).isEmpty then 0 else 1)<30))=a7) (hline:(p1.endLine==p2.line)=a7),Tr X a' (.e a)->Tr X es' (.a [e])->Tr X (.meth .count a' es') (.e (.Call (.Attribute a "count" p1) [e] [] p2)):=by
 intro _ _ _ _ _ _ _ hbase hfew hline q0 q1;refine⟨λΓ G=>?_,λ_ _ _ _ _ _ h=>nomatch h⟩;have iha:=q0.m Γ G;have ihb:=q1.m Γ G;intro c g ρ r h;simp only[jg5,Mj]at h;split at h
 .rename_i x rs ex ers;obtain⟨y,e,hy,hs⟩:=(ihb c g ρ rs ers).one;subst e;simp only[j3e]at h;split at h
  .rename_i l el;split at h
   .rename_i z;cases h;exact DE.countT c.un' (el▸(iha c g ρ x ex).toT) hy.toT nofun nofun hbase hfew hline hs
   .cases h
  .rename_i l el;split at h
   .rename_i z;cases h;exact DE.countL c.un' (el▸(iha c g ρ x ex).toT) hy.toT nofun nofun hbase hfew hline hs
   .cases h
  .cases h
 .cases h
theorem Tr.callV:∀{X:Cx}{i:Nat}{y:ah}{es':Ex}{e:aj}{es:List aj}{p p2:aK} (hN:X.N[i]?=a3 y) (hv:Vis X.env.scope y) (hd:(y==k8s)=a4) (hcd:(y==k8t)=a4) (he:a9 (e::es) X.env=(a4,ay e X.env)::a9 es X.env) (hpl:(aO p2 (a9 es X.env)).any (·.1)=a4),Tr X es' (.a (e::es))->Tr X (.callV i es') (.e (.Call (.Name y p) (e::es) [] p2)):=by
 intro _ i y es' e es p p2 hN hv hd hcd he hpl q0;refine⟨λΓ G=>?_,λ_ _ _ _ _ _ h=>nomatch h⟩;have iha:=q0.m Γ G;intro c g ρ r h;simp only[jcg,Ux]at h;split at h
 .rename_i x cs rs ei ers;split at h
  .rename_i ds eds;split at h
   .rename_i nf;have q:=g (jq x) (cs++ds);cases z:Γ (jq x) (cs++ds) with
    |lval d =>rw[z]at h q;cases h;obtain⟨k,hr,lk⟩:=q x rfl;exact DE.callV lk hr (Yw ei) ((iha c g ρ rs ers).toA eds) nf ⟨rfl,rfl⟩ hN hv hd hcd he hpl
    |val d=>rw[z]at h;cases h
    |fresh l=>rw[z]at h;cases h
    |err x=>rw[z]at h;cases h
    |no=>rw[z]at h;cases h
   .cases h
  .cases h
 .cases h
theorem Tr.dget:∀{X:Cx}{a' b':Ex}{a b:aj}{p:aK}(hs:Yb b),Tr X a' (.e a)->Tr X b' (.e b)->Tr X (.dget a' b') (.e (.Subscript a b p)):=by
 intro _ _ _ _ _ _ hs q0 q1;refine⟨λΓ G=>?_,λ_ _ _ _ _ _ h=>nomatch h⟩;have iha:=q0.m Γ G;have ihb:=q1.m Γ G;intro c g ρ r h;simp only[jga,Mr]at h;split at h
 .rename_i ks ds y ex ey;split at h
  .rename_i k ek;cases e:zu ks ds k with
   |none=>rw[e]at h;cases h
   |some d=>rw[e]at h;cases h;exact DE.dget c.un' ((iha c g ρ (.e (.dct ks ds)) ex).toE rfl) (Fv ek▸(ihb c g ρ y ey).toT) e hs
  .cases h
 .cases h
theorem Tr.dvals:∀{X:Cx}{a':Ex}{a:aj}{p p1 p2 pos:aK}(hq:X.calm=a7)(hg:Gl X "tuple") (hbase:aN a "values" X.env (ay a X.env)=ay a X.env) (hline:(p1.endLine==p2.line)=a7) (hs2:a9 [.Call (.Attribute a "values" p1) [] [] p2] X.env=[(a4,ay (.Call (.Attribute a "values" p1) [] [] p2) X.env)]),Tr X a' (.e a)->Tr X (.dvals a') (.e (.Call (.Name "tuple" p) [.Call (.Attribute a "values" p1) [] [] p2] [] pos)):=by
 intro _ _ _ _ _ _ _ hq hg hbase hline hs2 q0;refine⟨λΓ G=>?_,λ_ _ _ _ _ _ h=>nomatch h⟩;have iha:=q0.m Γ G;intro c g ρ r h;simp only[jcf,Ro]at h;split at h
 .rename_i ks ds ex;cases h;exact DE.tupVals ((iha c g ρ (.e (.dct ks ds)) ex).toE rfl) hq (c.bt _ (by decide)) hg hbase hline hs2
 .cases h
theorem Tr.minT:∀{X:Cx}{a':Ex}{a:aj}{p pos:aK}(hq:X.calm=a7)(hg:Gl X "min") (hs:a9 [a] X.env=[(a4,ay a X.env)]),Tr X a' (.e a)->Tr X (.minT a') (.e (.Call (.Name "min" p) [a] [] pos)):=by
 intro _ _ _ _ _ hq hg hs q0;refine⟨λΓ G=>?_,λ_ _ _ _ _ _ h=>nomatch h⟩;have iha:=q0.m Γ G;intro c g ρ r h;simp only[jg4,U7]at h;split at h
 .rename_i x ex;split at h
  .rename_i l el;split at h
   .rename_i ks ek;cases e:ks[aE (Jb ks) (ks.length-1)]? with
    |none=>rw[e]at h;cases h
    |some k =>rw[e]at h;cases h;exact DT.minT c.un' hq (c.bt _ (by decide)) hg (by have z:=(iha c g ρ x ex).toT;rw[el,Il ek]at z;exact z) e hs
   .split at h
    .rename_i ks ek;cases e:ks[aE (Z8 ks) (ks.length-1)]? with
     |none=>rw[e]at h;cases h
     |some k =>rw[e]at h;cases h;exact DT.minP c.un' hq (c.bt _ (by decide)) hg (by have z:=(iha c g ρ x ex).toT;rw[el,j1x ek]at z;exact z) e hs
    .cases h
  .cases h
 .cases h
theorem Tr.c0:∀{X:Cx},Tr X .nil (.c []):=by intro _;refine⟨λΓ G=>?_,λ_ _ _ _ _ _ _=>trivial⟩;intro c g ρ;exact⟨λ_=>DTs.nil,λy k h=>by simp only[Mz]at h;cases h⟩
theorem Tr.c1:∀{X:Cx}{c':Ex}{c:aj},Tr X c' (.b c)->Tr X (.cons c' .nil) (.c [c]):=by
 intro _ _ _ q0;refine⟨λΓ G=>?_,λ_ _ _ _ _ _ _=>trivial⟩;have iha:=q0.m Γ G;intro c g ρ;refine⟨λh=>?_,λy k h hk=>DTs.one ?_⟩
 .simp only[Fp,Mz,consW]at h;split at h<;>cases h
 .simp only[Fp,Mz,consW]at h;split at h
  .rename_i x xs ex exs;cases exs;cases h;exact iha c g ρ k (by rw[ex];simp only[truth,hk])
  .cases h
theorem Tr.comp1:∀{X:Cx}{i:Nat}{y:ah}{py p:aK}{elt' it' c':Ex}{elt it:aj}{ifs:List aj} {scope:aY} (hq:X.calm=a7) (hi:X.N[i]?=a3 y) (hl:Yy scope y=a7) (hkind:scope.kind=.function) (hok:Jl scope X.env X.N [i]=a7) (hs:∀x,aD it X.env x=pure x),Tr X it' (.i (.Name y py) it)->(∀C s H fp pn,Tr (cCx X scope C s H fp pn) elt' (.e elt))->(∀C s H fp pn,Tr (cCx X scope C s H fp pn) c' (.c ifs))->Tr X (.comp [i] elt' it' c') (.e (.ListComp elt [⟨.Name y py,it,ifs,0⟩] scope p)):=by
 intro _ _ _ _ _ _ _ _ _ _ _ _ hq hi hl hkind hok hs q0 q1 q2;refine⟨λΓ G=>?_,λ_ _ _ _ _ _ h=>nomatch h⟩;have ihi:=q0.m Γ G;have ihe:=λC s H fp pn=>(q1 C s H fp pn).m Γ G;have ihc:=λC s H fp pn=>(q2 C s H fp pn).m Γ G;intro c g ρ r h;obtain⟨l,e,q⟩:=Ny hq c (λρ ds z=>ihi c g ρ ds z) hkind hok hs (λρ d ρ2 hb hun=>by
  simp only[qz]at hb
  cases hb
  have hu:=hun _ (xm.mpr rfl)
  exact⟨_,jo,Wk.set hu,Vi hu,λC s H fp pn=>DG.name _ c.nd hi (M5 hl) (Bu hl)⟩)
  (λC s H fp pn ρ r z=>ihe C s H fp pn c.comp g.comp ρ r z) (λC s H fp pn ρ=>ihc C s H fp pn c.comp g.comp ρ) h
 subst e;exact q
theorem Tr.comp2:∀{X:Cx}{i j:Nat}{x y:ah}{px py pt p:aK}{n:Nat}{elt' it' c':Ex}{elt it:aj} {ifs:List aj} {scope:aY} (hq:X.calm=a7) (hij:i≠j) (hi:X.N[i]?=a3 x) (hj:X.N[j]?=a3 y) (hl:Yy scope x=a7) (hl':Yy scope y=a7) (hkind:scope.kind=.function) (hok:Jl scope X.env X.N [i,j]=a7) (hs:∀x,aD it X.env x=pure x),Tr X it' (.i (.Tuple [.Name x px,.Name y py] n pt) it)->(∀C s H fp pn,Tr (cCx X scope C s H fp pn) elt' (.e elt))->(∀C s H fp pn,Tr (cCx X scope C s H fp pn) c' (.c ifs))->Tr X (.comp [i,j] elt' it' c') (.e (.ListComp elt [⟨.Tuple [.Name x px,.Name y py] n pt,it,ifs,0⟩] scope p)):=by
 intro _ i j _ _ _ _ _ _ _ _ _ _ _ _ _ _ hq hij hi hj hl hl' hkind hok hs q0 q1 q2;refine⟨λΓ G=>?_,λ_ _ _ _ _ _ h=>nomatch h⟩;have ihi:=q0.m Γ G;have ihe:=λC s H fp pn=>(q1 C s H fp pn).m Γ G;have ihc:=λC s H fp pn=>(q2 C s H fp pn).m Γ G;intro c g ρ r h;obtain⟨l,e,q⟩:=Ny hq c (λρ ds z=>ihi c g ρ ds z) hkind hok hs (λρ d ρ2 hb hun=>by
  simp only[qz]at hb
  split at hb
  .rename_i a b
   cases hb
   have hu:=hun _ (xn ..)
   have hu':=hun _ (km _ (xm.mpr rfl))
   have h1:(ρ.set i (.val a))[j]?=a3 Sl.un:=by rw[zc hij];exact hu'
   exact⟨(ρ.set i (.val a)).set j (.val b),by rw[jo,jo];rfl,λK σ H R=>Wk.set hu K σ H (Wk.set h1 K σ H R),by rw[Vi h1,Vi hu],
    λC s H fp pn=>DG.pair _ _ hij c.nd hi hj (M5 hl) (M5 hl') (Bu hl) (Bu hl') hq⟩
  .cases hb)
  (λC s H fp pn ρ r z=>ihe C s H fp pn c.comp g.comp ρ r z) (λC s H fp pn ρ=>ihc C s H fp pn c.comp g.comp ρ) h
 subst e;exact q
theorem Tr.seq:∀{X:Cx}{a':Ex}{tg a:aj},Tr X a' (.e a)->Tr X (.seq a') (.i tg a):=by
 intro _ _ _ _ q0;refine⟨λΓ G=>?_,λ_ _ _ _ _ _ _=>trivial⟩;have iha:=q0.m Γ G;intro c g ρ ds h;simp only[jic,Om]at h;split at h
 .rename_i l e;cases h;exact DI.lst (iha c g ρ _ e)
 .rename_i l e;cases h;exact DI.tup (iha c g ρ _ e)
 .rename_i l e;cases h;exact DI.lst (DO.toE (iha c g ρ _ e))
 .rename_i y e;obtain⟨z,q⟩:=jw h;cases q;exact DI.str (iha c g ρ _ e).toT z
 .cases h
theorem Tr.range:∀{X:Cx}{es':Ex}{tg:aj}{es:List aj}{p p2:aK}(hg:Gl X "range"),Tr X es' (.a es)->Tr X (.range es') (.i tg (.Call (.Name "range" p) es [] p2)):=by
 intro _ _ _ _ _ _ hg q0;refine⟨λΓ G=>?_,λ_ _ _ _ _ _ _=>trivial⟩;have iha:=q0.m Γ G;intro c g ρ ds h;simp only[jce,Us]at h;split at h
 .rename_i x ex;have q:=iha c g ρ _ ex;cases q with|cons hs hx t =>
  cases t;split at h
  .rename_i n en;obtain⟨z,q⟩:=jw h;cases q;exact DI.range1 (en▸hx.toT) (c.bt _ (by decide)) z.1 z.2 hg hs
  .cases h
 .rename_i x y ex;have q:=iha c g ρ _ ex;cases q with|cons hs hx t =>
  cases t with|cons hs2 hy t2 =>
  cases t2;split at h
  .rename_i m n em en;obtain⟨z,q⟩:=jw h;cases q;exact DI.range2 (em▸hx.toT) (en▸hy.toT) (c.bt _ (by decide)) z.1 z.2.1 z.2.2.1 z.2.2.2 hg (by rw[hs,hs2];rfl) hs2 hs
  .cases h
 .cases h
section
variable{Γ:ah->List D->Rc}{G:ah->Option D}{X:Cx}
theorem sound{t:Ex}{nd:Nd}(h:Tr X t nd):Cok X G->Gok X Γ->jgj Γ G X t nd:=h.m Γ G
theorem Iz{t:Ex}{nd:Nd}(h:Tr X t nd):Cok X G->Gok X Γ->∀ρ y,er Γ G t (j8 ρ)=a3 y->XM X ρ y nd:=h.x Γ G
end
inductive Sx where
 |nop
 |seq (a b:Sx)
 |set (i:Nat) (e:Ex)
 |mov (i j:Nat)
 |expr (e:Ex)
 |ret (e:Ex)
 |retV (i:Nat)
 |ife (c:Ex) (a b:Sx)
 |loop (is:List Nat) (it:Ex) (body:Sx)
 |app (i:Nat) (e:Ex)
 |ext (i:Nat) (e:Ex)
 |fgt (i:Nat)
 |keep (i:Nat)
 |dcp (i j:Nat) (k e:Ex)
 |taken (h q:Nat) (a b c t:Ex)
 |unp (i j:Nat) (e:Ex)
 |dmake (x t y:Nat) (it e:Ex)
 |ioN (es e:Ex)
 |retL (x:ah) (is:List Nat)
 |retC (f x:ah) (a b:Ex) (is:List Nat)
 |nmake (x t y:Nat) (it e1 e2:Ex)
 |pop3 (i j k w:Nat)
 |apop (i w:Nat) (e:Ex)
 |wmake (x t:Nat) (it e:Ex)
 |fail
inductive So where
 |next (ρ:En)
 |ret (r:Rc)
 |brk (ρ:En)
 |cnt (ρ:En)
 |err (x:ah) (ρ:En)
 |no
noncomputable def orE(o:So)(x:Option ah)(ρ:En):So:=match o with
 |.no=>match x with
  |some y=>.err y ρ
  |none=>.no
 |o=>o
noncomputable def Ja(f:D->En->So):List D->En->So
 |[],ρ=>.next ρ
 |d::ds,ρ=>match f d ρ with
  |.next ρ'=>Ja f ds ρ'
  |.cnt ρ'=>Ja f ds ρ'
  |.brk ρ'=>.next ρ'
  |.ret r=>.ret r
  |.err x ρ'=>.err x ρ'
  |.no=>.no
noncomputable def j44(c:En->Option Bool)(f:En->So):Nat->En->So
 |0,_=>.no
 |n+1,ρ=>match c ρ with
  |some a4=>.next ρ
  |some a7=>match f ρ with
   |.next ρ'=>j44 c f n ρ'
   |.cnt ρ'=>j44 c f n ρ'
   |.brk ρ'=>.next ρ'
   |.ret r=>.ret r
   |.err x ρ'=>.err x ρ'
   |.no=>.no
  |none=>.no
noncomputable def stOf:Option W->Option D
 |some (.v x)=>x.st
 |_=>a6
noncomputable def j3o(f:En->Option D)(t y:Nat):List D->En->List (List Int)->List D->Option (List (List Int)×List D)
 |[],_,ks,vs=>a3 (ks,vs)
 |d::ds,ρ,ks,vs=>match d with
  |.tup l=>match intsOf l,f (ρ.set t (.val d)) with
   |some k,a3 d'=>if d'.isNon=a7 then j3o f t y ds ((ρ.set t (.val d)).set y (.val d')) ks vs
    else if ks.contains k=a4/\ks.length<ak then j3o f t y ds ((ρ.set t (.val d)).set y (.val d')) (ks++[k]) (vs++[d'])else a6
   |_,_=>a6
  |_=>a6
noncomputable def Vk(f1 f2:En->Option D)(x t y:Nat):List D->En->List (List Int)->List Int->Option (List (List Int)×List Int)
 |[],_,ks,ns=>a3 (ks,ns)
 |d::ds,ρ,ks,ns=>match d with
  |.tup l=>match intsOf l,f1 (ρ.set t (.val d)) with
   |some k,a3 d1=>match f2 (((ρ.set t (.val d)).set y (.val d1)).set x (.val (.dct ks (ns.map D.int)))) with
    |some (.int n)=>if ks.contains k=a4/\ks.length<ak then Vk f1 f2 x t y ds ((ρ.set t (.val d)).set y (.val d1)) (ks++[k]) (ns++[n])else a6
    |_=>a6
   |_,_=>a6
  |_=>a6
noncomputable def j98(f2:En->Option D)(x t:Nat):List D->En->List (List Int)->List Int->Option (List (List Int)×List Int)
 |[],_,ks,ns=>a3 (ks,ns)
 |d::ds,ρ,ks,ns=>match d with
  |.tup l=>match intsOf l,f2 ((ρ.set t (.val d)).set x (.val (.dct ks (ns.map D.int)))) with
   |some k,a3 (.int n)=>if ks.contains k=a4/\ks.length<ak then j98 f2 x t ds (ρ.set t (.val d)) (ks++[k]) (ns++[n])else a6
   |_,_=>a6
  |_=>a6
noncomputable def Jz(ρ:En):List Nat->Option (List D)
 |[]=>a3 []
 |i::is=>match ρ[i]?,Jz ρ is with
  |some (.val d),a3 ds=>a3 (d::ds)
  |_,_=>a6
noncomputable def Ol(i:Nat)(w:Option W)(ρ:En):So:=match w with
 |some (.v (.o l))=>.next (ρ.set i (.own l))
 |some (.v x)=>match x.st with
  |some d=>.next (ρ.set i (.val d))
  |none=>.no
 |_=>.no
noncomputable def retS(w:Option W):So:=match w with
 |some (.v (.o l))=>.ret (.fresh l)
 |some (.v x)=>.ret (.val x.d)
 |_=>.no
noncomputable def M7(s:Option Sv):So:=match s with
 |some (.own l)=>.ret (.fresh l)
 |some (.val d)=>.ret (.val d)
 |_=>.no
noncomputable def Dm(i j:Nat)(s:Option Sv)(ρ:En):So:=match s with
 |some (.own l)=>if i=j then .no else .next ((ρ.set j .un).set i (.own l))
 |some (.val d)=>.next (ρ.set i (.val d))
 |_=>.no
noncomputable def j0f(w:Option W)(ρ:En):So:=match w with
 |some (.v _)=>.next ρ
 |_=>.no
noncomputable def Cj(i:Nat)(s:Option Sv)(w:Option W)(ρ:En):So:=match s,w with
 |some (.own l),a3 (.v x)=>match x.st with
  |some d=>if l.length<ak then .next (ρ.set i (.own (l++[d])))else .no
  |none=>.no
 |_,_=>.no
noncomputable def Dw(i:Nat)(s:Option Sv)(w:Option W)(ρ:En):So:=match s,w with
 |some (.own l),a3 (.v (.o m))=>if jk (l.length+m.length)=a7 then .next (ρ.set i (.own (l++m)))else .no
 |_,_=>.no
noncomputable def jir(i j:Nat)(d:Option D)(ρ:En):So:=match d with
 |some (.tup [d,d'])=>if i=j then .no else .next ((ρ.set i (.val d)).set j (.val d'))
 |_=>.no
noncomputable def Nh(i:Nat)(v:Option Sv)(ρ:En):So:=match v with
 |some (.own l)=>.next (ρ.set i (.val (.lst l)))
 |some (.val _)=>.next ρ
 |_=>.no
noncomputable def jjp(i j:Nat)(v:Option Sv)(k e:Option W)(ρ:En):So:=if i≠j/\i<ρ.length then match v with
  |some (.val (.sct kvs))=>match k,e with
   |some (.v y),a3 (.v x)=>match y.d,x.d with
    |.str z,.int n=>if kvs.length<ak then .next (ρ.set i (.val (.sct (dput kvs z n))))else .no
    |_,_=>.no
   |_,_=>.no
  |_=>.no
 else .no
noncomputable def N6(x:ah)(v:Option (List D)):So:=match v with
 |some ds=>.ret (.val (.fn x ds))
 |none=>.no
noncomputable def Kp(r:Rc):So:=match r with
 |.val d=>if noFn d=a7 then .ret (.val d)else .no
 |_=>.no
noncomputable def N7(Γ:ah->List D->Rc)(f x:ah)(v:Option (List D))(a b:Option W):So:=match v,a,b with
 |some ds,a3 (.v u),a3 (.v v)=>Kp (Γ f [u.d,v.d,.fn x ds])
 |_,_,_=>.no
noncomputable def popS(i j k w:Nat)(s:Option Sv)(ρ:En):So:=match s with
 |some (.own l)=>match l.getLast? with
  |some (.tup [a,b,c])=>.next ((((ρ.set w (.own l.dropLast)).set i (.val a)).set j (.val b)).set k (.val c))
  |_=>.no
 |_=>.no
noncomputable def ji8(i w:Nat)(s t:Option Sv)(x:Option W)(ρ:En):So:=match s,t,x with
 |some (.own l),a3 (.own m),a3 (.v y)=>match y.st with
  |some (.int z)=>match ixN m.length z with
   |some k=>match m[k]? with
    |some d=>if i≠w/\l.length<ak/\m.length<=1000000 then .next ((ρ.set w (.own (m.eraseIdx k))).set i (.own (l++[d])))else .no
    |none=>.no
   |none=>.no
  |_=>.no
 |_,_,_=>.no
noncomputable def run(fu:Nat)(Γ:ah->List D->Rc)(G:ah->Option D):Sx->En->So
 |.nop,ρ=>.next ρ
 |.seq a b,ρ=>match run fu Γ G a ρ with
  |.next ρ'=>run fu Γ G b ρ'
  |o=>o
 |.set i e,ρ=>orE (Ol i (ev Γ G e ρ) ρ) (er Γ G e ρ) ρ
 |.mov i j,ρ=>Dm i j ρ[j]? ρ
 |.expr e,ρ=>orE (j0f (ev Γ G e ρ) ρ) (er Γ G e ρ) ρ
 |.ret e,ρ=>orE (retS (ev Γ G e ρ)) (er Γ G e ρ) ρ
 |.retV i,ρ=>M7 ρ[i]?
 |.ife c a b,ρ=>match truth (ev Γ G c ρ) with
  |some a7=>run fu Γ G a ρ
  |some a4=>run fu Γ G b ρ
  |none=>.no
 |.loop is it body,ρ=>match ev Γ G it (frz it ρ) with
  |some (.i ds)=>Ja (λd ρ=>match qz is d ρ with
   |some ρ2=>run fu Γ G body ρ2
   |none=>.no) ds (frz it ρ)
  |_=>.no
 |.app i e,ρ=>Cj i ρ[i]? (ev Γ G e ρ) ρ
 |.ext i e,ρ=>Dw i ρ[i]? (ev Γ G e ρ) ρ
 |.fgt i,ρ=>.next (ρ.set i .un)
 |.keep i,ρ=>Nh i ρ[i]? ρ
 |.dcp i j k e,ρ=>jjp i j ρ[j]? (ev Γ G k (ρ.set i .un)) (ev Γ G e (ρ.set i .un)) ρ
 |.taken h q a b e t,ρ=>if h≠q/\h<ρ.length then match ev Γ G a ρ,ev Γ G b ρ with
   |some (.v (.o la)),a3 (.v (.o lb))=>match ev Γ G e (ρ.set h (.val (.lst [.lst la,.lst lb]))) with
    |some (.v x)=>match x.st with
     |some d=>if Qo d=a7/\truth (ev Γ G t ((ρ.set h (.val (.lst [.lst la,.lst lb]))).set q (.val d)))=a3 a4 then .next ((ρ.set h (.val (.lst [.lst la.reverse,.lst []]))).set q (.val d))else .no
     |none=>.no
    |_=>.no
   |_,_=>.no
  else .no
 |.unp i j e,ρ=>jir i j (stOf (ev Γ G e ρ)) ρ
 |.dmake x t y it e,ρ=>if x<ρ.length/\t<ρ.length/\y<ρ.length/\x≠t/\x≠y/\t≠y then match ev Γ G it (ρ.set x .un) with
   |some (.i ds)=>match j3o (λρ=>stOf (ev Γ G e ρ)) t y ds (ρ.set x .un) [] [] with
    |some r=>.ret (.val (.dct r.1 r.2))
    |none=>.no
   |_=>.no
  else .no
 |.ioN es e,ρ=>match G (qm "_law_plan"),ev Γ G es ρ,ev Γ G e ρ with
  |some _,a3 (.a [x,y,z]),a3 (.v (.o [.int n]))=>match x.d,y.d,z.d with
   |.lst ls,.int dM,.int k=>match strsOf ls with
    |some ws=>if 0<=k/\k<=5/\ws.length<=60 then .ret (.val (U5 k.toNat ws dM n).1)else .no
    |none=>.no
   |_,_,_=>.no
  |_,_,_=>.no
 |.retL x is,ρ=>N6 x (Jz ρ is)
 |.retC f x a b is,ρ=>N7 Γ f x (Jz ρ is) (ev Γ G a ρ) (ev Γ G b ρ)
 |.nmake x t y it e1 e2,ρ=>if x<ρ.length/\t<ρ.length/\y<ρ.length/\x≠t/\x≠y/\t≠y then match ev Γ G it (ρ.set x .un) with
   |some (.i ds)=>match Vk (λρ=>stOf (ev Γ G e1 ρ)) (λρ=>stOf (ev Γ G e2 ρ)) x t y ds (ρ.set x .un) [] [] with
    |some r=>.ret (.val (.dct r.1 (r.2.map D.int)))
    |none=>.no
   |_=>.no
  else .no
 |.wmake x t it e,ρ=>if x<ρ.length/\t<ρ.length/\x≠t then match ev Γ G it (ρ.set x .un) with
   |some (.i ds)=>match j98 (λρ=>stOf (ev Γ G e ρ)) x t ds (ρ.set x .un) [] [] with
    |some r=>.ret (.val (.dct r.1 (r.2.map D.int)))
    |none=>.no
   |_=>.no
  else .no
 |.apop i w e,ρ=>ji8 i w ρ[i]? ρ[w]? (ev Γ G e ρ) ρ
 |.pop3 i j k w,ρ=>popS i j k w ρ[w]? ρ
 |.fail,_=>.no
section
variable{Γ:ah->List D->Rc}{G:ah->Option D}{ρ:En}{fu:Nat}
theorem j40{a b}:run fu Γ G (.seq a b) ρ=(match run fu Γ G a ρ with
  |.next ρ'=>run fu Γ G b ρ'
  |o=>o):=(rfl)
theorem j9v{i e}:run fu Γ G (.set i e) ρ=(orE (Ol i (ev Γ G e ρ) ρ) (er Γ G e ρ) ρ):=(rfl)
theorem jij{i j}:run fu Γ G (.mov i j) ρ=(Dm i j ρ[j]? ρ):=(rfl)
theorem jgi{e}:run fu Γ G (.expr e) ρ=(orE (j0f (ev Γ G e ρ) ρ) (er Γ G e ρ) ρ):=(rfl)
theorem j9w{e}:run fu Γ G (.ret e) ρ=(orE (retS (ev Γ G e ρ)) (er Γ G e ρ) ρ):=(rfl)
theorem jgd{i}:run fu Γ G (.retV i) ρ=(M7 ρ[i]?):=(rfl)
theorem jik{c a b}:run fu Γ G (.ife c a b) ρ=(match truth (ev Γ G c ρ) with
  |some a7=>run fu Γ G a ρ
  |some a4=>run fu Γ G b ρ
  |none=>.no):=(rfl)
theorem jgg{is it body}:run fu Γ G (.loop is it body) ρ=(match ev Γ G it (frz it ρ) with
  |some (.i ds)=>Ja (λd ρ=>match qz is d ρ with
   |some ρ2=>run fu Γ G body ρ2
   |none=>.no) ds (frz it ρ)
  |_=>.no):=(rfl)
theorem jin{i e}:run fu Γ G (.app i e) ρ=(Cj i ρ[i]? (ev Γ G e ρ) ρ):=(rfl)
theorem jim{i e}:run fu Γ G (.ext i e) ρ=(Dw i ρ[i]? (ev Γ G e ρ) ρ):=(rfl)
theorem jil{i}:run fu Γ G (.fgt i) ρ=(.next (ρ.set i .un)):=(rfl)
theorem jgh{i}:run fu Γ G (.keep i) ρ=(Nh i ρ[i]? ρ):=(rfl)
theorem jge{x is}:run fu Γ G (.retL x is) ρ=(N6 x (Jz ρ is)):=(rfl)
theorem jgf{f x a b is}:run fu Γ G (.retC f x a b is) ρ=(N7 Γ f x (Jz ρ is) (ev Γ G a ρ) (ev Γ G b ρ)):=(rfl)
theorem j2q{x t y it e1 e2}:run fu Γ G (.nmake x t y it e1 e2) ρ=(if x<ρ.length/\t<ρ.length/\y<ρ.length/\x≠t/\x≠y/\t≠y then match ev Γ G it (ρ.set x .un) with
   |some (.i ds)=>match Vk (λρ=>stOf (ev Γ G e1 ρ)) (λρ=>stOf (ev Γ G e2 ρ)) x t y ds (ρ.set x .un) [] [] with
    |some r=>.ret (.val (.dct r.1 (r.2.map D.int)))
    |none=>.no
   |_=>.no
  else .no):=(rfl)
end
def j41(X:Cx):List (ah×aa)->List Nat->Prop
 |[],is=>is=[]
 |p::cl,is=>∃(i:Nat)(r:List Nat),is=i::r/\X.N[i]?=a3 p.1/\X.env.scope.names.lookup p.1=a3 .cell/\X.env.cells.lookup p.1=a3 p.2/\X.fn p.1=a7/\j41 X cl r
theorem Ce{X:Cx}{ρ:Rho}:∀{cl:List (ah×aa)} {is:List Nat} {ds:List D},j41 X cl is->Jz (j8 ρ) is=a3 ds->Ze X ρ cl ds
 |[],_,ds,h,e=>by cases h;cases e;rfl
 |p::cl,_,ds,⟨i,r,ei,h1,h2,h3,h4,l⟩,e=>by
  subst ei;unfold Jz at e;split at e
  .rename_i d ds' e1 e2;cases e;exact⟨d,ds',i,rfl,h1,h2,h3,h4,Yw e1,Ce l e2⟩
  .cases e
inductive Ns where
 |s (st:aX)
 |ss (sts:List aX)
noncomputable def Rt.rc:Rt->Rc
 |.val d=>.val d
 |.fresh l=>.fresh l
def Ue(o:So)(P:Po):Prop:=match o with
 |.next ρ'=>∀ρ2,j8 ρ2=ρ'->P.nx ρ2
 |.ret r=>∀x:Rt,x.rc=r->P.rt x
 |.brk ρ'=>∀ρ2,j8 ρ2=ρ'->P.bk ρ2
 |.cnt ρ'=>∀ρ2,j8 ρ2=ρ'->P.ct ρ2
 |.err x ρ'=>∀ρ2,j8 ρ2=ρ'->P.ex x ρ2
 |.no=>False
theorem Yz{o:So}{x:Option ah}{ρ:En}{P:Po}(h:Ue (orE o x ρ) P):Ue o P\/∃y,x=a3 y/\∀ρ2,j8 ρ2=ρ->P.ex y ρ2:=by
 cases o with
 |no =>
  cases x with
  |none=>exact h.elim
  |some y=>exact .inr ⟨y,rfl,h⟩
 |_=>exact .inl h
def j9x(fu:Nat)(Γ:ah->List D->Rc)(G:ah->Option D)(X:Cx)(t:Sx):Ns->Prop
 |.s st=>∀ρ P,Ue (run fu Γ G t (j8 ρ)) P->DS X ρ st P
 |.ss sts=>∀ρ P,Ue (run fu Γ G t (j8 ρ)) P->DSs X ρ sts P
section
variable{K:k8o}{ρ:Rho}{σ:St}{H:Hp}{i j:Nat}{a:aa}{l:List D}
theorem Rep.move(R:Rep K ρ σ H)(hj:ρ[j]?=a3 (.own a l))(hij:i≠j):Rep K ((ρ.set j .un).set i (.own a l)) (σ.set i (a3 (.ref a))) H:=by
 have s1:(owns (ρ.set j .un)).Sublist (owns ρ):=jt rfl;have na:a∉owns (ρ.set j .un):=λz=>by
  obtain⟨k,l',q⟩:=Vj z;rcases getElem?_set_of q with ⟨_,z,_⟩|⟨n,q⟩
  .cases z
  .exact n (Yh R.nd hj q)
 obtain⟨nd,sub⟩:=Jg (ds:=l) (i:=i) (s1.nodup R.nd) na;have g:j0 (del H (owns ρ)) (del H (owns ((ρ.set j .un).set i (.own a l)))):=J0 λb hb=>by
  rcases sub b hb with e|z
  .exact e▸Qc hj
  .exact s1.subset z
 refine⟨by simp[R.len],λk d' h=>?_,λk b ds' h=>?_,nd,λk b o x h=>?_,R.tb⟩
 .rcases getElem?_set_of h with ⟨rfl,z,_⟩|⟨n,h⟩
  .cases z
  .rcases getElem?_set_of h with ⟨rfl,z,_⟩|⟨n2,h⟩
   .cases z
   .obtain⟨u,q,e⟩:=R.val k d' h;exact⟨u,by rw[zc n];exact q,e.mono g⟩
 .rcases getElem?_set_of h with ⟨rfl,z,hl⟩|⟨n,h⟩
  .cases z;obtain⟨_,xs,hx,en⟩:=R.own j a l hj;exact⟨Wt (by rw[R.len];simpa using hl),xs,hx,en.mono g⟩
  .rcases getElem?_set_of h with ⟨rfl,z,_⟩|⟨n2,h⟩
   .cases z
   .obtain⟨q,xs,hx,en⟩:=R.own k b ds' h;exact⟨by rw[zc n];exact q,xs,hx,en.mono g⟩
 .rcases getElem?_set_of h with ⟨rfl,z,_⟩|⟨n,h⟩
  .cases z
  .rcases getElem?_set_of h with ⟨rfl,z,_⟩|⟨n2,h⟩
   .cases z
   .obtain⟨q,h,z⟩:=R.raw k b o x h;exact⟨by rw[zc n];exact q,g _ _ h,z⟩
end
section
variable{X:Cx}{ρ:Rho}{e a b c:aj}{es:List aj}{st:aX}{rest sa sb body:List aX}{P:Po}{d:D}{ds ds':List D}{pos p p1 p2 p3:aK}{x y:ah}{i j:Nat}
theorem DS.freeze(i:Nat){l:aa}(h:ρ[i]?=a3 (.own l ds))(h2:DS X (ρ.set i (.val (.lst ds))) st P):DS X ρ st P:=λσ H E R q =>h2 σ H E (R.freeze h) (q.step (.drop λb hb=>(jt rfl).subset hb))
theorem DS.mov{l:aa}(hk:ρ[j]?=a3 (.own l ds))(hij:i≠j)(h:P.nx ((ρ.set j .un).set i (.own l ds)))(hN:X.N.Nodup)(hi:X.N[i]?=a3 x)(hj:X.N[j]?=a3 y)(hx:Loc X.env.scope x)
  (hf:X.fn x=a7\/X.env.scope.names.lookup x=a3 .local) (hv:Vis X.env.scope y) (hd:(y==k8s)=a4) (hcd:(y==k8t)=a4):DS X ρ (.Assign [.Name x p] (.Name y p1) pos) P:=λσ H E R q=>by
 obtain⟨hs,xs,m,en⟩:=R.own j l ds hk;refine(Ut hN hi hx (Z1 hj hv hd hcd) rfl hf).to ⟨_,hs,q.nx _ _ H h (R.move hk hij) (.drop λb hb=>?_)⟩;have s1:(owns (ρ.set j .un)).Sublist (owns ρ):=jt rfl;have na:l∉owns (ρ.set j .un):=λz=>by
  obtain⟨k,l',q⟩:=Vj z;rcases getElem?_set_of q with ⟨_,z,_⟩|⟨n,q⟩
  .cases z
  .exact n (Yh R.nd hk q)
 rcases(Jg (ds:=ds) (i:=i) (s1.nodup R.nd) na).2 b hb with z|z
 .exact z▸Qc hk
 .exact s1.subset z
theorem DS.setCf{ρf:Rho}{tg elt iter:aj}{ifs:List aj}{scope:aY}{spos:aK}(i:Nat)(cs:List Nat)(pr:D->Bool)(g:D->D)(hfr:∀K σ H,Rep K ρ σ H->Rep K ρf σ H)(hno:ρf=ρ\/qy ((ds.filter pr).map g)=a7)(hi:DI X ρf tg iter ds)
  (hb:∀C s H fp pn,∀d∈ds,∃ρ2,DG (cCx X scope C s H fp pn) ρf tg d ρ2/\Wk ρ2 ρf/\owns ρ2=owns ρf/\DTs (cCx X scope C s H fp pn) ρ2 ifs (pr d)/\(pr d=a7->DE (cCx X scope C s H fp pn) ρ2 elt (g d)))
  (h:∀l,P.nx (ρ.set i (.own l ((ds.filter pr).map g)))) (hN:X.N.Nodup) (hcs:∀j∈cs,ρf[j]?=a3 .un) (hsz:ds.length<=ak) (hX:X.N[i]?=a3 x) (hx:Loc X.env.scope x)
  (hf:X.fn x=a7\/X.env.scope.names.lookup x=a3 .local)
  (hsw:aQ (.ListComp elt [⟨tg,iter,ifs,0⟩] scope pos) (a3 (.Name x p1)) spos.line X.env=pure a7)
  (hc:X.calm=a7) (hkind:scope.kind=.function) (hok:Jl scope X.env X.N cs=a7)
  (hs:∀x,aD iter X.env x=pure x):DS X ρ (.Assign [.Name x p1] (.ListComp elt [⟨tg,iter,ifs,0⟩] scope pos) spos) P:=λσ H E R q pins s I=>by
 have Rf:=hfr _ _ _ R;rw[exec_Assign_Name_used _ _ _ _ hsw];refine a5 (ic (a5 ?_));show ao _ X.A (do let _ <-comprehension (.ListComp elt [⟨tg,iter,ifs,0⟩] scope pos) scope X.env _ (newList []) a4 (ay iter X.env) (a3 (eU (.Name x p1) X.env))) _ _ s;refine a5 (bg (ie (use:=a3 (eU (.Name x p1) X.env)) (Q:=λ_ s'=>SP X pins E .next s') rfl hs (Fb (Od hok)) hkind (Ru hok)
  (thn (hi σ H (λJ H'=>j0 H H'/\Ul X.K (del H' (owns ρf)) J ds) Rf (λJ H' g1 ok=>⟨g1,ok⟩) pins s I) λv s1 h1=>thn h1 λitv s2 h2=>?_)) (λ_ s' hq=>ai (ai hq)) λ_ _ e=>e)
 obtain⟨it,fp,tn,J,H2,e,I2,T,st2,f2,g2,ok⟩:=h2;subst e;refine Ls (RR:=λacc C=>compPost (aw X.prog X.w) X.A X.xe (a3 (eU (.Name x p1) X.env)) (λ_ s'=>SP X pins E .next s') acc C) I2 (Rf.grow g2) T st2 f2 ok hc hkind hok hcs hsz hb ?_;intro D C xs H' s' m I' gg n m' en hm L;show ao _ X.A (eU (.Name x p1) X.env (.ref D)) _ _ _;refine ki (Cv I' hN hX hx (v:=.ref D) rfl (λs'' I'' ⟨a,sb,ha⟩=>?_) hf);have hCa:C≠a:=by
  rcases ha with e|e
  .rw[e];exact L.loc
  .exact cz (L.cell x a e)
 have en':j4 X.K (del H' (D::owns ρ)) ((ds.filter pr).map g) xs:=by
  rcases hno with e|e
  .rw[e]at en;exact en
  .exact(en.mono jx).hide (λc hc=>by
    rcases xr.mp hc with z|z
    .rw[z];exact .inl ⟨xs,m'⟩
    .exact .inl ((R.grow (g2.trans gg)).owned c z)) e
 refine⟨m,hm.sameBut sb hCa,λh' sb'=>⟨σ.set i (a3 (.ref D)),H',I''.loose L sb',?_⟩⟩;exact q.nx _ _ H' (h D) (R.set_own (g2.trans gg) (g2.free n) m' en') (Fr0.new R (g2.trans gg) (g2.free n))
end
section
variable{fu:Nat}{Γ:ah->List D->Rc}{G:ah->Option D}{X:Cx}{P:Po}
theorem bind1{i:Nat}{y:ah}{p:aK}(nd:X.N.Nodup)(hi:X.N[i]?=a3 y)(hx:Loc X.env.scope y)(hf:X.fn y=a7\/X.env.scope.names.lookup y=a3 .local) :
  ∀ρ d ρ2,qz [i] d (j8 ρ)=a3 ρ2->∃ρ',j8 ρ'=ρ2/\DG X ρ (.Name y p) d ρ':=λρ d ρ2 h=>by
 simp only[qz]at h;cases h;exact⟨_,jo,DG.name _ nd hi hx hf⟩
theorem ji7{i j:Nat}{x y:ah}{n:Nat}{p q pt:aK}(hc:X.calm=a7)(hij:i≠j)(nd:X.N.Nodup)(hi:X.N[i]?=a3 x)(hj:X.N[j]?=a3 y)(hx:Loc X.env.scope x)(hy:Loc X.env.scope y)
  (hf:X.fn x=a7\/X.env.scope.names.lookup x=a3 .local) (hg:X.fn y=a7\/X.env.scope.names.lookup y=a3 .local) :
  ∀ρ d ρ2,qz [i,j] d (j8 ρ)=a3 ρ2->∃ρ',j8 ρ'=ρ2/\DG X ρ (.Tuple [.Name x p,.Name y q] n pt) d ρ':=λρ d ρ2 h=>by
 simp only[qz]at h;split at h
 .rename_i a b;cases h;exact⟨(ρ.set i (.val a)).set j (.val b),by rw[jo,jo];rfl,DG.pair _ _ hij nd hi hj hx hy hf hg hc⟩
 .cases h
theorem DS.setX{e:aj}{x y:ah}{i:Nat}{p pos:aK}{ρ:Rho}(he:DX X ρ e y)(h:P.ex y ρ)(hN:X.N.Nodup)(hi:X.N[i]?=a3 x)(hx:Loc X.env.scope x)(hs:aQ e (a3 (.Name x p)) pos.line X.env=pure a4)(hf:X.fn x=a7\/X.env.scope.names.lookup x=a3 .local) :
  DS X ρ (.Assign [.Name x p] e pos) P:=λσ H E R q=>(Ut hN hi hx peS hs hf).to (he σ H _ R (q.ex y ρ σ H h R (Fr0.refl _ _)))
theorem DS.exprX{e:aj}{y:ah}{pos:aK}{ρ:Rho}(he:DX X ρ e y)(h:P.ex y ρ)(hs:aQ e a6 pos.line X.env=pure a4):DS X ρ (.Expr e pos) P:=λσ H E R q =>(M8 peS hs).to (he σ H _ R (q.ex y ρ σ H h R (Fr0.refl _ _)))
theorem DS.retX{e:aj}{y:ah}{pos:aK}{ρ:Rho}(he:DX X ρ e y)(h:P.ex y ρ):DS X ρ (.Return (a3 e) pos) P:=λσ H E R q =>(Wv peS).to (he σ H _ R (q.ex y ρ σ H h R (Fr0.refl _ _)))
theorem Nf{is:List Nat}{it':Ex}{b:Sx}{it tg:aj}{body:List aX}{pos:aK}{ρ:Rho}(hq:X.calm=a7)(c:Cok X G)(hs:∀x,aD it X.env x=pure x)
  (hb:∀ρ d ρ2,qz is d (j8 ρ)=a3 ρ2->∃ρ',j8 ρ'=ρ2/\DG X ρ tg d ρ') (hi:∀ρ ds,ev Γ G it' (j8 ρ)=a3 (.i ds)->DI X ρ tg it ds)
  (ih:∀ρ P,Ue (run fu Γ G b (j8 ρ)) P->DSs X ρ body P) (h:Ue (run fu Γ G (.loop is it' b) (j8 ρ)) P):DS X ρ (.For tg it body [] pos) P:=by
 have main:∀ρf:Rho,j8 ρf=frz it' (j8 ρ)->DS X ρf (.For tg it body [] pos) P:=λρf ef=>by
  rw[jgg]at h;rw[<-ef]at h;split at h
  .rename_i ds hds;generalize hf:(λd ρ=>_:D->En->So)=f at h;refine DS.for (ds:=ds) (λi ρ'=>Ue (Ja f (ds.drop i) (j8 ρ')) P) (hi ρf ds hds) (by rw[dS];exact h) (λi d ρ' hd w=>?_) (λρ' w=>?_) hq c.po hs
   .have hdr:ds.drop i=d::ds.drop (i+1):=by obtain⟨hlt,e⟩:=X7.mp hd;rw[bQ hlt,e]
    rw[hdr,Ja]at w;have ef2:f d (j8 ρ')=match qz is d (j8 ρ')with|some ρ2=>run fu Γ G b ρ2|none=>.no:=by rw[<-hf]<;>rfl
    rw[ef2]at w;cases hb2:qz is d (j8 ρ') with
    |none=>rw[hb2]at w;exact w.elim
    |some ρ2 =>
     rw[hb2]at w;obtain⟨ρ3,e3,dg⟩:=hb ρ' d ρ2 hb2;refine⟨ρ3,dg,ih ρ3 _ ?_⟩;rw[e3];dsimp only at w;cases ho:run fu Γ G b ρ2 with
     |next ρ4=>rw[ho]at w;exact λρ5 e=>by rw[<-e]at w;exact w
     |cnt ρ4=>rw[ho]at w;exact λρ5 e=>by rw[<-e]at w;exact w
     |brk ρ4=>rw[ho]at w;exact w
     |ret r=>rw[ho]at w;exact w
     |err x ρ4=>rw[ho]at w;exact w
     |no=>rw[ho]at w;exact w
   .rw[ja,Ja]at w;exact w ρ' rfl
  .exact h.elim
 by_cases z:J4 it' (j8 ρ)=a7
 .unfold J4 at z;split at z
  .rename_i i ei;split at z
   .rename_i l e;obtain⟨a,q⟩:=Qm e;refine DS.freeze i q (main _ ?_);rw[jo];simp only[frz,ei,e,Sl.abs]
   .cases z
  .cases z
 .have z':J4 it' (j8 ρ)=a4:=by simpa using z
  refine main ρ ?_;unfold frz;split
  .rename_i i ei;split
   .rename_i l e;simp only[J4,ei,e]at z';cases z'
   .rfl
  .rfl
theorem j33{is:List Nat}{elt' it' c':Ex}{elt it tg:aj}{ifs:List aj}{scope:aY}{p p1 pos:aK}{k:Nat}{z:ah}{ρ:Rho}(hq:X.calm=a7)(hX:Cok X G)
  (hk:X.N[k]?=a3 z) (hx:Loc X.env.scope z) (hf:X.fn z=a7\/X.env.scope.names.lookup z=a3 .local)
  (hsw:aQ (.ListComp elt [⟨tg,it,ifs,0⟩] scope p) (a3 (.Name z p1)) pos.line X.env=pure a7)
  (hit:∀ρ ds,ev Γ G it' (j8 ρ)=a3 (.i ds)->DI X ρ tg it ds) (hkind:scope.kind=.function) (hok:Jl scope X.env X.N is=a7) (hs:∀x,aD it X.env x=pure x)
  (hb:∀ρ d ρ2,qz is d (j8 ρ)=a3 ρ2->(∀j∈is,ρ[j]?=a3 .un)->∃ρ',j8 ρ'=ρ2/\Wk ρ' ρ/\owns ρ'=owns ρ/\∀C s H fp pn,DG (cCx X scope C s H fp pn) ρ tg d ρ')
  (he:∀C s H fp pn ρ r,ev Γ G elt' (j8 ρ)=a3 (.v r)->Has (cCx X scope C s H fp pn) ρ elt r)
  (hc:∀C s H fp pn ρ,(ev Γ G c' (j8 ρ)=a3 (.a [])->DTs (cCx X scope C s H fp pn) ρ ifs a7)/\∀y k,ev Γ G c' (j8 ρ)=a3 (.a [y])->y.d=.bl k->DTs (cCx X scope C s H fp pn) ρ ifs k)
  (h:Ue (run fu Γ G (.set k (.comp is elt' it' c')) (j8 ρ)) P):DS X ρ (.Assign [.Name z p1] (.ListComp elt [⟨tg,it,ifs,0⟩] scope p) pos) P:=by
 rw[j9v]at h;unfold Ol at h;have h:=(Yz h).resolve_right λ⟨y,ey,_⟩=>by simp only[er]at ey;cases ey
 cases e:ev Γ G (.comp is elt' it' c') (j8 ρ) with
 |none=>rw[e]at h;exact h.elim
 |some w =>
  rw[e]at h;cases w with
  |a _=>exact h.elim
  |i _=>exact h.elim
  |v r =>
   obtain⟨l,ρf,ds,pr,g,er,el,hfz,hi,hun,hz,hb'⟩:=Oc hit hb he hc e;subst er;refine DS.setCf (ρf:=ρf) k is pr g ?_ ?_ hi hb' (λa=>?_) hX.nd hun hz hk hx hf hsw hq hkind hok hs
   .rcases hfz with e|⟨_,i,a,l',q,e⟩
    .subst e;exact λ_ _ _ R=>R
    .subst e;exact λ_ _ _ R=>R.freeze q
   .rcases hfz with e|⟨n,_⟩
    .exact .inl e
    .exact .inr (el▸n)
   .rw[<-el];exact h _ jo
theorem j1p{w:Option W}{d:D}(h:stOf w=a3 d):∃z,w=a3 (.v z)/\z.st=a3 d:=by
 unfold stOf at h;split at h
 .exact⟨_,rfl,h⟩
 .cases h
end
structure Ts(X:Cx)(t:Sx)(nd:Ns):Prop where
 m:∀(fu:Nat)(Γ:ah->List D->Rc)(G:ah->Option D),Cok X G->Gok X Γ->j9x fu Γ G X t nd
theorem Ts.nil:∀{X:Cx},Ts X .nop (.ss []):=by intro _;refine⟨λfu Γ G=>?_⟩;intro c g ρ P h;exact DSs.nil (h ρ rfl)
theorem Ts.cons:∀{X:Cx}{a b:Sx}{st:aX}{rest:List aX},Ts X a (.s st)->Ts X b (.ss rest)->Ts X (.seq a b) (.ss (st::rest)):=by
 intro _ _ _ _ _ q0 q1;refine⟨λfu Γ G=>?_⟩;have iha:=q0.m fu Γ G;have ihb:=q1.m fu Γ G;intro c g ρ P h;rw[j40]at h;split at h
 .rename_i ρ' e;exact DSs.cons (N:=λρ1=>j8 ρ1=ρ') (iha c g ρ _ (by rw[e];exact λρ2 z=>z)) λρ1 z=>ihb c g ρ1 P (by rw[z];exact h)
 .rename_i o hn;refine DSs.cons (N:=λ_=>False) (iha c g ρ _ ?_) λ_ z=>z.elim;cases e:run fu Γ G _ (j8 ρ) with
  |next ρ'=>exact absurd e (hn ρ')
  |ret r=>rw[e]at h;exact h
  |err x r=>rw[e]at h;exact h
  |brk r=>rw[e]at h;exact h
  |cnt r=>rw[e]at h;exact h
  |no=>rw[e]at h;exact h
theorem Ts.fgt:∀{X:Cx}{i:Nat}{b:Sx}{sts:List aX},Ts X b (.ss sts)->Ts X (.seq (.fgt i) b) (.ss sts):=by intro _ _ _ _ q0;refine⟨λfu Γ G=>?_⟩;have ih:=q0.m fu Γ G;intro c g ρ P h;simp only[j40,jil]at h;exact DSs.forget _ (ih c g _ P (by rw[jo];exact h))
theorem Ts.keep:∀{X:Cx}{i:Nat}{b:Sx}{sts:List aX},Ts X b (.ss sts)->Ts X (.seq (.keep i) b) (.ss sts):=by
 intro _ i _ _ q0;refine⟨λfu Γ G=>?_⟩;have ih:=q0.m fu Γ G;intro c g ρ P h;simp only[j40,jgh,Nh]at h;cases e:(j8 ρ)[i]? with
 |none=>rw[e]at h;exact h.elim
 |some v =>
  rw[e]at h;cases v with
  |own l =>obtain⟨a,q⟩:=Qm e;exact DSs.freeze _ q (ih c g _ P (by rw[jo];exact h))
  |un=>exact h.elim
  |val d=>exact ih c g ρ P h
  |exc x=>exact h.elim
theorem Ts.fail:∀{X:Cx}{st:aX},Ts X .fail (.s st):=by intro _ _;refine⟨λfu Γ G=>?_⟩;intro c g ρ P h;exact h.elim
theorem Ts.set:∀{X:Cx}{i:Nat}{x:ah}{e':Ex}{e:aj}{p pos:aK}(hi:X.N[i]?=a3 x) (hx:Loc X.env.scope x) (hs:aQ e (a3 (.Name x p)) pos.line X.env=pure a4) (hf:X.fn x=a7\/X.env.scope.names.lookup x=a3 .local),Tr X e' (.e e)->Ts X (.set i e') (.s (.Assign [.Name x p] e pos)):=by
 intro _ _ _ _ _ _ _ hi hx hs hf he;refine⟨λfu Γ G=>?_⟩;intro c g ρ P h;have S:=sound he c g;rw[j9v]at h;unfold Ol at h;rcases Yz h with h|⟨y,ey,hP⟩
 rotate_left
 .exact DS.setX (Iz he c g ρ y ey) (hP ρ rfl) c.nd hi hx hs hf
 split at h
 .rename_i l e;exact DS.setO _ (S ρ _ e) (λa=>h _ jo) c.nd hi hx hs hf
 .rename_i r hn e;split at h
  .rename_i d hd;exact DS.set _ ((S ρ _ e).toE hd) (h _ jo) c.nd hi hx hs hf
  .exact h.elim
 .exact h.elim
theorem Ts.setC1:∀{X:Cx}{k i:Nat}{z y:ah}{py p p1 pos:aK}{elt' it' c':Ex}{elt it:aj}{ifs:List aj} {scope:aY} (hq:X.calm=a7) (hk:X.N[k]?=a3 z) (hx:Loc X.env.scope z) (hf:X.fn z=a7\/X.env.scope.names.lookup z=a3 .local) (hsw:aQ (.ListComp elt [⟨.Name y py,it,ifs,0⟩] scope p) (a3 (.Name z p1)) pos.line X.env=pure a7) (hi:X.N[i]?=a3 y) (hl:Yy scope y=a7) (hkind:scope.kind=.function) (hok:Jl scope X.env X.N [i]=a7) (hs:∀x,aD it X.env x=pure x),Tr X it' (.i (.Name y py) it)->(∀C s H fp pn,Tr (cCx X scope C s H fp pn) elt' (.e elt))->(∀C s H fp pn,Tr (cCx X scope C s H fp pn) c' (.c ifs))->Ts X (.set k (.comp [i] elt' it' c')) (.s (.Assign [.Name z p1] (.ListComp elt [⟨.Name y py,it,ifs,0⟩] scope p) pos)):=by
 intro _ _ _ _ _ _ _ _ _ _ _ _ _ _ _ _ hq hk hx hf hsw hi hl hkind hok hs hit he hc;refine⟨λfu Γ G=>?_⟩;intro c g ρ P h;exact j33 hq c hk hx hf hsw (λρ ds z=>sound hit c g ρ ds z) hkind hok hs (λρ d ρ2 hb hun=>by
  simp only[qz]at hb
  cases hb
  have hu:=hun _ (xm.mpr rfl)
  exact⟨_,jo,Wk.set hu,Vi hu,λC s H fp pn=>DG.name _ c.nd hi (M5 hl) (Bu hl)⟩)
  (λC s H fp pn ρ r z=>sound (he C s H fp pn) c.comp g.comp ρ r z) (λC s H fp pn ρ=>sound (hc C s H fp pn) c.comp g.comp ρ) h
theorem Ts.mov:∀{X:Cx}{i j:Nat}{x y:ah}{p q pos:aK}(hi:X.N[i]?=a3 x) (hj:X.N[j]?=a3 y) (hx:Loc X.env.scope x) (hf:X.fn x=a7\/X.env.scope.names.lookup x=a3 .local) (hv:Vis X.env.scope y) (hd:(y==k8s)=a4) (hcd:(y==k8t)=a4),Ts X (.mov i j) (.s (.Assign [.Name x p] (.Name y q) pos)):=by
 intro _ _ _ _ _ _ _ _ hi hj hx hf hv hd hcd;refine⟨λfu Γ G=>?_⟩;intro c g ρ P h;rw[jij]at h;unfold Dm at h;split at h
 .rename_i l e;obtain⟨a,q⟩:=Qm e;split at h
  .exact h.elim
  .rename_i hij;exact DS.mov q hij (h _ (by rw[jo,jo];rfl)) c.nd hi hj hx hf hv hd hcd
 .rename_i d e;exact DS.set _ (DE.var _ (Yw e) hj hv hd hcd) (h _ jo) c.nd hi hx rfl hf
 .exact h.elim
theorem Ts.expr:∀{X:Cx}{e':Ex}{e:aj}{pos:aK}(hs:aQ e a6 pos.line X.env=pure a4),Tr X e' (.e e)->Ts X (.expr e') (.s (.Expr e pos)):=by
 intro _ _ _ _ hs he;refine⟨λfu Γ G=>?_⟩;intro c g ρ P h;rw[jgi]at h;unfold j0f at h;rcases Yz h with h|⟨y,ey,hP⟩
 rotate_left
 .exact DS.exprX (Iz he c g ρ y ey) (hP ρ rfl) hs
 split at h
 .rename_i r e;exact DS.expr (sound he c g ρ r e).toT (h ρ rfl) hs
 .exact h.elim
theorem Ts.ret:∀{X:Cx}{e':Ex}{e:aj}{pos:aK},Tr X e' (.e e)->Ts X (.ret e') (.s (.Return (a3 e) pos)):=by
 intro _ _ _ _ he;refine⟨λfu Γ G=>?_⟩;intro c g ρ P h;rw[j9w]at h;unfold retS at h;rcases Yz h with h|⟨y,ey,hP⟩
 rotate_left
 .exact DS.retX (Iz he c g ρ y ey) (hP ρ rfl)
 split at h
 .rename_i l e;exact DS.retO (sound he c g ρ _ e) (h _ rfl)
 .rename_i r hn e;exact DS.ret (sound he c g ρ _ e).toT (h _ rfl)
 .exact h.elim
theorem Ts.retV:∀{X:Cx}{i:Nat}{x:ah}{p pos:aK}(hi:X.N[i]?=a3 x) (hv:Vis X.env.scope x) (hd:(x==k8s)=a4) (hcd:(x==k8t)=a4),Ts X (.retV i) (.s (.Return (a3 (.Name x p)) pos)):=by
 intro _ _ _ _ _ hi hv hd hcd;refine⟨λfu Γ G=>?_⟩;intro c g ρ P h;rw[jgd]at h;unfold M7 at h;split at h
 .rename_i l e;obtain⟨a,q⟩:=Qm e;exact DS.retV _ q (h _ rfl) hi hv hd hcd
 .rename_i d e;exact DS.ret (DE.toT (DE.var _ (Yw e) hi hv hd hcd)) (h _ rfl)
 .exact h.elim
theorem Ts.ife:∀{X:Cx}{c':Ex}{a b:Sx}{c:aj}{sa sb:List aX}{pos:aK},Tr X c' (.b c)->Ts X a (.ss sa)->Ts X b (.ss sb)->Ts X (.ife c' a b) (.s (.If c sa sb pos)):=by
 intro _ _ _ _ _ _ _ _ hc q1 q2;refine⟨λfu Γ G=>?_⟩;have iha:=q1.m fu Γ G;have ihb:=q2.m fu Γ G;intro c g ρ P h;rw[jik]at h;split at h
 .rename_i e;exact DS.if (sound hc c g ρ a7 e) (λ_=>iha c g ρ P h) λz=>by cases z
 .rename_i e;exact DS.if (sound hc c g ρ a4 e) (λz=>by cases z) λ_=>ihb c g ρ P h
 .exact h.elim
theorem Ts.for1:∀{X:Cx}{i:Nat}{y:ah}{it':Ex}{b:Sx}{it:aj}{body:List aX} {p pos:aK} (hq:X.calm=a7) (hi:X.N[i]?=a3 y) (hx:Loc X.env.scope y) (hf:X.fn y=a7\/X.env.scope.names.lookup y=a3 .local) (hs:∀x,aD it X.env x=pure x),Tr X it' (.i (.Name y p) it)->Ts X b (.ss body)->Ts X (.loop [i] it' b) (.s (.For (.Name y p) it body [] pos)):=by intro _ _ _ _ _ _ _ _ _ hq hi hx hf hs hit q1;refine⟨λfu Γ G=>?_⟩;have ih:=q1.m fu Γ G;intro c g ρ P h;exact Nf hq c hs (bind1 c.nd hi hx hf) (λρ ds z=>sound hit c g ρ ds z) (ih c g) h
theorem Ts.for2:∀{X:Cx}{i j:Nat}{x y:ah}{it':Ex}{b:Sx}{it:aj}{body:List aX} {n:Nat} {p q pt pos:aK} (hq:X.calm=a7) (hij:i≠j) (hi:X.N[i]?=a3 x) (hj:X.N[j]?=a3 y) (hx:Loc X.env.scope x) (hy:Loc X.env.scope y) (hf:X.fn x=a7\/X.env.scope.names.lookup x=a3 .local) (hg:X.fn y=a7\/X.env.scope.names.lookup y=a3 .local) (hs:∀x,aD it X.env x=pure x),Tr X it' (.i (.Tuple [.Name x p,.Name y q] n pt) it)->Ts X b (.ss body)->Ts X (.loop [i,j] it' b) (.s (.For (.Tuple [.Name x p,.Name y q] n pt) it body [] pos)):=by intro _ _ _ _ _ _ _ _ _ _ _ _ _ _ hq hij hi hj hx hy hf hg hs hit q1;refine⟨λfu Γ G=>?_⟩;have ih:=q1.m fu Γ G;intro c g ρ P h;exact Nf hq c hs (ji7 hq hij c.nd hi hj hx hy hf hg) (λρ ds z=>sound hit c g ρ ds z) (ih c g) h
theorem Ts.app:∀{X:Cx}{i:Nat}{x:ah}{e':Ex}{e:aj}{p p1 p2 pos:aK}(hN:X.N[i]?=a3 x) (hv:Vis X.env.scope x) (hd:(x==k8s)=a4) (hcd:(x==k8t)=a4) (hst:a9 [e] X.env=[(a4,ay e X.env)]) (hline:(p1.endLine==p2.line)=a7) (hbase:aN (.Name x p) "append" X.env (ay (.Name x p) X.env)=ay (.Name x p) X.env) (hfew:((aO p2 (a9 [e] X.env)).all (λx=>!x.1)&&(bu p2 (aT [] X.env)).all (λx=>x.1.isSome)&&decide (([e]:List aj).length+([]:List aR).length+(if ([]:List aR).isEmpty then 0 else 1)<30))=a7),Tr X e' (.e e)->Ts X (.app i e') (.s (.Expr (.Call (.Attribute (.Name x p) "append" p1) [e] [] p2) pos)):=by
 intro _ _ _ _ _ _ _ _ _ hN hv hd hcd hst hline hbase hfew he;refine⟨λfu Γ G=>?_⟩;intro c g ρ P h;rw[jin]at h;unfold Cj at h;split at h
 .rename_i l x el ex;obtain⟨a,q⟩:=Qm el;split at h
  .rename_i d hd';split at h
   .rename_i hz;exact DS.append _ q ((sound he c g ρ x ex).toE hd') hz (h _ jo) hN hv hd hcd hst hline hbase hfew rfl
   .exact h.elim
  .exact h.elim
 .exact h.elim
theorem Ts.ext:∀{X:Cx}{i:Nat}{x:ah}{e':Ex}{e:aj}{p p1 p2 pos:aK}(hN:X.N[i]?=a3 x) (hv:Vis X.env.scope x) (hd:(x==k8s)=a4) (hcd:(x==k8t)=a4) (hst:a9 [e] X.env=[(a4,ay e X.env)]) (hline:(p1.endLine==p2.line)=a7) (hbase:aN (.Name x p) "extend" X.env (ay (.Name x p) X.env)=ay (.Name x p) X.env) (hfew:((aO p2 (a9 [e] X.env)).all (λx=>!x.1)&&(bu p2 (aT [] X.env)).all (λx=>x.1.isSome)&&decide (([e]:List aj).length+([]:List aR).length+(if ([]:List aR).isEmpty then 0 else 1)<30))=a7),Tr X e' (.e e)->Ts X (.ext i e') (.s (.Expr (.Call (.Attribute (.Name x p) "extend" p1) [e] [] p2) pos)):=by
 intro _ _ _ _ _ _ _ _ _ hN hv hd hcd hst hline hbase hfew he;refine⟨λfu Γ G=>?_⟩;intro c g ρ P h;rw[jim]at h;unfold Dw at h;split at h
 .rename_i l m el ex;obtain⟨a,q⟩:=Qm el;split at h
  .rename_i hz;exact DS.extend _ q (sound he c g ρ _ ex) (za hz) (h _ jo) hN hv hd hcd hst hline hbase hfew rfl
  .exact h.elim
 .exact h.elim
theorem Ts.retL:∀{X:Cx}{x:ah}{is:List Nat}{params:d7}{body:aj}{scope:aY}{cl:List (ah×aa)} {p1 pos:aK} (hx:x∈Zn) (hqu:X.env.qual=x ++ ".<locals>.") (hdef:fA params X.env=([],[])) (hcl:dk scope X.env=pure cl) (ht:Q3 X.K x=a3 (params,body,scope)) (hn:cl.map (·.1)=zf scope) (nd:(zf scope).Nodup) (hc:j41 X cl is),Ts X (.retL x is) (.s (.Return (a3 (.Lambda params body scope p1)) pos)):=by
 intro _ _ _ _ _ _ _ _ _ hx hqu hdef hcl ht hn nd hc;refine⟨λfu Γ G=>?_⟩;intro c g ρ P h;rw[jge]at h;unfold N6 at h;split at h
 .rename_i ds e;exact DS.retLam ⟨hx,hqu,c.lm _ hx hqu⟩ hdef hcl ht hn nd (Ce hc e) (h (.val _) rfl)
 .exact h.elim
theorem Ts.retC:∀{X:Cx}{f x:ah}{is:List Nat}{a' b':Ex}{a b:aj}{params:d7}{body:aj} {scope:aY} {cl:List (ah×aa)} {p1 p2 p3 pos:aK} (hx:x∈Zn) (hqu:X.env.qual=x ++ ".<locals>.") (hdef:fA params X.env=([],[])) (hcl:dk scope X.env=pure cl) (ht:Q3 X.K x=a3 (params,body,scope)) (hn:cl.map (·.1)=zf scope) (nd:(zf scope).Nodup) (hc:j41 X cl is) (hg:Gl X f) (hdb:(f==k8s)=a4) (hs1:a9 [a,b,.Lambda params body scope p1] X.env=(a4,ay a X.env)::a9 [b,.Lambda params body scope p1] X.env) (hs2:a9 [b,.Lambda params body scope p1] X.env=(a4,ay b X.env)::a9 [.Lambda params body scope p1] X.env) (hs3:a9 [.Lambda params body scope p1] X.env=(a4,ay (.Lambda params body scope p1) X.env)::a9 [] X.env) (hpl:(aO p3 (a9 [b,.Lambda params body scope p1] X.env)).any (·.1)=a4),Tr X a' (.e a)->Tr X b' (.e b)->Ts X (.retC f x a' b' is) (.s (.Return (a3 (.Call (.Name f p2) [a,b,.Lambda params body scope p1] [] p3)) pos)):=by
 intro _ f x is a' b' a b params body scope cl p1 p2 p3 pos hx hqu hdef hcl ht hn nd hc hg hdb hs1 hs2 hs3 hpl ha hb;refine⟨λfu Γ G=>?_⟩;intro c g ρ P h;rw[jgf]at h;unfold N7 at h;split at h
 .rename_i ds u v e1 e2 e3;have q:=g f [u.d,v.d,.fn x ds];cases z:Γ f [u.d,v.d,.fn x ds] with
  |val d =>
   rw[z]at h q;dsimp only[Kp]at h;split at h
   .rename_i nf;exact DS.ret (DT.callL q ⟨hx,hqu,c.lm _ hx hqu⟩ hdef hcl ht hn nd (Ce hc e1) (sound ha c g ρ u e2).toT (sound hb c g ρ v e3).toT nf ⟨rfl,rfl⟩ hg hdb hs1 hs2 hs3 hpl) (h (.val _) rfl)
   .exact h.elim
  |fresh l=>rw[z]at h;exact h.elim
  |err x=>rw[z]at h;exact h.elim
  |lval d=>rw[z]at h;exact h.elim
  |no=>rw[z]at h;exact h.elim
 .exact h.elim
theorem Ts.nmake:∀{X:Cx}{x t y:Nat}{nx nt ny:ah}{it' e1' e2':Ex}{it e1 e2:aj}{p1 p2 p3 p4 p5 p6 p10 p11 p12 p14 p16 p17 p18:aK}(hq:X.calm=a7) (hX:X.N[x]?=a3 nx) (hT:X.N[t]?=a3 nt) (hY:X.N[y]?=a3 ny) (lx:Loc X.env.scope nx) (lt:Loc X.env.scope nt) (ly:Loc X.env.scope ny) (fx:X.fn nx=a7\/X.env.scope.names.lookup nx=a3 .local) (ft:X.fn nt=a7\/X.env.scope.names.lookup nt=a3 .local) (fy:X.fn ny=a7\/X.env.scope.names.lookup ny=a3 .local) (dx:(nx==k8s)=a4) (cx:(nx==k8t)=a4) (dt:(nt==k8s)=a4) (ct:(nt==k8t)=a4) (s1:aQ (.Dict [] [] p2) (a3 (.Name nx p1)) p3.line X.env=pure a4) (s2:aQ e1 (a3 (.Name ny p5)) p6.line X.env=pure a4) (s3:aQ e2 (a3 (.Subscript (.Name nx p10) (.Name nt p11) p12)) p14.line X.env=pure a4) (hf:∀x,aD it X.env x=pure x),Tr X it' (.i (.Name nt p4) it)->Tr X e1' (.e e1)->Tr X e2' (.e e2)->Ts X (.nmake x t y it' e1' e2') (.ss (j9j nx nt ny it e1 e2 p1 p2 p3 p4 p5 p6 p10 p11 p12 p14 p16 p17 p18)):=by
 intro _ x t y nx nt ny it' e1' e2' it e1 e2 p1 p2 p3 p4 p5 p6 p10 p11 p12 p14 p16 p17 p18 hq hX hT hY lx lt ly fx ft fy dx cx dt ct s1 s2 s3 hf hit he1 he2;refine⟨λfu Γ G=>?_⟩;intro c g ρ P h;rw[j2q]at h;split at h
 .rename_i hcnd;obtain⟨rx,rt,ry,hxt,hxy,hty⟩:=hcnd;have ln:(j8 ρ).length=ρ.length:=by unfold j8;rw[xf]
  rw[ln]at rx rt ry;split at h
  .rename_i ds eds;split at h
   .rename_i r er;refine DSs.nmake (W:=λi ρ' ks ns=>Vk (λρ=>stOf (ev Γ G e1' ρ)) (λρ=>stOf (ev Γ G e2' ρ)) x t y (ds.drop i) (j8 ρ') ks ns=a3 r) rx rt ry hxt hxy hty (sound hit c g (ρ.set x .un) ds (by rw[jo];exact eds))
     (by rw[dS,jo];exact er) (λi d ρ' ks ns hd w=>?_) (λρ' ks ns w=>?_) c.un' hq c.po c.nd hX hT hY lx lt ly fx ft fy dx cx dt ct s1 s2 s3 hf
    .have hdr:ds.drop i=d::ds.drop (i+1):=by obtain⟨hlt,e⟩:=X7.mp hd;rw[bQ hlt,e]
     rw[hdr]at w;cases d with
     |tup l =>
      simp only[Vk]at w;split at w
      .rename_i k d1 ek ed;obtain⟨z,ez,ed2⟩:=j1p ed;have hk:=Qf ek;subst hk;split at w
       .rename_i n en;obtain⟨z2,ez2,ed3⟩:=j1p en;split at w
        .rename_i hh;refine⟨k,d1,n,rfl,(sound he1 c g (ρ'.set t (.val (.tup (k.map D.int)))) z (by rw[jo];exact ez)).toE ed2,(sound he2 c g (((ρ'.set t (.val (.tup (k.map D.int)))).set y (.val d1)).set x (.val (.dct ks (ns.map D.int)))) z2 (by rw[jo,jo,jo];exact ez2)).toE ed3,hh.1,hh.2,by rw[jo,jo];exact w⟩
        .cases w
       .cases w
      .cases w
     |_=>simp only[Vk]at w;cases w
    .rw[ja,Vk]at w;cases w;exact h (.val (.dct ks (ns.map D.int))) rfl
   .exact h.elim
  .exact h.elim
 .exact h.elim
section
theorem Uq{fu:Nat}{Γ:ah->List D->Rc}{G:ah->Option D}{X:Cx}{t:Sx}{nd:Ns}(h:Ts X t nd):Cok X G->Gok X Γ->j9x fu Γ G X t nd:=h.m fu Γ G
end
structure Fi where
 n:Nat
 nn:Nat
 body:Sx
 lam:Bool
noncomputable def j3h:Rc->Rc
 |.val d=>.lval d
 |_=>.no
noncomputable def fin:So->Rc
 |.ret r=>r
 |.next _=>.val .non
 |.err x _=>.err x
 |_=>.no
noncomputable def enter(F:Fi)(ds:List D):En:=ds.map Sv.val++ae (F.nn-F.n) Sv.un
noncomputable def evP(fu:Nat)(G:ah->Option D)(T:ah->Option Fi):Nat->ah->List D->Rc
 |0,_,_=>.no
 |n+1,f,ds=>match T f with
  |none=>.no
  |some F=>if ds.length=F.n then(if F.lam=a7 then j3h (fin (run fu (evP fu G T n) G F.body (enter F ds)))else fin (run fu (evP fu G T n) G F.body (enter F ds)))else .no
structure Lk(P:au)(w:ax)(K:k8o)(mg:k8r)(base:aA)(x:ah)(F:Fi):Prop where
 ex:∃(st:aX)(f:aa)(fd:aJ)(N ps:List ah),Fun K x x st f fd/\FnScope N ps (jb st)/\ps.length=F.n/\N.length=F.nn/\Binds K fd ps []/\Dfl K x fd ps/\mg x=a3 (.ref f) /\
  ∀(cdv:a8)(A:az)(outer:List dy)(s:af)(H:Hp)(E:XK)(xe:k8p),Ts ((v9 CX0 P w K mg base N x (jb st) f cdv A outer s H E).wish xe) F.body (.ss (jn st))
structure LkL(P:au)(w:ax)(K:k8o)(mg:k8r)(base:aA)(x:ah)(F:Fi):Prop where
 ex:∃(tx:Tx)(N ps:List ah)(e:Ex),Q3 K x=a3 tx/\LamScope N ps tx.2.2/\N.length=F.n/\F.nn=F.n/\F.body=.ret e /\
  (∀(cl:List (ah×aa)) (pm:a8) (c:aa) (ctv:a8) (us:List a8),us.length=ps.length->eT (W.kla_fn "<lambda>" (jq x) tx.1 tx.2.1 tx.2.2 cl pm (.ref c) ctv) ⟨us,[]⟩=pure (ps.zip us)) /\
  ∀(a c:aa)(cl:List (ah×aa)) (A:az) (outer:List dy) (s:af) (H:Hp),Tr (Ua P w K mg base N (jq x) tx.2.2 a (.ref c) cl A outer s H) e (.e tx.2.1)
def LkF(P:au)(w:ax)(K:k8o)(mg:k8r)(base:aA)(f:ah)(F:Fi):Prop:=(F.lam=a4->Lk P w K mg base f F/\f.cps.toList.getLast?≠a3 62)/\(F.lam=a7->∃x,f=jq x/\LkL P w K mg base x F)
def j6n(P:au)(w:ax)(K:k8o)(mg:k8r)(base:aA):Prop:=∃(f:aa)(fd:aJ)(ps:List ah),FnOk P w K mg base CX0 11 f fd ps (jcu K j9d)/\mg "_law_plan" = a3 (.ref f)/\W.keepIn K (.ref f)=a7/\Binds K fd ps []/\Dfl K "_law_plan" fd ps
structure Tb(P:au)(w:ax)(K:k8o)(mg:k8r)(base:aA)(G:ah->Option D):Prop where
 bt:∀x∈Rx,mg x=a6
 gl:∀x d,Vp x=a4->G x=a3 d->∃u v,mg x=a3 u/\RelV v u/\∀H,Enc K H d v
 ea:Ky K=a7
 ec:∀x d,G (bang x)=a3 d->x∈Jj/\∃o,W.nsIn K aq x=a3 (a3 o)
 el:G "?" = a3 (.bl a7)->∀c∈Jj,∃v,W.nsIn K aq c=a3 (a3 v)
 kin:K.In base
 ns:base.Ns aq mg
 kd:∀x l,G (bang x)=a3 (.lst l)->KindsP P w K mg base "_law_kinds" x l
 fn:∀f d,G (qm f)=a3 d->∃fa,mg f=a3 (.ref fa)/\W.keepIn K (.ref fa)=a7
 pl:∀d,G (qm "_law_plan")=a3 d->j6n P w K mg base
 lm:∀x∈Zn,∀f cdv,mg x=a3 (.ref f)->M3 K f cdv->∃c Pt,cdv=.ref c/\W.codeHdIn K c Pt=a7/\W.tabIn K x=a3 (c,Pt)
structure LkH(P:au)(w:ax)(K:k8o)(mg:k8r)(base:aA)(x:ah)(F:Fi):Prop where
 ex:∃(st:aX)(f:aa)(fd:aJ)(N:List ah)(p:ah),Fun K x x st f fd/\FnScope N [p] (jb st)/\1<=N.length/\N.length=F.nn/\Binds K fd [p] []/\mg x=a3 (.ref f) /\
  ∀(cdv:a8)(A:az)(outer:List dy)(s:af)(H:Hp),Ts { (v9 CX0 P w K mg base N x (jb st) f cdv A outer s H E0).nox with calm:=a4 } F.body (.ss (jn st))
section
variable{P:au}{w:ax}{K:k8o}{mg:k8r}{base:aA}{fu:Nat}{G:ah->Option D}{T:ah->Option Fi}
theorem Wl{N:List ah}{ds:List D}{F:Fi}(h1:ds.length=F.n)(h2:N.length=F.nn):j8 (qp N ds)=enter F ds:=by unfold j8 qp enter;rw[Xq,Xc,List.map_replicate,h1,h2];rfl
theorem Rw(y:ah):(bang y).cps.toList.head?=a3 33:=by unfold bang;show(("!":ah).cps++y.cps).toList.head?=a3 33;rw[Tg];rfl
theorem jc9 (y:ah):bang y ≠ "?":=λh=>by have:=Rw y;rw[h]at this;exact absurd this (by decide)
theorem j1v(y:ah):(qm y).cps.toList.head?=a3 63:=by unfold qm;show(("??":ah).cps++y.cps).toList.head?=a3 63;rw[Tg];rfl
theorem jh8 (y:ah):qm y ≠ "?":=λh=>by
 have e:((qm y).cps.toList.drop 1).head?=a3 63:=by unfold qm;show((("??":ah).cps++y.cps).toList.drop 1).head?=a3 63;rw[Tg];rfl
 rw[h]at e;exact absurd e (by decide)
theorem jdf{x y:ah}(h:qm x=qm y):x=y:=by unfold qm at h;have h:(⟨("??":ah).cps++x.cps⟩:ah)=⟨("??":ah).cps++y.cps⟩:=h;have h:=congrArg ky h;have e:x.cps=y.cps:=gw h rfl;cases x;cases y;cases e;rfl
theorem j2n(x y:ah):bang x≠qm y:=λh=>by have:=Rw x;rw[h,j1v]at this;exact absurd this (by decide)
theorem Mx{x y z:ah}(h:x++z=y++z):x=y:=by have h:(⟨x.cps++z.cps⟩:ah)=⟨y.cps++z.cps⟩:=h;have h:=congrArg ky h;have e:x.cps=y.cps:=Array.append_inj_left' h rfl;cases x;cases y;cases e;rfl
theorem j7v{x y:ah}(h:jq x=jq y):x=y:=Mx (Mx h)
theorem Lj(x:ah):(jq x).cps.toList.getLast?=a3 62:=by unfold jq;show(((x ++ ".<locals>.").cps)++("<lambda>":ah).cps).toList.getLast?=a3 62;rw[Tg,i7];rfl
theorem j3i(x:ah):jq x∉Zn:=λh=>by
 have e:=Lj x
 revert e
 unfold Zn at h;rcases xr.mp h with h|h
 .rw[h];decide
 rcases xr.mp h with h|h
 .rw[h];decide
 rcases xr.mp h with h|h
 .rw[h];decide
 .rw[xm.mp h];decide
theorem jd8{fu:Nat}{Γ:ah->List D->Rc}{G:ah->Option D}{e:Ex}{ρ:En}{d:D}(h:fin (run fu Γ G (.ret e) ρ)=.val d):∃r,ev Γ G e ρ=a3 (.v r)/\r.d=d:=by
 rw[j9w]at h;cases z:ev Γ G e ρ with
 |none=>rw[z]at h;cases y:er Γ G e ρ<;>(rw[y]at h;cases h)
 |some w =>
  cases w with
  |v r =>
   rw[z]at h;cases r with
   |o l=>cases h
   |e d=>cases h;exact⟨_,rfl,rfl⟩
   |w l=>cases h;exact⟨_,rfl,rfl⟩
   |t d=>cases h;exact⟨_,rfl,rfl⟩
  |a l=>rw[z]at h;cases y:er Γ G e ρ<;>(rw[y]at h;cases h)
  |i l=>rw[z]at h;cases y:er Γ G e ρ<;>(rw[y]at h;cases h)
theorem Ys (t:Tb P w K mg base G) {X:Cx} {n:Nat} (h1:X.prog=P) (h2:X.w=w) (h3:X.K=K) (h4:X.mg=mg) (h5:X.base=base) (hn:12<=n) (hr:Room n X.A) (nd:X.N.Nodup) (po:fX (aw X.prog X.w) X.A X.env X.xe) (hlm:∀x∈Zn,X.env.qual=x ++ ".<locals>."->∃c P,X.env.code=.ref c/\W.codeHdIn K c P=a7/\W.tabIn K x=a3 (c,P)):Cok X G:=by subst h1 h2 h3 h4 h5;exact⟨by have:=hr.un;omega,(λ_=>by have:=hr.un;omega),(λ_=>by have:=hr.dp;omega),t.bt,t.gl,nd,po,t.ea,t.ec,t.el,t.kin,t.ns,t.kd,t.fn,λd e=>let ⟨f,fd,ps,F,h1,h2,h3,h4⟩:=t.pl d e;⟨11,f,fd,ps,F,hr.mono hn,h1,h2,h3,h4⟩,hlm⟩
theorem Mm (t:Tb P w K mg base G) {g:ah} {f:aa} {cdv:a8} {env:dy} (hm:mg g=a3 (.ref f)) (hcv:M3 K f cdv) (hq:env.qual=g ++ ".<locals>.") (hc:env.code=cdv):∀x∈Zn,env.qual=x ++ ".<locals>."->∃c P,env.code=.ref c/\W.codeHdIn K c P=a7/\W.tabIn K x=a3 (c,P):=λx hx e=>by have eg:=Mx (hq.symm.trans e);subst eg;rw[hc];exact t.lm _ hx f cdv hm hcv
noncomputable def lv:Nat->Nat
 |0=>12
 |n+1=>lv n+2
theorem U8:∀n,12<=lv n+1
 |0=>by decide
 |n+1=>by have:=U8 n;unfold lv;omega
theorem N8(hT:∀x F,T x=a3 F->LkF P w K mg base x F)(t:Tb P w K mg base G):∀(n:Nat)(x:ah)(ds:List D),
  ∃(f:aa)(fd:aJ)(ps:List ah),match evP fu G T n x ds with
   |.val d=>FnOk P w K mg base CX0 (lv n) f fd ps (spP K λds' d'=>ds'=ds/\d'=d)/\mg x=a3 (.ref f)/\W.keepIn K (.ref f)=a7/\Binds K fd ps []/\Dfl K x fd ps
   |.fresh l=>FnOk P w K mg base CX0 (lv n) f fd ps (spF K λds' l'=>ds'=ds/\l'=l)/\mg x=a3 (.ref f)/\W.keepIn K (.ref f)=a7/\Binds K fd ps []/\Dfl K x fd ps
   |.err y=>FnOk P w K mg base (CX1 P w) (lv n) f fd ps (spX K mg λds' z=>ds'=ds/\z=y)/\mg x=a3 (.ref f)/\W.keepIn K (.ref f)=a7/\Binds K fd ps []
   |.lval d=>∀y,x=jq y->Ig P w K mg base (lv n) y λds' d'=>ds'=ds/\d'=d
   |.no=>True
 |0,x,ds=>⟨0,W.fnOf x x { posonlyargs:=[],args:=[],vararg:=a6,kwonlyargs:=[],kw_defaults:=[],kwarg:=a6,defaults:=[] } [] { kind:=.function,names:=[],isGenerator:=a4,isCoroutine:=a4 } .none .none .none .none a6 .none .none,[],trivial⟩
 |n+1,x,ds=>by
  have ih:=N8 hT t n;cases hF:T x with
  |none =>
   obtain⟨f,fd,ps,_⟩:=ih x ds;refine⟨f,fd,ps,?_⟩;have e:evP fu G T (n+1) x ds=.no:=by simp only[evP,hF]
   rw[e];trivial
  |some F =>
   have gok:∀{X:Cx},X.prog=P->X.w=w->X.K=K->X.mg=mg->X.base=base->Room (lv n+1) X.A->Gok X (evP fu G T n):=λ{X} h1 h2 h3 h4 h5 hr g ds'=>by
    subst h1 h2 h3 h4 h5;obtain⟨f',fd',ps',q⟩:=ih g ds';cases z:evP fu G T n g ds' with
    |val d=>rw[z]at q;exact⟨lv n,f',fd',ps',q.1,hr,q.2.1,q.2.2.1,q.2.2.2⟩
    |fresh l=>rw[z]at q;exact⟨lv n,f',fd',ps',q.1,hr,q.2.1,q.2.2.1,q.2.2.2⟩
    |err y=>rw[z]at q;exact⟨lv n,f',fd',ps',q.1,hr.mono (Py _),q.2.1,q.2.2.1,q.2.2.2⟩
    |lval d=>rw[z]at q;exact λy hy=>⟨lv n,hr.mono (Py _),q y hy⟩
    |no=>trivial
   cases hlam:F.lam with
   |true =>
    obtain⟨f,fd,ps,_⟩:=ih x ds;refine⟨f,fd,ps,?_⟩;by_cases hl:ds.length=F.n
    .have e:evP fu G T (n+1) x ds=j3h (fin (run fu (evP fu G T n) G F.body (enter F ds))):=by simp only[evP,hF,if_pos hl,hlam,if_true]
     rw[e];obtain⟨y,ey,L⟩:=(hT x F hF).2 hlam;obtain⟨tx,N,ps,ex,htx,hsc,hN,hnn,hbd,hba,htr⟩:=L.ex;cases ho:fin (run fu (evP fu G T n) G F.body (enter F ds)) with
     |val d =>intro y' hy';have eyy:y=y':=j7v (ey.symm.trans hy');subst eyy;refine jee (k:=lv n+1) htx hsc (λds' d' h=>by rw[h.1,hl,hN]) hba λa c cl A outer s H hcl hr ds' d' ⟨e1,e2⟩=>?_;subst e1 e2;have ab:j8 (qp N ds')=enter F ds':=Wl hl (by rw[hN,hnn]);rw[hbd,<-ab]at ho;obtain⟨r,er,ed⟩:=jd8 ho;exact ed▸(sound (htr a c cl A outer s H) (Ys t rfl rfl rfl rfl rfl (U8 _) hr hsc.nd bK λz hz hq=>absurd (Mx hq▸hz) (j3i y)) (gok rfl rfl rfl rfl rfl hr) (qp N ds') r er).toT
     |fresh l=>trivial
     |err z=>trivial
     |lval z=>trivial
     |no=>trivial
    .have e:evP fu G T (n+1) x ds=.no:=by simp only[evP,hF,if_neg hl]
     rw[e];trivial
   |false =>
   obtain⟨st,f,fd,N,ps,hfun,hsc,hps,hN,hb,hdf,hm,hts⟩:=((hT x F hF).1 hlam).1.ex;refine⟨f,fd,ps,?_⟩;by_cases hl:ds.length=F.n
   .have e:evP fu G T (n+1) x ds=fin (run fu (evP fu G T n) G F.body (enter F ds)):=by simp only[evP,hF,if_pos hl,hlam,ph,if_false]
    have ab:j8 (qp N ds)=enter F ds:=Wl hl hN;cases ho:run fu (evP fu G T n) G F.body (enter F ds) with
    |next ρ' =>rw[e,ho];refine⟨Ds (k:=lv n+1) hfun hsc (λds' d' h=>by rw[h.1,hl,hps]) λcdv A outer s H E hcv hr ds' d' ⟨e1,e2⟩=>?_,hm,hfun.kp,hb,hdf⟩;subst e1 e2;refine Uq (fu:=fu) (hts cdv A outer s H E _) (Ys t rfl rfl rfl rfl rfl (U8 _) hr hsc.nd bK (Mm t hm hcv rfl rfl)) (gok rfl rfl rfl rfl rfl hr) (qp N ds') _ ?_;rw[ab,ho];exact λ_ _=>rfl
    |ret r =>
     rw[e,ho];cases r with
     |no=>trivial
     |lval d=>exact λy hy=>absurd (hy▸Lj y) ((hT x F hF).1 hlam).2
     |err y =>refine⟨j5o (k:=lv n+1) hfun hsc (λds' d' h=>by rw[h.1,hl,hps]) λcdv A outer s H E hcv hr ds' y' ⟨e1,e2⟩=>?_,hm,hfun.kp,hb⟩;subst e1 e2;refine Uq (X:=v9 (CX1 P w) P w K mg base N x (jb st) f cdv A outer s H E) (fu:=fu) (hts cdv A outer s H E (v9 (CX1 P w) P w K mg base N x (jb st) f cdv A outer s H E).xe) (Ys t rfl rfl rfl rfl rfl (U8 _) hr hsc.nd gx (Mm t hm hcv rfl rfl)) (gok rfl rfl rfl rfl rfl hr) (qp N ds') _ ?_;rw[ab,ho];intro z hz;cases z<;>cases hz
     |val d =>
      refine⟨Ds (k:=lv n+1) hfun hsc (λds' d' h=>by rw[h.1,hl,hps]) λcdv A outer s H E hcv hr ds' d' ⟨e1,e2⟩=>?_,hm,hfun.kp,hb,hdf⟩;subst e1 e2;refine Uq (fu:=fu) (hts cdv A outer s H E _) (Ys t rfl rfl rfl rfl rfl (U8 _) hr hsc.nd bK (Mm t hm hcv rfl rfl)) (gok rfl rfl rfl rfl rfl hr) (qp N ds') _ ?_;rw[ab,ho];intro y hy;cases y with
      |val d=>cases hy;rfl
      |fresh l=>cases hy
     |fresh l =>
      refine⟨j86 (k:=lv n+1) hfun hsc (λds' d' h=>by rw[h.1,hl,hps]) λcdv A outer s H E hcv hr ds' d' ⟨e1,e2⟩=>?_,hm,hfun.kp,hb,hdf⟩;subst e1 e2;refine Uq (fu:=fu) (hts cdv A outer s H E _) (Ys t rfl rfl rfl rfl rfl (U8 _) hr hsc.nd bK (Mm t hm hcv rfl rfl)) (gok rfl rfl rfl rfl rfl hr) (qp N ds') _ ?_;rw[ab,ho];intro y hy;cases y with
      |val d=>cases hy
      |fresh l=>cases hy;rfl
    |err y ρ' =>rw[e,ho];refine⟨j5o (k:=lv n+1) hfun hsc (λds' d' h=>by rw[h.1,hl,hps]) λcdv A outer s H E hcv hr ds' y' ⟨e1,e2⟩=>?_,hm,hfun.kp,hb⟩;subst e1 e2;refine Uq (X:=v9 (CX1 P w) P w K mg base N x (jb st) f cdv A outer s H E) (fu:=fu) (hts cdv A outer s H E (v9 (CX1 P w) P w K mg base N x (jb st) f cdv A outer s H E).xe) (Ys t rfl rfl rfl rfl rfl (U8 _) hr hsc.nd gx (Mm t hm hcv rfl rfl)) (gok rfl rfl rfl rfl rfl hr) (qp N ds') _ ?_;rw[ab,ho];exact λ_ _=>rfl
    |brk _=>rw[e,ho];trivial
    |cnt _=>rw[e,ho];trivial
    |no=>rw[e,ho];trivial
   .have e:evP fu G T (n+1) x ds=.no:=by simp only[evP,hF,if_neg hl]
    rw[e];trivial
end
noncomputable def Gof(gs:List (ah×D))(q:Bool)(xs:List (ah×List D))(fs:List ah)(x:ah):Option D :=
 if Vp x=a7 then(if x = "?" then(if q=a7 then a3 (.bl a7)else a6) else((xs.find? λp=>bang p.1==x).map λp=>.lst p.2).or (if (fs.any λf=>qm f==x)=a7 then a3 .non else a6))else gs.lookup x
theorem j90{x y:ah}(h:bang x=bang y):x=y:=by unfold bang at h;have h:(⟨("!":ah).cps++x.cps⟩:ah)=⟨("!":ah).cps++y.cps⟩:=h;have h:=congrArg ky h;have e:x.cps=y.cps:=gw h rfl;cases x;cases y;cases e;rfl
theorem j1i(x:ah):Vp (bang x)=a7:=by unfold Vp;rw[Rw];rfl
theorem j6k(x:ah):Vp (qm x)=a7:=by unfold Vp;rw[j1v];rfl
theorem j0d{gs:List (ah×D)}{q:Bool}{xs:List (ah×List D)}{fs:List ah}{x:ah}{d:D}(h:Gof gs q xs fs (bang x)=a3 d):∃p∈xs,p.1=x/\d=.lst p.2:=by
 unfold Gof at h;rw[if_pos (j1i x),if_neg (jc9 x)]at h;have hn:(fs.any λf=>qm f==bang x)=a4:=by rw[List.any_eq_false];intro f _ e;exact j2n x f (beq_iff_eq.mp e).symm
 rw[hn,if_neg (by decide),Option.or_none]at h;obtain⟨p,hp,rfl⟩:=Xv.mp h;have z:=List.find?_some (p:=λp:ah×List D=>bang p.1==bang x) hp;exact⟨p,List.mem_of_find?_eq_some hp,j90 (beq_iff_eq.mp z),rfl⟩
theorem j5l{gs:List (ah×D)}{q:Bool}{xs:List (ah×List D)}{fs:List ah}{x:ah}{d:D}(h:Gof gs q xs fs (qm x)=a3 d):x∈fs:=by
 unfold Gof at h;rw[if_pos (j6k x),if_neg (jh8 x)]at h;have hn:(xs.find? λp=>bang p.1==qm x)=a6:=by rw[List.find?_eq_none];intro p _ e;exact j2n p.1 x (beq_iff_eq.mp e)
 rw[hn,Option.map_none,Option.none_or]at h;split at h
 .rename_i z;obtain⟨f,hf,e⟩:=List.any_eq_true.mp z;exact jdf (beq_iff_eq.mp e)▸hf
 .cases h
theorem jgn{P:au}{w:ax}{K:k8o}{mg:k8r}{base:aA}{gs:List (ah×D)}{q:Bool}{xs:List (ah×List D)}{fs:List ah}(bt:∀x∈Rx,mg x=a6)
  (gl:∀x d,gs.lookup x=a3 d->∃u v,mg x=a3 u/\RelV v u/\∀H,Enc K H d v) (ea:Ky K=a7) (hx:∀p∈xs,p.1∈Jj/\∃o,W.nsIn K aq p.1=a3 (a3 o))
  (el:q=a7->∀c∈Jj,∃v,W.nsIn K aq c=a3 (a3 v)) (kin:K.In base) (ns:base.Ns aq mg) (fn:∀f∈fs,∃fa,mg f=a3 (.ref fa)/\W.keepIn K (.ref fa)=a7) (kd:∀p∈xs,KindsP P w K mg base "_law_kinds" p.1 p.2) (lm:∀x∈Zn,∀f cdv,mg x=a3 (.ref f)->M3 K f cdv->∃c Pt,cdv=.ref c/\W.codeHdIn K c Pt=a7/\W.tabIn K x=a3 (c,Pt)) (pl:("_law_plan":ah)∈fs->j6n P w K mg base:=by exact λh=>absurd h (by decide)):Tb P w K mg base (Gof gs q xs fs):=by
 refine⟨bt,λx d hb h=>?_,ea,λx d h=>?_,λh=>el ?_,kin,ns,λx l h=>?_,λf d h=>fn f (j5l h),λd h=>pl (j5l h),lm⟩
 .unfold Gof at h;rw[if_neg (by rw[hb];decide)]at h;exact gl x d h
 .obtain⟨p,hp,rfl,_⟩:=j0d h;exact hx p hp
 .unfold Gof at h;rw[if_pos (by decide),if_pos rfl]at h;split at h
  .rename_i z;exact z
  .cases h
 .obtain⟨p,hp,rfl,e⟩:=j0d h;cases e;exact kd p hp
def Ko(K:k8o):Sp:=λvs H Q _=>∃(a:aa)(ns:List Int),vs=[.ref a]/\TabOk K H/\SqL K H a (ns.map V.int)/\ns.length<=63/\∀H':Hp,j0 H H'->Q (.bl a7) H'
theorem j1c{K:k8o}{H:Hp}{a:aa}{ns:List Int}(h:SqL K H a (ns.map V.int)):j4 K H [.lst (ns.map D.int)] [.ref a] :=
 ⟨_,[],rfl,⟨a,_,rfl,h,j4.ints ns⟩,rfl⟩
theorem jed{P:au}{w:ax}{K:k8o}{mg:k8r}{base:aA}{fu:Nat}{G:ah->Option D}{T:ah->Option Fi}{n:Nat}{x p:ah}{fa:aa}{st:aX}{F:Fi}
  (hT:∀x F,T x=a3 F->LkF P w K mg base x F) (t:Tb P w K mg base G)
  (hx:T x=a3 F) (hlam:F.lam=a4) (hm:mg x=a3 (.ref fa)) {fd:aJ} (hfun:Fun K x x st fa fd) (N:List ah) (hsc:FnScope N [p] (jb st)) (h1:F.n=1) (hN:N.length=F.nn)
  (hts:∀(cdv:a8)(A:az)(outer:List dy)(s:af)(H:Hp)(E:XK)(xe:k8p),Ts ((v9 CX0 P w K mg base N x (jb st) fa cdv A outer s H E).wish xe) F.body (.ss (jn st)))
  (hlaw:∀ns:List Int,ns.length<=63->evP fu G T (n+1) x [.lst (ns.map D.int)]=.val (.bl a7)):FnOk P w K mg base CX0 (lv (n+1)) fa fd [p] (Ko K):=by
 have S:FnOk P w K mg base CX0 (lv (n+1)) fa fd [p] (spP K λds d=>∃ns:List Int,ns.length<=63/\ds=[.lst (ns.map D.int)]/\d=.bl a7):=by
  refine Ds (k:=lv n+1) hfun hsc (λds d ⟨ns,_,h,_⟩=>by rw[h];rfl) λcdv A outer s H E hcv hr ds d ⟨ns,hns,e1,e2⟩=>?_;subst e1 e2;have e:=hlaw ns hns;simp only[evP,hx,h1,hlam,ph,if_false,xq,t8,if_true]at e;have ab:j8 (qp N [D.lst (ns.map D.int)])=enter F [D.lst (ns.map D.int)]:=Wl (by rw[h1];rfl) hN;have g:Gok (v9 CX0 P w K mg base N x (jb st) fa cdv A outer s H E).nox (evP fu G T n):=λg ds'=>by
   obtain⟨f',fd',ps',q⟩:=N8 (fu:=fu) hT t n g ds';cases z:evP fu G T n g ds' with
   |val d=>rw[z]at q;exact⟨lv n,f',fd',ps',q.1,hr,q.2.1,q.2.2.1,q.2.2.2⟩
   |fresh l=>rw[z]at q;exact⟨lv n,f',fd',ps',q.1,hr,q.2.1,q.2.2.1,q.2.2.2⟩
   |err y=>rw[z]at q;exact⟨lv n,f',fd',ps',q.1,hr.mono (Py _),q.2.1,q.2.2.1,q.2.2.2⟩
   |lval d=>rw[z]at q;exact λy hy=>⟨lv n,hr.mono (Py _),q y hy⟩
   |no=>trivial
  refine Uq (fu:=fu) (hts cdv A outer s H E _) (Ys t rfl rfl rfl rfl rfl (U8 _) hr hsc.nd bK (Mm t hm hcv rfl rfl)) g (qp N _) _ ?_;rw[ab];cases ho:run fu (evP fu G T n) G F.body (enter F [D.lst (ns.map D.int)]) with
  |ret r =>
   rw[ho]at e;have e:r=.val (.bl a7):=e;subst e;intro y hy;cases y with
   |val d=>cases hy;rfl
   |fresh l=>cases hy
  |next ρ'=>rw[ho]at e;cases e
  |brk _=>rw[ho]at e;cases e
  |cnt _=>rw[ho]at e;cases e
  |err _ _=>rw[ho]at e;cases e
  |no=>rw[ho]at e;cases e
 refine S.imp λvs H Q E ⟨a,ns,hv,tb,hS,hl,k⟩=>?_;subst hv;exact⟨[],_,_,tb,(λa h=>nomatch h),by rw[Jk];exact j1c hS,⟨ns,hl,rfl,rfl⟩,λv H' g e=>by cases(show v=.bl a7 from e);exact k H' g⟩
noncomputable def Km(K:k8o):List (aa×ah):=Zn.filterMap λx=>(W.tabIn K x).map λq=>(q.2,jq x)
noncomputable def tOk(K:k8o)(ts:List aa):Bool:=(Zn.all λx=>match W.nsIn K aq x with
  |some a6=>a7
  |_=>match W.tabIn K x with
   |some (c,P)=>W.codeHdIn K c P&&ts.contains P
   |none=>a4)&&W.noTabs K&&decide ((Km K).map (·.1)).Nodup
theorem ja4{K:k8o}{ts:List aa}{h:aA}(hk:tOk K ts=a7)(X:K.In h)(ht:∀P∈ts,h.get? P=a3 (W.tabObj #[])):j93 (Km K) h:=by
 unfold tOk at hk;rw[Xi,Xi]at hk;refine⟨of_decide_eq_true hk.2,λt hm=>?_⟩;obtain⟨x,hx,e⟩:=Tc.mp hm;obtain⟨⟨c,P⟩,e1,e2⟩:=Xv.mp e;subst e2;have z:=T5.mp hk.1.1 x hx;split at z
 .rename_i y;exfalso;unfold W.tabIn at e1;rw[y]at e1;cases e1
 .rw[e1]at z;have z:(W.codeHdIn K c P&&ts.contains P)=a7:=z;rw[Xi]at z;exact⟨⟨c,W.codeHd_of_K X z.1⟩,ht P (by simpa using z.2)⟩
theorem jhg{K:k8o}{ts:List aa}{h:aA}{mg:k8r}(hk:tOk K ts=a7)(X:K.In h)(Gn:h.Ns aq mg):∀x∈Zn,∀f cdv,mg x=a3 (.ref f)->M3 K f cdv->∃c Pt,cdv=.ref c/\W.codeHdIn K c Pt=a7/\W.tabIn K x=a3 (c,Pt):=λx hx f cdv hm hcv=>by
 unfold tOk at hk;rw[Xi,Xi]at hk;have z:=T5.mp hk.1.1 x hx;split at z
 .rename_i y;rw[W.mg_none_of X Gn y]at hm;cases hm
 .split at z
  .rename_i c P e;rw[Xi]at z;refine⟨c,P,?_,z.1,e⟩;obtain⟨oc,od,fd,sl,e3,e4⟩:=hcv;unfold W.tabIn at e;split at e
   .rename_i f' hf;have e5:=W.mg_of X Gn hf;rw[hm]at e5;cases e5;rw[e3]at e;dsimp only at e;split at e
    .rename_i c' hc;split at e
     .split at e
      .cases e;rw[<-e4];exact hc
      .cases e
     .cases e
    .cases e
   .cases e
  .cases z
theorem jcq{K:k8o}{H:Hp}(hO:Only (Km K) H):TabOk K H:=λx hx c P e=>hO.2 (P,jq x) (Tc.mpr ⟨x,hx,by rw[e];rfl⟩)
theorem j52{K:k8o}{ts:List aa}(hk:tOk K ts=a7):W.noTabs K=a7:=by unfold tOk at hk;rw[Xi,Xi]at hk;exact hk.1.2
theorem walkL{l:d6}{q:au}{loose:List ah}{XP:(ah->Option a8)->aA->Prop}{YP:ax->aA->Prop}{d:DefRec}{K:lK->k8o}{k:Nat}{x:ah}{ts:List aa}(hk:k<=100)(hn:l.most=a3 63)(hdf:d.params.defaults=[])
  (hY:∀(w:ax)(h:aA),YP w h->(K w.params).In h/\∀P∈ts,h.get? P=a3 (W.tabObj #[])) (hK:∀w:ax,tOk (K w.params) ts=a7)
  (F:∀(w:ax)(mg:k8r)(fa:aa)(h:aA),(K w.params).In h->h.Ns aq mg->mg d.name=a3 (.ref fa)->tOk (K w.params) ts=a7 ->
   ∃fd:aJ,(∀(s:af)(u:a8),d5 s fd ⟨[u],[]⟩ [(x,u)])/\∀base:aA,(K w.params).In base->base.Ns aq mg->FnOk l.prog w (K w.params) mg base CX0 k fa fd [x] (Ko (K w.params))) :
  ib q loose XP YP l.row.toRowW d [] (λf vs=>ij f vs) :=
 L2.walk_of (n:=63) (k:=k) (x:=x) (CX:=λ_=>CX0) (sp:=λw=>Ko (K w.params)) (ts:=λw=>Km (K w.params)) hn (by decide) hdf
  (Room.mono (k:=100) ⟨rfl,by decide,by decide⟩ hk) (λw h Y=>⟨(hY w h Y).1,ja4 (hK w) (hY w h Y).1 (hY w h Y).2⟩) (λw=>j52 (hK w)) (λw mg fa h X G m=>F w mg fa h X G m (hK w)) (λw H a ns hl hO hS=>⟨a,ns,rfl,jcq hO,hS,hl,λH' g=>⟨rfl,g⟩⟩) λ_ _ _ _ _ z=>z
def Lf(K:k8o)(x:ah)(st:aX):Prop:=∃(f:aa)(oc:a8)(od:Option aa)(kV dc pm:a8)(an:Option aa)(cd ct:a8)(sl:Array (Option a8)),W.nsIn K aq x=a3 (a3 (.ref f)) /\
 K.lookup f=a3 ⟨oc,od,.func (W.fnOf x x (zj st) (jn st) (jb st) .none kV dc pm an cd ct),sl⟩/\W.codeIn K cd x=a7/\W.keepIn K (.ref f)=a7
def Lfd(K:k8o)(x:ah)(st:aX):Prop:=∃(f:aa)(oc:a8)(od:Option aa)(kV dc pm:a8)(an:Option aa)(cd ct:a8)(sl:Array (Option a8)) (dt:aa) (n:Nat) (ts:Array (Option a8)),W.nsIn K aq x=a3 (a3 (.ref f)) /\
 K.lookup f=a3 ⟨oc,od,.func (W.fnOf x x (zj st) (jn st) (jb st) (.ref dt) kV dc pm an cd ct),sl⟩/\W.codeIn K cd x=a7/\W.keepIn K (.ref f)=a7/\K.lookup dt=a3 ⟨.type "tuple",a6,.seq #[.none] n,ts⟩
def TrT(P:au)(w:ax)(K:k8o)(mg:k8r)(base:aA)(x:ah)(N:List ah)(st:aX)(b:Sx):Prop :=
 ∀(f:aa)(cdv:a8)(A:az)(outer:List dy)(s:af)(H:Hp)(E:XK) (xe:k8p),Ts ((v9 CX0 P w K mg base N x (jb st) f cdv A outer s H E).wish xe) b (.ss (jn st))
noncomputable def lamT(st:aX):Tx:=(Wz (jn st)).getD ({ posonlyargs:=[],args:=[],vararg:=a6,kwonlyargs:=[],kw_defaults:=[],kwarg:=a6,defaults:=[] },.Name "" ⟨0,0,0,0⟩,{ kind:=.function,names:=[],isGenerator:=a4,isCoroutine:=a4 })
def TrL(P:au)(w:ax)(K:k8o)(mg:k8r)(base:aA)(x:ah)(N:List ah)(t:Tx)(e:Ex):Prop :=
 ∀(a c:aa)(cl:List (ah×aa)) (A:az) (outer:List dy) (s:af) (H:Hp),Tr (Ua P w K mg base N (jq x) t.2.2 a (.ref c) cl A outer s H) e (.e t.2.1)
theorem jbf{sc:aY}(x:ah)(h:sc.names.lookup x=a3 .free):x∈zf sc:=by unfold zf;rw[List.mem_reverse];exact X5.mpr ⟨(x,.free),Xl.mpr ⟨lookup_mem h,rfl⟩,rfl⟩
noncomputable def bOk(K:k8o):Bool:=Rx.all λx=>match W.nsIn K aq x with
 |some a6=>a7
 |_=>a4
section
variable{P:au}{w:ax}{K:k8o}{mg:k8r}{base h:aA}{x:ah}{st:aX}{N ps:List ah}{F:Fi}
theorem ji5(X:K.In h)(Gn:h.Ns aq mg)(hb:bOk K=a7):∀x∈Rx,mg x=a6:=λx hx=>by
 have z:=T5.mp hb x hx;split at z
 .rename_i e;exact W.mg_none_of X Gn e
 .cases z
theorem jz(L:Lf K x st)(X:K.In h)(Gn:h.Ns aq mg)(t:TrT P w K mg base x N st F.body)(ps:List ah)(sc:FnScope N ps (jb st))(h1:ps.length=F.n)(h2:N.length=F.nn)
  (hb:∀(kV doc pm:a8)(an:Option aa)(cdv ct:a8)(us:List a8),us.length=ps.length->eT (W.fnOf x x (zj st) (jn st) (jb st) .none kV doc pm an cdv ct) ⟨us,[]⟩=pure (ps.zip us)) (hd:x∉j3q):Lk P w K mg base x F:=by
 obtain⟨f,oc,od,kV,dc,pm,an,cd,ct,sl,a,l,c,k⟩:=L;exact⟨st,f,_,N,ps,Nu l c k,sc,h1,h2,(Nu l c k).binds hb,λz=>absurd z hd,W.mg_of X Gn a,t f⟩
theorem jec(L:Lfd K x st)(X:K.In h)(Gn:h.Ns aq mg)(t:TrT P w K mg base x N st F.body)(ps:List ah)(sc:FnScope N ps (jb st))(h1:ps.length=F.n)(h2:N.length=F.nn)(h3:0<ps.length)
  (hb:∀(dt:aa)(n:Nat)(ts:Array (Option a8)) (kV doc pm:a8) (an:Option aa) (cdv ct:a8) (s:af),K.In s.heap->K.lookup dt=a3 ⟨.type "tuple",a6,.seq #[.none] n,ts⟩ ->
   (∀us:List a8,us.length=ps.length->d5 s (W.fnOf x x (zj st) (jn st) (jb st) (.ref dt) kV doc pm an cdv ct) ⟨us,[]⟩ (ps.zip us)) /\
   (∀us:List a8,us.length+1=ps.length->d5 s (W.fnOf x x (zj st) (jn st) (jb st) (.ref dt) kV doc pm an cdv ct) ⟨us,[]⟩ (ps.zip (us++[.none]))) /\
   ∀(us:List a8)(v:a8),us.length+1=ps.length->d5 s (W.fnOf x x (zj st) (jn st) (jb st) (.ref dt) kV doc pm an cdv ct) ⟨us,[("prices",v)]⟩ (ps.zip (us++[v]))):Lk P w K mg base x F:=by
 obtain⟨f,oc,od,kV,dc,pm,an,cd,ct,sl,dt,n,ts,a,l,c,k,td⟩:=L;refine⟨st,f,_,N,ps,Nu l c k,sc,h1,h2,λs us hK hl=>?_,λ_=>⟨λs us hK hl=>?_,jhm h3 λs us v hK hl=>(hb dt n ts kV dc pm an cd ct s hK td).2.2 us v hl⟩,W.mg_of X Gn a,t f⟩
 .rw[Xn]at hl ⊢;exact(hb dt n ts kV dc pm an cd ct s hK td).1 us hl
 .exact(hb dt n ts kV dc pm an cd ct s hK td).2.1 us (by rw[Xb]at hl;exact hl)
theorem V5(L:Lf K x st):Q3 K x=Wz (jn st):=by obtain⟨f,oc,od,kV,dc,pm,an,cd,ct,sl,a,l,c,k⟩:=L;unfold Q3;rw[a];dsimp only;rw[l]
theorem lkF(L:Lk P w K mg base x F)(h:F.lam=a4)(hn:x.cps.toList.getLast?≠a3 62):LkF P w K mg base x F:=⟨λ_=>⟨L,hn⟩,λz=>by rw[h]at z;cases z⟩
theorem j08{e:Ex}{q:ah}(hq:q=jq x)(h:Q3 K x=Wz (jn st))(ht:Wz (jn st)=a3 (lamT st))(tr:TrL P w K mg base x N (lamT st) e)(ps:List ah)(sc:LamScope N ps (lamT st).2.2)(h1:N.length=F.n)(h2:F.nn=F.n)(hb:F.body=.ret e)(hl:F.lam=a7)
  (ha:∀(cl:List (ah×aa)) (pm:a8) (c:aa) (ctv:a8) (us:List a8),us.length=ps.length->eT (W.kla_fn "<lambda>" (jq x) (lamT st).1 (lamT st).2.1 (lamT st).2.2 cl pm (.ref c) ctv) ⟨us,[]⟩=pure (ps.zip us)):LkF P w K mg base q F :=
 ⟨λz=>by(rw[hl]at z;cases z),λ_=>⟨x,hq,⟨lamT st,N,ps,e,h.trans ht,sc,h1,h2,hb,ha,tr⟩⟩⟩
theorem us1{us:List a8}(h:us.length=1):∃a,us=[a]:=by match us,h with|[a],_=>exact⟨a,rfl⟩
theorem us2{us:List a8}(h:us.length=2):∃a b,us=[a,b]:=by match us,h with|[a,b],_=>exact⟨a,b,rfl⟩
theorem us3{us:List a8}(h:us.length=3):∃a b c,us=[a,b,c]:=by match us,h with|[a,b,c],_=>exact⟨a,b,c,rfl⟩
theorem us5{us:List a8}(h:us.length=5):∃a b c d e,us=[a,b,c,d,e]:=by match us,h with|[a,b,c,d,e],_=>exact⟨a,b,c,d,e,rfl⟩
end
theorem lf_mk{K:k8o}{x:ah}{st:aX}{f:aa}{oc:a8}{od:Option aa}{kV dc pm:a8}{an:Option aa}{cd ct:a8}{sl:Array (Option a8)}(a:W.nsIn K aq x=a3 (a3 (.ref f)))
  (l:K.lookup f=a3 ⟨oc,od,.func (W.fnOf x x (zj st) (jn st) (jb st) .none kV dc pm an cd ct),sl⟩) (c:W.codeIn K cd x=a7) (k:W.keepIn K (.ref f)=a7):Lf K x st:=⟨f,oc,od,kV,dc,pm,an,cd,ct,sl,a,l,c,k⟩
theorem lfd_mk{K:k8o}{x:ah}{st:aX}{f:aa}{oc:a8}{od:Option aa}{kV dc pm:a8}{an:Option aa}{cd ct:a8}{sl:Array (Option a8)}{dt:aa}{n:Nat}{ts:Array (Option a8)}(a:W.nsIn K aq x=a3 (a3 (.ref f)))
  (l:K.lookup f=a3 ⟨oc,od,.func (W.fnOf x x (zj st) (jn st) (jb st) (.ref dt) kV dc pm an cd ct),sl⟩) (c:W.codeIn K cd x=a7) (k:W.keepIn K (.ref f)=a7) (t:K.lookup dt=a3 ⟨.type "tuple",a6,.seq #[.none] n,ts⟩):Lfd K x st:=⟨f,oc,od,kV,dc,pm,an,cd,ct,sl,dt,n,ts,a,l,c,k,t⟩
end L2
end
section
namespace L2
open PySem (Str sizeLine argBest)
theorem zy{n:Nat}(h:n<=1000000):n<=ak:=Xg h (by decide)
theorem lt_size{n:Nat}(h:n<=1000000):n<ak:=c8 h (by decide)
noncomputable def W0(o:So)(f:En->So):So:=match o with
 |.next ρ=>f ρ
 |o=>o
noncomputable def ifS(c:Option Bool)(f g:En->So)(ρ:En):So:=match c with
 |some a7=>f ρ
 |some a4=>g ρ
 |none=>.no
noncomputable def Fg(is:List Nat)(f:En->So)(d:D)(ρ:En):So:=match qz is d ρ with
 |some ρ2=>f ρ2
 |none=>.no
noncomputable def j9l(is:List Nat)(w:Option W)(f:En->So)(ρ:En):So:=match w with
 |some (.i ds)=>Ja (Fg is f) ds ρ
 |_=>.no
section
variable{fu:Nat}{Γ:ah->List D->Rc}{G:ah->Option D}{ρ:En}{i j:Nat}{e c k:Ex}{a b:Sx}{is:List Nat}
theorem jae:run fu Γ G .nop ρ=.next ρ:=(rfl)
theorem jac:run fu Γ G (.seq a b) ρ=W0 (run fu Γ G a ρ) (run fu Γ G b):=(rfl)
theorem jab:run fu Γ G (.set i e) ρ=orE (Ol i (ev Γ G e ρ) ρ) (er Γ G e ρ) ρ:=(rfl)
theorem jaf:run fu Γ G (.mov i j) ρ=Dm i j ρ[j]? ρ:=(rfl)
theorem j79:run fu Γ G (.expr e) ρ=orE (j0f (ev Γ G e ρ) ρ) (er Γ G e ρ) ρ:=(rfl)
theorem jad:run fu Γ G (.ret e) ρ=orE (retS (ev Γ G e ρ)) (er Γ G e ρ) ρ:=(rfl)
theorem j7j{ρ':En}{x:Option ah}:orE (.next ρ') x ρ=.next ρ':=(rfl)
theorem j21{r:Rc}{x:Option ah}:orE (.ret r) x ρ=.ret r:=(rfl)
theorem j74:run fu Γ G (.retV i) ρ=M7 ρ[i]?:=(rfl)
theorem jag:run fu Γ G (.ife c a b) ρ=ifS (truth (ev Γ G c ρ)) (run fu Γ G a) (run fu Γ G b) ρ:=(rfl)
theorem j77:run fu Γ G (.loop is e a) ρ=j9l is (ev Γ G e (frz e ρ)) (run fu Γ G a) (frz e ρ):=(rfl)
theorem jaj:run fu Γ G (.app i e) ρ=Cj i ρ[i]? (ev Γ G e ρ) ρ:=(rfl)
theorem jai:run fu Γ G (.ext i e) ρ=Dw i ρ[i]? (ev Γ G e ρ) ρ:=(rfl)
theorem jct{d:D}:stOf (a3 (.v (.e d)))=a3 d:=(rfl)
theorem j78:run fu Γ G (.keep i) ρ=Nh i ρ[i]? ρ:=(rfl)
theorem j5e{l:List D}:Nh i (a3 (.own l)) ρ=.next (ρ.set i (.val (.lst l))):=(rfl)
theorem j75{x:ah}:run fu Γ G (.retL x is) ρ=N6 x (Jz ρ is):=(rfl)
theorem jao{x:ah}{ds:List D}:N6 x (a3 ds)=.ret (.val (.fn x ds)):=(rfl)
noncomputable def jfl(s:Option Sv)(v:Option (List D)):Option (List D):=match s,v with
 |some (.val d),a3 ds=>a3 (d::ds)
 |_,_=>a6
theorem j2u:Jz ρ []=a3 []:=(rfl)
theorem j11:Jz ρ (i::is)=jfl ρ[i]? (Jz ρ is):=(rfl)
theorem jfk{d:D}{ds:List D}:jfl (a3 (.val d)) (a3 ds)=a3 (d::ds):=(rfl)
theorem j76{f x:ah}{a b:Ex}:run fu Γ G (.retC f x a b is) ρ=N7 Γ f x (Jz ρ is) (ev Γ G a ρ) (ev Γ G b ρ):=(rfl)
theorem jap{f x:ah}{ds:List D}{d d':D}:N7 Γ f x (a3 ds) (a3 (.v (.e d))) (a3 (.v (.e d')))=Kp (Γ f [d,d',.fn x ds]):=(rfl)
theorem j1u{d:D}(h:noFn d=a7):Kp (.val d)=.ret (.val d):=if_pos h
theorem Cy{x t y:Nat}{it e1 e2:Ex}{ds:List D}{r:List (List Int)×List Int}(hc:x<ρ.length/\t<ρ.length/\y<ρ.length/\x≠t/\x≠y/\t≠y)(hi:ev Γ G it (ρ.set x .un)=a3 (.i ds))(hd:Vk (λρ=>stOf (ev Γ G e1 ρ)) (λρ=>stOf (ev Γ G e2 ρ)) x t y ds (ρ.set x .un) [] []=a3 r) :
  run fu Γ G (.nmake x t y it e1 e2) ρ=.ret (.val (.dct r.1 (r.2.map D.int))):=by rw[j2q,if_pos hc,hi];dsimp only;rw[hd]
theorem jah:run fu Γ G (.fgt i) ρ=.next (ρ.set i .un):=(rfl)
end
section
variable{f g:En->So}{ρ:En}{i j:Nat}{d:D}{l m:List D}{r:Rc}{x:Rk}
theorem j4d:W0 (.next ρ) f=f ρ:=(rfl)
theorem Eh:W0 (.ret r) f=.ret r:=(rfl)
theorem jhs:ifS (a3 a7) f g ρ=f ρ:=(rfl)
theorem jht:ifS (a3 a4) f g ρ=g ρ:=(rfl)
theorem jcz:Ol i (a3 (.v (.o l))) ρ=.next (ρ.set i (.own l)):=(rfl)
theorem jd0:Ol i (a3 (.v (.e d))) ρ=.next (ρ.set i (.val d)):=(rfl)
theorem jda:retS (a3 (.v (.o l)))=.ret (.fresh l):=(rfl)
theorem j4l:retS (a3 (.v (.e d)))=.ret (.val d):=(rfl)
theorem jd9:retS (a3 (.v (.t d)))=.ret (.val d):=(rfl)
theorem jan:M7 (a3 (.own l))=.ret (.fresh l):=(rfl)
theorem jam:M7 (a3 (.val d))=.ret (.val d):=(rfl)
theorem je7(h:i≠j):Dm i j (a3 (.own l)) ρ=.next ((ρ.set j .un).set i (.own l)):=if_neg h
theorem je6:Dm i j (a3 (.val d)) ρ=.next (ρ.set i (.val d)):=(rfl)
theorem jf0:j0f (a3 (.v x)) ρ=.next ρ:=(rfl)
theorem zm:Fg [i] f d ρ=f (ρ.set i (.val d)):=(rfl)
theorem jc8{a b:D}:Fg [i,j] f (.tup [a,b]) ρ=f ((ρ.set i (.val a)).set j (.val b)):=(rfl)
theorem jbd{is:List Nat}{ds:List D}:j9l is (a3 (.i ds)) f ρ=Ja (Fg is f) ds ρ:=(rfl)
theorem jg0(h:l.length<=1000000):Cj i (a3 (.own l)) (a3 (.v (.e d))) ρ=.next (ρ.set i (.own (l++[d]))):=by simp[Cj,Rk.st,lt_size h]
theorem jez(h:l.length+m.length<=1000000):Dw i (a3 (.own l)) (a3 (.v (.o m))) ρ=.next (ρ.set i (.own (l++m))):=by simp[Dw,jk,zy h]
theorem j2b:fin (.ret r)=r:=(rfl)
theorem j87:fin (.next ρ)=.val .non:=(rfl)
theorem jl{fu:Nat}{G:ah->Option D}{T:ah->Option Fi}{n:Nat}{f:ah}{ds:List D}{F:Fi}(h:T f=a3 F)(hl:ds.length=F.n)(hla:F.lam=a4:=by rfl):evP fu G T (n+1) f ds=fin (run fu (evP fu G T n) G F.body (enter F ds)):=by simp only[evP,h,if_pos hl,hla,ph,if_false]
theorem Dy{fu:Nat}{G:ah->Option D}{T:ah->Option Fi}{n:Nat}{f:ah}{ds:List D}{F:Fi}(h:T f=a3 F)(hl:ds.length=F.n)(hla:F.lam=a7:=by rfl):evP fu G T (n+1) f ds=j3h (fin (run fu (evP fu G T n) G F.body (enter F ds))):=by simp only[evP,h,if_pos hl,hla,if_true]
theorem jef:j3h (.val d)=.lval d:=(rfl)
end
theorem Qd{f:D->En->So}(W:Nat->En->Prop):∀{ds:List D}{ρ:En}{k:Nat},W k ρ->(∀i d ρ,ds[i]?=a3 d->W (k+i) ρ->∃ρ',f d ρ=.next ρ'/\W (k+i+1) ρ')->∃ρ',Ja f ds ρ=.next ρ'/\W (k+ds.length) ρ'
 |[],ρ,k,h0,_=>⟨ρ,rfl,h0⟩
 |d::ds,ρ,k,h0,hs=>by
  obtain⟨ρ1,e1,w1⟩:=hs 0 d ρ rfl h0;obtain⟨ρ2,e2,w2⟩:=Qd (f:=f) W (ds:=ds) (k:=k+1) w1 λi d' ρ' hi w=>by have:=hs (i+1) d' ρ' (by simpa using hi) (by rw[show k+(i+1)=k+1+i by omega];exact w);rw[show k+(i+1)+1=k+1+i+1 by omega]at this;exact this
  refine⟨ρ2,?_,by rw[xq,show k+(ds.length+1)=k+1+ds.length by omega];exact w2⟩;rw[Ja,e1];exact e2
theorem Ox{f:D->En->So}(W:Nat->En){ds:List D}{ρ:En}(h0:ρ=W 0)(hs:∀i d,ds[i]?=a3 d->f d (W i)=.next (W (i+1))):Ja f ds ρ=.next (W ds.length):=by
 obtain⟨ρ',e,w⟩:=Qd (f:=f) (λi ρ=>ρ=W i) (k:=0) (ds:=ds) (ρ:=W 0) rfl λi d ρ hi w=>⟨W (0+i+1),by rw[w,Pa];exact hs i d hi,rfl⟩
 rw[h0,e,w,Pa]
theorem Qa{f:D->En->So}{ds:List D}{ρ:En}{g:En->So}{r:Rc}(W:Nat->En->Prop)(h0:W 0 ρ)(hs:∀i d ρ,ds[i]?=a3 d->W i ρ->∃ρ',f d ρ=.next ρ'/\W (i+1) ρ')(hk:∀ρ',W ds.length ρ'->fin (g ρ')=r) :
  fin (W0 (Ja f ds ρ) g)=r:=by
 obtain⟨ρ',e,w⟩:=Qd (f:=f) W (k:=0) (ds:=ds) (ρ:=ρ) h0 λi d ρ hi w=>by rw[Pa]at w ⊢;exact hs i d ρ hi w
 rw[e];rw[Pa]at w;exact hk ρ' w
theorem Cw{f:D->En->So}{ds:List D}{ρ:En}{g:En->So}{Q:En->Prop}(W:Nat->En->Prop)(h0:W 0 ρ)(hs:∀i d ρ,ds[i]?=a3 d->W i ρ->∃ρ',f d ρ=.next ρ'/\W (i+1) ρ')
  (hk:∀ρ',W ds.length ρ'->∃ρ2,g ρ'=.next ρ2/\Q ρ2):∃ρ2,W0 (Ja f ds ρ) g=.next ρ2/\Q ρ2:=by
 obtain⟨ρ',e,w⟩:=Qd (f:=f) W (k:=0) (ds:=ds) (ρ:=ρ) h0 λi d ρ hi w=>by rw[Pa]at w ⊢;exact hs i d ρ hi w
 rw[e];rw[Pa]at w;exact hk ρ' w
noncomputable def j9p(d:Option D):Option W:=d.map λd=>.v (.e d)
noncomputable def j80(i:Option Int):Option W:=i.map λk=>.v (.e (.int k))
noncomputable def jeu(a:Option W):Option W:=match a with
 |some (.v x)=>a3 (.v (.e (.bl x.d.isNon)))
 |_=>a6
noncomputable def orW(k:Option Bool)(f:En->Option W)(ρ:En):Option W:=match k with
 |some a7=>a3 (.v (.e (.bl a7)))
 |some a4=>blW (truth (f ρ))
 |none=>a6
noncomputable def je4(k:Option Bool):Option W:=k.map λk=>.v (.e (.bl (!k)))
noncomputable def stW(a:Option W):Option W:=match a with
 |some (.v x)=>x.st.map λd=>.v (.e d)
 |_=>a6
noncomputable def j7z(k:Option Bool)(f g:En->Option W)(ρ:En):Option W:=match k with
 |some a7=>stW (f ρ)
 |some a4=>stW (g ρ)
 |none=>a6
noncomputable def slW(a:Option W)(l h:Option (Option Int)):Option W:=match a,l,h with
 |some (.v x),a3 l,a3 h=>match x.sq with
  |some (a7,ds)=>a3 (.v (.o (cutD ds l h)))
  |some (a4,ds)=>if HT.sIx ds.length 0 l=0/\HT.sIx ds.length ds.length h=ds.length then a6 else a3 (.v (.e (.tup (cutD ds l h))))
  |none=>match x.d with
   |.str z=>if jk z.length=a7 then a3 (.v (.e (.str (bD z l h))))else a6
   |_=>a6
 |_,_,_=>a6
noncomputable def Qn(is:List Nat)(c e:En->Option W)(ρ:En)(d:D):Option (Option D):=match qz is d ρ with
 |none=>a6
 |some ρ2=>match c ρ2 with
  |some (.a [])=>match e ρ2 with
   |some (.v x)=>x.st.map a3
   |_=>a6
  |some (.a [y])=>match y.d with
   |.bl a7=>match e ρ2 with
    |some (.v x)=>x.st.map a3
    |_=>a6
   |.bl a4=>a3 a6
   |_=>a6
  |_=>a6
noncomputable def j3r(is:List Nat)(w:Option W)(c e:En->Option W)(z:Bool)(ρ:En):Option W:=match w with
 |some (.i ds)=>if Kw is ρ=a7/\jk ds.length=a7 then(Jw (Qn is c e ρ) ds).bind λl=>if (z && !qy l)=a7 then a6 else a3 (.v (.o l))else a6
 |_=>a6
section
variable{Γ:ah->List D->Rc}{G:ah->Option D}{ρ:En}{a b c e:Ex}{op:Bop}{cp:Cop}{x f:ah}{i:Nat}{d:D}
theorem jf9:ev Γ G (.lit d) ρ=a3 (.v (.e d)):=(rfl)
theorem jf1:ev Γ G (.var i) ρ=Ft ρ[i]?:=(rfl)
theorem jbs:ev Γ G (.glob x) ρ=j9p (G x):=(rfl)
theorem jff:ev Γ G (.bin op a b) ρ=Jm op (ev Γ G a ρ) (ev Γ G b ρ):=(rfl)
theorem jf7:ev Γ G (.neg a) ρ=j06 (ev Γ G a ρ):=(rfl)
theorem jfc:ev Γ G (.cmp cp a b) ρ=Ca cp (ev Γ G a ρ) (ev Γ G b ρ):=(rfl)
theorem jfb:ev Γ G (.isN a) ρ=jeu (ev Γ G a ρ):=(rfl)
theorem ji0:ev Γ G (.or a b) ρ=orW (truth (ev Γ G a ρ)) (ev Γ G b) ρ:=(rfl)
theorem jf5:ev Γ G (.not a) ρ=je4 (truth (ev Γ G a ρ)):=(rfl)
theorem jfa:ev Γ G (.ite c a b) ρ=j7z (truth (ev Γ G c ρ)) (ev Γ G a) (ev Γ G b) ρ:=(rfl)
theorem jf6:ev Γ G .nil ρ=a3 (.a []):=(rfl)
theorem jbv:ev Γ G (.cons a b) ρ=consW (ev Γ G a ρ) (ev Γ G b ρ):=(rfl)
theorem jf2:ev Γ G (.tup a) ρ=Yd (ev Γ G a ρ):=(rfl)
theorem jf8:ev Γ G (.lst a) ρ=Ym (ev Γ G a ρ):=(rfl)
theorem ji1:ev Γ G (.ix a b) ρ=ixW (ev Γ G a ρ) (ev Γ G b ρ):=(rfl)
theorem jhz:ev Γ G (.sl a b c) ρ=slW (ev Γ G a ρ) (Qj (ev Γ G b ρ)) (Qj (ev Γ G c ρ)):=(rfl)
theorem jbr{sep:ah}:ev Γ G (.join sep a) ρ=Mp sep (ev Γ G a ρ):=(rfl)
theorem jf3:ev Γ G (.tix a b) ρ=De (ev Γ G a ρ) (ev Γ G b ρ):=(rfl)
theorem jbq:ev Γ G (.lset a) ρ=Ml (ev Γ G a ρ):=(rfl)
theorem jfd{b c:Ex}:ev Γ G (.chn a b c) ρ=j0q (ev Γ G a ρ) (ev Γ G b ρ) (ev Γ G c ρ):=(rfl)
theorem jfq{i j k:Int}:j0q (a3 (.v (.e (.int i)))) (a3 (.v (.e (.int j)))) (a3 (.v (.e (.int k))))=a3 (.v (.e (.bl (decide (i<j)&&decide (j<k))))):=(rfl)
theorem j8c:ev Γ G (.callV i a) ρ=Ux Γ ρ[i]? (ev Γ G a ρ):=(rfl)
theorem j0u{cs:List D}{u v:D}(h:vg [u,v]=a7):Ux Γ (a3 (.val (.fn x cs))) (a3 (.a [.e u,.e v]))=(Γ (jq x) (cs++[u,v])).lv:=if_pos h
theorem j8p{cs:List D}{u v w:D}(h:vg [u,v,w]=a7):Ux Γ (a3 (.val (.fn x cs))) (a3 (.a [.e u,.e v,.e w]))=(Γ (jq x) (cs++[u,v,w])).lv:=if_pos h
theorem jjd:(Rc.lval d).lv=a3 (.v (.e d)):=(rfl)
theorem jbu:ev Γ G (.dget a b) ρ=Mr (ev Γ G a ρ) (ev Γ G b ρ):=(rfl)
theorem j8b:ev Γ G (.dvals a) ρ=Ro (ev Γ G a ρ):=(rfl)
theorem j8i{ks:List (List Int)}{ds:List D}:Ro (a3 (.v (.e (.dct ks ds))))=a3 (.v (.e (.tup ds))):=(rfl)
theorem jbo:ev Γ G (.minT a) ρ=U7 (ev Γ G a ρ):=(rfl)
noncomputable def rcV:Rc->Option W
 |.val d=>a3 (.v (.e d))
 |_=>a6
noncomputable def j6g(Γ:ah->List D->Rc)(f:ah)(a:Option W):Option W:=match a with
 |some (.a rs)=>match zp rs with
  |some ds=>rcV (Γ f (ds++[.non]))
  |none=>a6
 |_=>a6
theorem j8d{f:ah}:ev Γ G (.callD f a) ρ=j6g Γ f (ev Γ G a ρ):=(rfl)
theorem jh5{d:D}:rcV (.val d)=a3 (.v (.e d)):=(rfl)
theorem j8q{f:ah}{x:D}:j6g Γ f (a3 (.a [.e x]))=rcV (Γ f [x,.non]):=(rfl)
theorem jbt:ev Γ G (.enum a) ρ=Mq (ev Γ G a ρ):=(rfl)
theorem jbx:ev Γ G (.call f a) ρ=Qq Γ f (ev Γ G a ρ):=(rfl)
theorem jfe{f:Bf}:ev Γ G (.blt f a) ρ=vz f (ev Γ G a ρ):=(rfl)
theorem jbp{m:Mf}:ev Γ G (.meth m a b) ρ=Mj m (ev Γ G a ρ) (ev Γ G b ρ):=(rfl)
theorem jbw{is:List Nat}:ev Γ G (.comp is e a c) ρ=j3r is (ev Γ G a (frz a ρ)) (ev Γ G c) (ev Γ G e) (J4 a ρ) (frz a ρ):=(rfl)
theorem jf4:ev Γ G (.seq a) ρ=Om (ev Γ G a ρ):=(rfl)
theorem j8a:ev Γ G (.range a) ρ=Us (ev Γ G a ρ):=(rfl)
end
section
variable{x y:Rk}{d:D}{i j k:Int}{l m:List D}{b:Bool}{f g:En->Option W}{ρ:En}{xs:List Rk}{op:Bop}{cp:Cop}
theorem jci:Ft (a3 (.val d))=a3 (.v (.e d)):=(rfl)
theorem jcj:Ft (a3 (.own l))=a3 (.v (.w l)):=(rfl)
theorem jbn:j9p (a3 d)=a3 (.v (.e d)):=(rfl)
theorem jev:j80 (a3 i)=a3 (.v (.e (.int i))):=(rfl)
theorem ji6:blW (a3 b)=a3 (.v (.e (.bl b))):=(rfl)
theorem jfy:Jm op (a3 (.v (.e (.int i)))) (a3 (.v (.e (.int j))))=j80 (binI op i j):=by simp only[Jm,Vx,Rk.d,j80,rkW];cases binI op i j<;>rfl
theorem j8z:binI .add i j=a3 (i+j):=(rfl)
theorem j8u:binI .sub i j=a3 (i-j):=(rfl)
theorem j8x(h:(-18446744073709551616<i/\i<18446744073709551616)\/(-18446744073709551616<j/\j<18446744073709551616)):binI .mul i j=a3 (i*j):=if_pos h
theorem j6j(h:0<j/\j<18446744073709551616):binI .fdiv i j=a3 (i/j):=if_pos h
theorem j8y(h:0<j):binI .mod i j=a3 (i%j):=if_pos h
theorem j8w(h:0<=j/\j<=1000000/\i.natAbs<18446744073709551616):binI .pow i j=a3 (i^j.toNat):=if_pos h
theorem j8v(h:0<=j/\j<=1000000/\i.natAbs<18446744073709551616):binI .shl i j=a3 (i*2^j.toNat):=if_pos h
theorem jfw(h:l.length+m.length<=1000000):Jm .add (a3 (.v (.o l))) (a3 (.v (.o m)))=a3 (.v (.o (l++m))):=by simp[Jm,Vx,Rk.d,Rk.sq,jk,zy h,rkW]
theorem jfv(h:l.length+m.length<=1000000):Jm .add (a3 (.v (.o l))) (a3 (.v (.w m)))=a3 (.v (.o (l++m))):=by simp[Jm,Vx,Rk.d,Rk.sq,jk,zy h,rkW]
theorem jfs(h:l.length+m.length<=1000000):Jm .add (a3 (.v (.w l))) (a3 (.v (.o m)))=a3 (.v (.o (l++m))):=by simp[Jm,Vx,Rk.d,Rk.sq,jk,zy h,rkW]
theorem jft(h:l.length+m.length<=1000000):Jm .add (a3 (.v (.e (.tup l)))) (a3 (.v (.e (.tup m))))=a3 (.v (.e (.tup (l++m)))):=by simp[Jm,Vx,Rk.d,Rk.sq,jk,zy h,rkW]
theorem jh2(h:-9223372036854775808<=k/\k<9223372036854775808)(h2:l.length*k.toNat<=1000000):Jm .mul (a3 (.v (.o l))) (a3 (.v (.e (.int k))))=a3 (.v (.o (ae k.toNat l).flatten)):=by simp only[Jm,Vx,Rk.d,Rk.sq,Rk.lw];rw[if_pos ⟨h.1,h.2,decide_eq_true (zy h2)⟩];rfl
theorem jdb(h:1<=k/\k<=1000000):Jm .mul (a3 (.v (.e (.tup [d])))) (a3 (.v (.e (.int k))))=a3 (.v (.e (.tup (ae k.toNat d)))):=by simp only[Jm,Vx,Rk.d,Rk.sq];rw[if_pos ⟨h.1,by omega,rfl,decide_eq_true (zy (by simp only[xq,t8];omega))⟩];simp only[rkW,Option.map,List.flatten_replicate_singleton]
theorem je5:j06 (a3 (.v (.e (.int i))))=a3 (.v (.e (.int (-i)))):=(rfl)
theorem jfm:Ca cp (a3 (.v x)) (a3 (.v y))=blW (Wf cp x.d y.d):=(rfl)
theorem d_e:(Rk.e d).d=d:=(rfl)
theorem jfn:Wf cp (.int i) (.int j)=cmpI cp i j:=by cases cp<;>rfl
theorem j62(h:i<j):cmpI .lt i j=a3 a7:=by simp[cmpI,h]
theorem j63(h:j<=i):cmpI .lt i j=a3 a4:=by simp[cmpI];omega
theorem j64(h:j<i):cmpI .gt i j=a3 a7:=by simp[cmpI,h]
theorem j65(h:i<=j):cmpI .gt i j=a3 a4:=by simp[cmpI];omega
theorem j66(h:i<j):cmpI .ge i j=a3 a4:=by simp[cmpI];omega
theorem j67(h:i=j):cmpI .eq i j=a3 a7:=by simp[cmpI,h]
theorem j68(h:i≠j):cmpI .eq i j=a3 a4:=by simp[cmpI,h]
theorem j61(h:i=j):cmpI .ne i j=a3 a4:=by simp[cmpI,h]
theorem jc3:cmpI .gt i j=a3 (decide (j<i)):=(rfl)
theorem j0n:cmpI .ge i j=a3 (decide (j<=i)):=(rfl)
theorem jbb{a b:D}(h:Qo a=a7):Ym (a3 (.a [.t a,.e b]))=a3 (.v (.o [a,b])):=by simp[Ym,zp,Rk.st,h,jk,zy (show 2<=1000000 by decide)]
theorem Cd:cmpI .eq i j=a3 (decide (i=j)):=(rfl)
theorem jet:jeu (a3 (.v x))=a3 (.v (.e (.bl x.d.isNon))):=(rfl)
theorem ja2:truth (a3 (.v (.e (.bl b))))=a3 b:=(rfl)
theorem j6t:truth (a3 (.v (.t (.bl b))))=a3 b:=(rfl)
theorem jhd:orW (a3 a4) f ρ=blW (truth (f ρ)):=(rfl)
theorem je3:je4 (a3 b)=a3 (.v (.e (.bl (!b)))):=(rfl)
theorem jgx:stW (a3 (.v (.e d)))=a3 (.v (.e d)):=(rfl)
theorem jep:j7z (a3 a7) f g ρ=stW (f ρ):=(rfl)
theorem jeq:j7z (a3 a4) f g ρ=stW (g ρ):=(rfl)
theorem jc2:consW (a3 (.v x)) (a3 (.a xs))=a3 (.a (x::xs)):=(rfl)
theorem Im(h:zp xs=a3 l)(hl:l.length<=1000000):Yd (a3 (.a xs))=a3 (.v (.e (.tup l))):=by simp[Yd,h,jk,zy hl]
theorem je9(h:zp xs=a3 l)(hl:l.length<=1000000):Ym (a3 (.a xs))=a3 (.v (.o l)):=by simp[Ym,h,jk,zy hl]
theorem jcp:Yd (a3 (.a []))=a3 (.v (.e (.tup []))):=by simp[Yd,zp,jk]
theorem jco{a:D}:Yd (a3 (.a [.e a]))=a3 (.v (.e (.tup [a]))):=Im rfl (by simp)
theorem jcn{a b:D}:Yd (a3 (.a [.e a,.e b]))=a3 (.v (.e (.tup [a,b]))):=Im rfl (by simp)
theorem jeb:Ym (a3 (.a []))=a3 (.v (.o [])):=by simp[Ym,zp,jk]
theorem jea{a:D}:Ym (a3 (.a [.e a]))=a3 (.v (.o [a])):=je9 rfl (by simp)
theorem jcm{a b c:D}:Yd (a3 (.a [.e a,.e b,.e c]))=a3 (.v (.e (.tup [a,b,c]))):=Im rfl (by simp)
noncomputable def Nk(o:Option D):Option W:=o.map λd=>.v (.e d)
theorem j29:Nk (a3 d)=a3 (.v (.e d)):=(rfl)
theorem jem:ixW (a3 (.v (.e (.lst l)))) (a3 (.v (.e (.int i))))=Nk (atI l i):=(rfl)
theorem jel:ixW (a3 (.v (.e (.tup l)))) (a3 (.v (.e (.int i))))=Nk (atI l i):=(rfl)
theorem jhq:ixW (a3 (.v (.o l))) (a3 (.v (.e (.int i))))=Nk (atI l i):=(rfl)
theorem jho:ixW (a3 (.v (.w l))) (a3 (.v (.e (.int i))))=Nk (atI l i):=(rfl)
noncomputable def jfp(c:Option Nat):Option W:=match c with
 |some c=>a3 (.v (.e (.str ⟨#[c]⟩)))
 |none=>a6
theorem jfo{c:Nat}:jfp (a3 c)=a3 (.v (.e (.str ⟨#[c]⟩))):=(rfl)
theorem jhp{z:ah}(h:z.length<=1000000):ixW (a3 (.v (.e (.str z)))) (a3 (.v (.e (.int i))))=jfp (atI z.cps.toList i):=by simp only[ixW,Rk.sq,Rk.d,jk,zy h,decide_true,if_true];cases atI z.cps.toList i<;>rfl
theorem jh0{z:ah}{lo hi:Option Int}(h:z.length<=1000000):slW (a3 (.v (.e (.str z)))) (a3 lo) (a3 hi)=a3 (.v (.e (.str (bD z lo hi)))):=by simp only[slW,Rk.sq,Rk.d,jk,zy h,decide_true,if_true]
theorem jfu{y z:ah}(h:y.length+z.length<=1000000):Jm .add (a3 (.v (.e (.str y)))) (a3 (.v (.e (.str z))))=a3 (.v (.e (.str (y++z)))):=by simp[Jm,Vx,Rk.d,jk,zy h,rkW]
theorem jhr{k:Bool}:vz .int (a3 (.a [.e (.bl k)]))=a3 (.v (.e (.int (if k then 1 else 0)))):=(rfl)
theorem Jr{ns:List Int}:intsOf (ns.map D.int)=a3 ns:=by
 induction ns with
 |nil=>rfl
 |cons b bs ih=>rw[X4,intsOf,ih];rfl
theorem Bv{ns:List ah}:strsOf (ns.map D.str)=a3 ns:=by
 induction ns with
 |nil=>rfl
 |cons b bs ih=>rw[X4,strsOf,ih];rfl
theorem jgw{ns:List Int}:vz .sum (a3 (.a [.o (ns.map D.int)]))=a3 (.v (.e (.int ns.sum))):=by simp only[vz,Vc,Rk.d,Jr];rfl
theorem jcs{ns:List Int}:vz .sum (a3 (.a [.e (.lst (ns.map D.int))]))=a3 (.v (.e (.int ns.sum))):=by simp only[vz,Vc,Rk.d,Jr];rfl
theorem j28{sep:ah}{ts:List ah}(h:eV sep ts=a7):Mp sep (a3 (.v (.o (ts.map D.str))))=a3 (.v (.e (.str (dU sep ts)))):=by simp only[Mp,Rk.d,Bv,h,if_true]
theorem jbc{ts:List ah}(h:ts.length<4000):Ml (a3 (.v (.w (ts.map D.str))))=a3 (.v (.e (.int (dd ts).length))):=by simp only[Ml,Rk.d,Bv,h,if_true]
theorem j7b{i j:Int}(h:-4611686018427387904<=i/\i<4611686018427387904/\-4611686018427387904<=j/\j<4611686018427387904):Us (a3 (.a [.e (.int i),.e (.int j)]))=a3 (.i (upto i (j-i).toNat)):=if_pos h
theorem j8g:Mq (a3 (.v (.e (.lst l))))=a3 (.i (Jt l)):=(rfl)
theorem j8f:Mq (a3 (.v (.e (.tup l))))=a3 (.i (Jt l)):=(rfl)
theorem j8s:Qj (a3 (.a []))=a3 a6:=(rfl)
theorem j8r:Qj (a3 (.a [.e (.int i)]))=a3 (a3 i):=(rfl)
variable{lo hi:Option Int}
theorem jcx:slW (a3 (.v (.e (.lst l)))) (a3 lo) (a3 hi)=a3 (.v (.o (cutD l lo hi))):=(rfl)
theorem jgz:slW (a3 (.v (.w l))) (a3 lo) (a3 hi)=a3 (.v (.o (cutD l lo hi))):=(rfl)
theorem j4b(h:¬(HT.sIx l.length 0 lo=0/\HT.sIx l.length l.length hi=l.length)):slW (a3 (.v (.e (.tup l)))) (a3 lo) (a3 hi)=a3 (.v (.e (.tup (cutD l lo hi)))):=if_neg h
variable{Γ:ah->List D->Rc}{fn:ah}
noncomputable def rcW(r:Rc):Option W:=match r with
 |.val d=>a3 (.v (.e d))
 |.fresh l=>a3 (.v (.o l))
 |_=>a6
theorem jh3:rcW (.val d)=a3 (.v (.e d)):=(rfl)
theorem jh4:rcW (.fresh l)=a3 (.v (.o l)):=(rfl)
theorem Mu(h:zp xs=a3 l):Qq Γ fn (a3 (.a xs))=rcW (Γ fn l):=by simp only[Qq,h];cases Γ fn l<;>rfl
theorem jc7{a:D}:Qq Γ fn (a3 (.a [.e a]))=rcW (Γ fn [a]):=Mu rfl
theorem jc6{a b:D}:Qq Γ fn (a3 (.a [.e a,.e b]))=rcW (Γ fn [a,b]):=Mu rfl
theorem jc5{a b c:D}:Qq Γ fn (a3 (.a [.e a,.e b,.e c]))=rcW (Γ fn [a,b,c]):=Mu rfl
theorem j8o:Qq Γ fn (a3 (.a [.o l]))=rcW (Γ fn [.lst l]):=Mu rfl
noncomputable def rcT(r:Rc):Option W:=match r with
 |.val d=>a3 (.v (.t d))
 |_=>a6
theorem jh6:rcT (.val d)=a3 (.v (.t d)):=(rfl)
theorem j2m(h:zp xs=a6):Qq Γ fn (a3 (.a xs))=rcT (Γ fn (xs.map Rk.d)):=by simp only[Qq,h];cases Γ fn (xs.map Rk.d)<;>rfl
theorem j8n{a b:D}:Qq Γ fn (a3 (.a [.w m,.e a,.e b]))=rcT (Γ fn [.lst m,a,b]):=j2m rfl
theorem jhj:vz .len (a3 (.a [.e (.lst l)]))=a3 (.v (.e (.int l.length))):=(rfl)
theorem jhi:vz .len (a3 (.a [.e (.tup l)]))=a3 (.v (.e (.int l.length))):=(rfl)
theorem jhh:vz .len (a3 (.a [.w l]))=a3 (.v (.e (.int l.length))):=(rfl)
theorem j9k{ns:List Int}(h:ns≠[]):vz .max (a3 (.a [.o (ns.map D.int)]))=a3 (.v (.e (.int (ju ns)))):=by
 have e:ns.isEmpty=a4:=by cases ns with|nil=>exact absurd rfl h|cons _ _=>rfl
 simp only[vz,Vc,Rk.d,Jr,e,if_true];rfl
theorem j47{ks:List (List Int)}:Yx (ks.map λk=>D.tup (k.map D.int))=a3 ks:=by
 induction ks with
 |nil=>rfl
 |cons k ks ih=>rw[X4,Yx,ih];simp only[tupI,Jr]
theorem jb9{ks:List (List Int)}{k:List Int}(h:ks[aE (Jb ks) (ks.length-1)]?=a3 k):U7 (a3 (.v (.o (ks.map λk=>D.tup (k.map D.int)))))=a3 (.v (.t (.tup (k.map D.int)))):=by simp only[U7,Rk.d,j47,h];rfl
theorem j7e{ks:List (Int×List Int)}:Dk (ks.map pairD)=a3 ks:=by
 induction ks with
 |nil=>rfl
 |cons k ks ih=>rw[X4,Dk,ih,pairD];simp only[prI,tupI,Jr,ff]
theorem jb8{k0:Int×List Int}{ks:List (Int×List Int)}{k:Int×List Int}(h:(k0::ks)[aE (Z8 (k0::ks)) ks.length]?=a3 k):U7 (a3 (.v (.o ((k0::ks).map pairD))))=a3 (.v (.t (pairD k))):=by
 have e:Yx ((k0::ks).map pairD)=a6:=by rw[X4,Yx,show tupI (pairD k0)=a6 from rfl]
 simp only[U7,Rk.d,e,j7e,xq,iN,h];rfl
theorem Dz{ks:List (List Int)}{ds:List D}{k:List Int}{d:D}(h:zu ks ds k=a3 d):Mr (a3 (.v (.e (.dct ks ds)))) (a3 (.v (.e (.tup (k.map D.int)))))=a3 (.v (.e d)):=by simp only[Mr,Rk.d,tupI,Jr,h];rfl
theorem ja1:vz .tuple (a3 (.a [.o l]))=a3 (.v (.e (.tup l))):=(rfl)
theorem ja0:vz .tuple (a3 (.a [.w l]))=a3 (.v (.e (.tup l))):=(rfl)
theorem jbe:vz .list (a3 (.a [.e (.tup l)]))=a3 (.v (.o l)):=(rfl)
theorem j2i(h:D.depL l<=90)(h2:d.dep<=90):Mj .count (a3 (.v (.w l))) (a3 (.a [.e d]))=a3 (.v (.e (.int (l.countP λe=>deq e d)))):=by simp[Mj,j3e,Rk.d,h,h2,rkW]
theorem jaa:Om (a3 (.v (.e (.lst l))))=a3 (.i l):=(rfl)
theorem ja9:Om (a3 (.v (.e (.tup l))))=a3 (.i l):=(rfl)
theorem jd1:Om (a3 (.v (.o l)))=a3 (.i l):=(rfl)
theorem j7c(h:-4611686018427387904<=i/\i<4611686018427387904):Us (a3 (.a [.e (.int i)]))=a3 (.i (upto 0 i.toNat)):=if_pos h
theorem qi{is:List Nat}{c e:En->Option W}{z:Bool}{ds l:List D}(hf:Kw is ρ=a7)(hl:ds.length<=1000000)(h:Jw (Qn is c e ρ) ds=a3 l)(hz:z=a4\/qy l=a7):j3r is (a3 (.i ds)) c e z ρ=a3 (.v (.o l)):=by simp only[j3r,hf,jk,zy hl,decide_true,and_self,if_true,h,jZ];rcases hz with z|z<;>simp[z]
theorem z9{i:Nat}{c e:En->Option W}(hc:c (ρ.set i (.val d))=a3 (.a [])){d':D}(he:e (ρ.set i (.val d))=a3 (.v (.e d'))):Qn [i] c e ρ d=a3 (a3 d'):=by simp[Qn,qz,hc,he,Rk.st]
theorem Ik{i:Nat}{c e:En->Option W}{b:Bool}{d':D}(hc:c (ρ.set i (.val d))=a3 (.a [.e (.bl b)]))(he:b=a7->e (ρ.set i (.val d))=a3 (.v (.e d'))):Qn [i] c e ρ d=a3 (if b=a7 then a3 d' else a6):=by
 cases b with
 |true=>simp[Qn,qz,hc,he rfl,Rk.st,Rk.d]
 |false=>simp[Qn,qz,hc,Rk.d]
theorem j1l{i j:Nat}{c e:En->Option W}{a b:D}(hc:c ((ρ.set i (.val a)).set j (.val b))=a3 (.a [])){d':D}(he:e ((ρ.set i (.val a)).set j (.val b))=a3 (.v (.e d'))):Qn [i,j] c e ρ (.tup [a,b])=a3 (a3 d'):=by simp[Qn,qz,hc,he,Rk.st]
theorem j6q{i j:Nat}{c e:En->Option W}{a b:D}{k:Bool}{d':D}(hc:c ((ρ.set i (.val a)).set j (.val b))=a3 (.a [.e (.bl k)]))(he:k=a7->e ((ρ.set i (.val a)).set j (.val b))=a3 (.v (.e d'))):Qn [i,j] c e ρ (.tup [a,b])=a3 (if k=a7 then a3 d' else a6):=by
 cases k with
 |true=>simp[Qn,qz,hc,he rfl,Rk.st,Rk.d]
 |false=>simp[Qn,qz,hc,Rk.d]
theorem Ql{α:Type}{xs:List α}{n:Nat}{x:α}(h:xs[n]?=a3 x):atI xs (n:Int)=a3 x:=jca h
end
section
theorem jbj:D.isNon .non=a7:=(rfl)
end
section
noncomputable abbrev jd(r:List Int):D:=.tup (r.map .int)
noncomputable abbrev qe(rs:List (List Int)):List D:=rs.map jd
theorem jy{α:Type}{f:D->Option (Option D)}{h g:α->D}{L:List α}(q:∀x∈L,f (h x)=a3 (a3 (g x))):Jw f (L.map h)=a3 (L.map g):=by
 induction L with
 |nil=>rfl
 |cons x L ih=>rw[X4,Jw,q x (xn ..),ih λy hy=>q y (km _ hy)];rfl
theorem Vw{α:Type}{f:D->Option (Option D)}{h g:α->D}{p:α->Bool}{L:List α}(q:∀x∈L,f (h x)=a3 (if p x=a7 then a3 (g x)else a6)):Jw f (L.map h)=a3 ((L.filter p).map g):=by
 induction L with
 |nil=>rfl
 |cons x L ih =>
  rw[X4,Jw,q x (xn ..),ih λy hy=>q y (km _ hy)];by_cases z:p x=a7
  .rw[if_pos z,c9 z];rfl
  .rw[if_neg z,du z]
theorem take_snoc{α:Type}{l:List α}{i:Nat}{x:α}(h:l[i]?=a3 x):l.take (i+1)=l.take i++[x]:=by rw[su,h];rfl
theorem W8{α β:Type}{f:α->β}{l:List α}{i:Nat}{y:β}(h:(l.map f)[i]?=a3 y):∃x,l[i]?=a3 x/\y=f x:=by
 rw[xx]at h;cases e:l[i]? with
 |none=>rw[e]at h;cases h
 |some x=>rw[e]at h;cases h;exact⟨x,rfl,rfl⟩
end
section
theorem O7:∀rs:List (List Int),qy (qe rs)=a7
 |[]=>by simp[qy]
 |r::rs=>by rw[qe,X4,qy,<-qe,O7 rs];simp[Qo,vp]
theorem j5v(p:List Int):D.depL (p.map D.int)=0:=by
 induction p with
 |nil=>rfl
 |cons t ts ih=>simp[D.depL,D.dep,ih]
end
end L2
end
section
open PySem (Str)
open L2
noncomputable def jhx:=(k8n (k8n (k8n (k8n (k8n (k8n (k8n @jae @jac) (k8n @jab (k8n @jaf @j79))) (k8n (k8n @jad @j74) (k8n @jag (k8n @j77 @jaj)))) (k8n (k8n (k8n @jai @jbq) (k8n @j7b (k8n @jah @j78))) (k8n (k8n @j5e @j75) (k8n @jao (k8n @j2u @j11))))) (k8n (k8n (k8n (k8n @jfk @j76) (k8n @jap (k8n @j8c @jbu))) (k8n (k8n @j8b @j8i) (k8n @jbo (k8n @jjd @jef)))) (k8n (k8n (k8n @jfd @jfq) (k8n @j8d (k8n @j8q @jh5))) (k8n (k8n @jf3 (k8n @j7j @j21)) (k8n @j4d (k8n @Eh @jhs)))))) (k8n (k8n (k8n (k8n (k8n @jht @jcz) (k8n @jd0 (k8n @jda @j4l))) (k8n (k8n @jd9 @jan) (k8n @jam (k8n @je7 @je6)))) (k8n (k8n (k8n @jf0 @jbd) (k8n @jg0 (k8n @jez @j2b))) (k8n (k8n @j87 @jf9) (k8n @jf1 (k8n @jbs @jff))))) (k8n (k8n (k8n (k8n @jf7 @jfc) (k8n @jfb (k8n @ji0 @jf5))) (k8n (k8n @jfa @jf6) (k8n @jbv (k8n @jf2 @jf8)))) (k8n (k8n (k8n @ji1 @jhz) (k8n @jbx (k8n @jfe @jbp))) (k8n (k8n @jbw (k8n @jf4 @j8a)) (k8n @jci (k8n @jcj @jbn))))))) (k8n (k8n (k8n (k8n (k8n (k8n @jev @ji6) (k8n @jfy (k8n @j8z @j8u))) (k8n (k8n @j8x @j6j) (k8n @j8y (k8n @j8w @j8v)))) (k8n (k8n (k8n @jfw @jfv) (k8n @jfs (k8n @jft @jh2))) (k8n (k8n @je5 @jfm) (k8n @d_e (k8n @jfn @j62))))) (k8n (k8n (k8n (k8n @j63 @j64) (k8n @j65 (k8n @j66 @j67))) (k8n (k8n @j68 @j61) (k8n @jet (k8n @jdb @ja2)))) (k8n (k8n (k8n @j6t @jhd) (k8n @je3 (k8n @jgx @jep))) (k8n (k8n @jeq (k8n @jc2 @jcp)) (k8n @jco (k8n @jcn @jeb)))))) (k8n (k8n (k8n (k8n (k8n @jea @jcm) (k8n @j29 (k8n @jem @jel))) (k8n (k8n @jhq @jho) (k8n @j8s (k8n @j8r @jcx)))) (k8n (k8n (k8n @jgz @jh3) (k8n @jh4 (k8n @jh6 @jc7))) (k8n (k8n @jc6 @jc5) (k8n @j8o (k8n @jhj @jhi))))) (k8n (k8n (k8n (k8n @jhh @ja1) (k8n @ja0 (k8n @jbe @jaa))) (k8n (k8n @ja9 @jd1) (k8n @j7c (k8n @jbr @jbt)))) (k8n (k8n (k8n @jct @jfo) (k8n @jhp (k8n @jh0 @jfu))) (k8n (k8n @jhr (k8n @jgw @jcs)) (k8n @j8g (k8n @j8f @jbj))))))))
local macro_rules | `(tactic| walk_at "go")=>`(tactic| try simp (disch:=first | omega | assumption | (simp only [List.length_map,List.length_append,List.length_cons,List.length_nil,List.length_take,List.length_drop,List.length_reverse] <;> omega)) only [jhx,Yq,beq_self_eq_true,frz,J4,j85,List.getElem?_cons_zero,List.getElem?_cons_succ,List.set_cons_zero,List.set_cons_succ,List.map_cons,List.map_nil,List.cons_append,List.nil_append,List.replicate,List.length_map,List.length_append,List.length_cons,List.length_nil,Bool.not_true,Bool.not_false,bne_self_eq_false,Nat.reduceSub,Nat.reduceAdd,Int.reduceToNat,Int.reducePow])
local macro_rules | `(tactic| ext)=>`(tactic| walk_at "go")
local macro_rules | `(tactic| erw [$r])=>`(tactic| (rw [$r]; ext)) | `(tactic| erw [$r,$rs,*])=>`(tactic| (rw [$r]; ext; erw [$rs,*]))
namespace KL
noncomputable def Qt:Sx:=(.seq (.ret (.call "all_choices" (.cons (.comp [1] (.ite (.cmp .eq (.var 1) (.glob "NOT_TOLD")) (.glob "ANSWERS") (.tup (.cons (.var 1) .nil))) (.seq (.var 0)) .nil) .nil))) .nop)
noncomputable def fP_rows_in:Fi:=⟨1,2,Qt,a4⟩
noncomputable def vy:Sx:=(.seq (.set 1 (.lst (.cons (.tup .nil) .nil))) (.seq (.loop [2] (.seq (.var 0)) (.seq (.set 3 (.lst .nil)) (.seq (.loop [4] (.seq (.var 1)) (.seq (.ext 3 (.comp [5] (.bin .add (.var 4) (.tup (.cons (.var 5) .nil))) (.seq (.var 2)) .nil)) .nop)) (.seq (.mov 1 3) .nop)))) (.seq (.retV 1) .nop)))
noncomputable def fP_all_choices:Fi:=⟨1,6,vy,a4⟩
noncomputable def Y9:Sx:=(.seq (.ife (.cmp .lt (.var 1) (.blt .len (.cons (.var 0) .nil))) (.seq (.ret (.ix (.var 0) (.var 1))) .nop) .nop) (.seq (.set 2 (.bin .add (.lit (.int 70001)) (.bin .mul (.bin .mul (.lit (.int 911)) (.var 1)) (.var 1)))) (.seq (.ife (.cmp .gt (.blt .len (.cons (.var 0) .nil)) (.lit (.int 0))) (.seq (.set 2 (.bin .add (.var 2) (.bin .mul (.bin .mod (.ix (.var 0) (.lit (.int 0))) (.lit (.int 9973))) (.bin .add (.bin .mul (.lit (.int 3)) (.var 1)) (.lit (.int 1)))))) .nop) .nop) (.seq (.retV 2) .nop))))
noncomputable def fL_cell:Fi:=⟨2,3,Y9,a4⟩
section
variable{G:ah->Option D}{T:ah->Option Fi}
noncomputable def qg(ns:List Int)(k:Nat):Int:=match ns[k]? with
 |some v=>v
 |none=>match ns with
  |[]=>70001+911*k*k
  |v::_=>70001+911*k*k+v%9973*(3*k+1)
theorem Vo {fu n:Nat} (hT:T "_law_cell" = a3 fL_cell) {ns:List Int} {k:Nat} (hk:k<=100):evP fu G T (n+1) "_law_cell" [.lst (ns.map .int),.int k]=.val (.int (qg ns k)):=by
 rw[jl (F:=fL_cell) hT rfl];simp only[fL_cell,Y9,enter];by_cases h:k<ns.length
 .have e:atI (ns.map D.int) (k:Int)=a3 (.int ns[k]):=Ql (by simp[h]);have q:qg ns k=ns[k]:=by simp[qg,h]
  ext;simp only[e,j29,j4l,j21,Eh,j2b,q]
 .cases ns with
  |nil =>ext;simp[qg]
  |cons v r =>
   have e:atI (D.int v::r.map D.int) 0=a3 (.int v):=by simp[atI,ixN]
   have q:qg (v::r) k=70001+911*k*k+v%9973*(3*k+1):=by unfold qg;rw[Xx nofun]
   rw[X4];rw[xq]at h;ext;simp only[e];ext;rw[q]
theorem j6x(f:List Int):step [] f=[]:=rfl
theorem j4a(acc:List (List Int))(a f:List Int):step (acc++[a]) f=step acc f++f.map λx=>a++[x]:=by simp[step]
theorem j0o(fs:List (List Int))(f:List Int):ql (fs++[f])=step (ql fs) f:=by simp[ql]
theorem Iw(acc:List (List Int)){f:List Int}{k:Nat}(h:f.length<=k):(step acc f).length<=acc.length*k:=by
 unfold step;induction acc with
 |nil=>simp
 |cons a acc ih =>rw[List.flatMap_cons,Xb,xf,xq,kO];omega
theorem Oe{fs:List (List Int)}{k:Nat}(h:∀f∈fs,f.length<=k):(ql fs).length<=k^fs.length:=by
 have go:∀(fs acc:List (List Int)),(∀f∈fs,f.length<=k)->(fs.foldl step acc).length<=acc.length*k^fs.length:=by
  intro fs;induction fs with
  |nil=>intro acc _;simp
  |cons f fs ih =>intro acc hf;have h1:=ih (step acc f) λg hg=>hf g (km _ hg);have h2:=Iw acc (hf f (xn ..));rw[Pr,xq,T9,dC (k^fs.length) k,<-ku];exact Xg h1 (ip _ h2)
 have:=go fs [[]] h;simpa [ql]using this
theorem j0p{fs:List (List Int)}{r:List Int}(h:r∈ql fs):r.length=fs.length:=by
 have go:∀(fs acc:List (List Int)) (k:Nat),(∀a∈acc,a.length=k)->∀r∈fs.foldl step acc,r.length=k+fs.length:=by
  intro fs;induction fs with
  |nil=>intro acc k ha r hr;exact ha r hr
  |cons f fs ih =>
   intro acc k ha r hr;have:=ih (step acc f) (k+1) (λa hm=>by
    obtain⟨b,hb,hx⟩:=List.mem_flatMap.mp hm
    obtain⟨x,_,rfl⟩:=X5.mp hx
    rw[Xb,ha b hb];rfl) r hr
   rw[this,xq];omega
 have:=go fs [[]] 0 (λa ha=>by rw[xm.mp ha];rfl) r h;omega
theorem Yt {fu n:Nat} (hT:T "all_choices" = a3 fP_all_choices) {fs:List (List Int)} (hf:∀f∈fs,f.length<=3) (hl:fs.length<=6):evP fu G T (n+1) "all_choices" [.lst (qe fs)]=.fresh (qe (ql fs)):=by
 rw[jl (F:=fP_all_choices) hT rfl];simp only[fP_all_choices,vy,enter];ext;have small:∀i,(ql (fs.take i)).length<=729:=λi=>by
  have h:=Oe (fs:=fs.take i) (k:=3) λf hm=>hf f (i6 hm);have h2:(fs.take i).length<=6:=by rw[Xp];omega
  exact Xg h (dZ (by decide) h2)
 refine Qa (λi ρ=>∃s2 s4,ρ=[.val (.lst (qe fs)),.own (qe (ql (fs.take i))),s2,.un,s4,.un]) ⟨.un,.un,by simp[ql,qe,jd]⟩ ?_ ?_
 .rintro i d ρ hi ⟨s2,s4,rfl⟩;obtain⟨f,hfi,rfl⟩:=W8 hi;have hf3:f.length<=3:=hf f (Xo hfi);have sm:=small i;simp only[zm];ext;refine Cw (λj ρ=>∃s4,ρ=[.val (.lst (qe fs)),.val (.lst (qe (ql (fs.take i)))),.val (jd f),.own (qe (step ((ql (fs.take i)).take j) f)),s4,.un]) ⟨s4,by simp[j6x]⟩ ?_ ?_
  .rintro j d ρ hj ⟨s4,rfl⟩;obtain⟨a,haj,rfl⟩:=W8 hj;have hs:=Iw ((ql (fs.take i)).take j) hf3;have hs2:((ql (fs.take i)).take j).length<=729:=by rw[Xp];omega
   have ha:a.length<=6:=by have:=j0p (Xo haj);rw[Xp]at this;omega
   simp only[zm];ext;rw[qi (l:=(f.map λx=>jd (a++[x]))) (by rfl) ?_ ?_ (.inl rfl)]
   .ext;refine⟨_,rfl,.val (jd a),?_⟩;rw[take_snoc haj,j4a];simp only[qe,Xq,Xc];rfl
   .simp only[xf];omega
   .refine jy λx _=>z9 (by ext) ?_;ext;simp
  .rintro ρ' ⟨s4,rfl⟩;ext;refine⟨_,rfl,.val (jd f),s4,?_⟩;rw[take_snoc hfi,j0o,bM]
 .rintro ρ' ⟨s2,s4,rfl⟩;ext;rw[bM]
theorem j88(t:Int):(Zb t).length<=3:=by unfold Zb;split<;>simp
theorem j15 {fu n:Nat} (hT:T "rows_in" = a3 fP_rows_in) (hC:T "all_choices" = a3 fP_all_choices) (gNT:G "NOT_TOLD" = a3 (.int 2)) (gAN:G "ANSWERS" = a3 (.tup [.int 0,.int 1])) {p:List Int} (hp:p.length<=6):evP fu G T (n+2) "rows_in" [jd p]=.fresh (qe (ql (p.map Zb))):=by
 rw[jl (F:=fP_rows_in) hT rfl];simp only[fP_rows_in,Qt,enter];ext;rw[qi (l:=qe (p.map Zb)) (by rfl) ?_ ?_ (.inl rfl)]
 .ext;rw[Yt hC (λf hf=>by obtain⟨t,_,rfl⟩:=X5.mp hf;exact j88 t) (by rw[xf];exact hp)];ext
 .rw[xf];omega
 .rw[qe,Xc];refine jy λt _=>z9 (by ext) ?_;by_cases h:t=2
  .ext;simp only[gNT];ext;simp only[gAN];ext;simp[Zb,h]
  .ext;simp only[gNT];ext;simp[Zb,h]
theorem Z7(n:Nat):upto 0 n=(ar n).map λ(k:Nat)=>D.int (0+(k:Int)):=rfl
theorem j7f{m:Nat}(h:m<=6):(1:Int)<=2^m/\(2:Int)^m<=64:=by
 have:m=0\/m=1\/m=2\/m=3\/m=4\/m=5\/m=6:=by omega
 rcases this with e|e|e|e|e|e|e<;>subst e<;>decide
theorem j2a{p:List Int}{k:Nat}(h:k<p.length):atI (p.map D.int) (0+(k:Int))=a3 (.int (p.getD k 0)):=by rw[cQ];refine Ql ?_;rw[xx,kh h,kj,kh h];rfl
end
end KL
namespace KV
open PySem
noncomputable def letters:List Nat:=[109,100,107,98,118,113,104,122,99,103,114,110,97,112,120,111,108,115,105,101,102,119,116,121,106,117]
theorem jba:("mdkbvqhzcgrnapxolsiefwtyju":ah).cps.toList=letters:=by decide +kernel
noncomputable def lt(n:Int):Nat:=letters.getD n.toNat 0
noncomputable def sL(l:List Nat):ah:=⟨l.toArray⟩
theorem J1{l:List Nat}:(sL l).length=l.length:=by simp[sL,lE]
theorem jd3{l m:List Nat}(h:sL l=sL m):l=m:=by have:=congrArg (λz=>z.cps.toList) h;simpa [sL]using this
theorem U0{l m:List Nat}:sL l++sL m=sL (l++m):=by show(⟨l.toArray++m.toArray⟩:ah)=_;simp[sL]
theorem Ni:∀l:List Nat,dU ("":ah) (l.map λc=>(⟨#[c]⟩:ah))=sL l:=by
 intro l;show lF _ _=_;rw[StrLaws.glued_eq_join];induction l with
 |nil=>rfl
 |cons a r ih =>
  cases r with
  |nil=>rfl
  |cons b r =>
   rw[X4,X4,Str.join,<-X4 (f:=λc=>(⟨#[c]⟩:ah)),ih]
   .show(⟨(#[a] ++ #[])++(b::r).toArray⟩:ah)=⟨(a::b::r).toArray⟩
    simp
   .intro z;cases z
theorem jd4{l:List Nat}:(sL l).cps.toList=l:=by simp[sL]
theorem Np{k n:Nat}:aB a6 (a3 (k:Int)) 1 n=aB (a3 ((0:Nat):Int)) (a3 (k:Int)) 1 n:=by
 have e:max (0:Int) (min 0 (n:Int))=0:=by omega
 simp[aB,e]
theorem Nq{k n:Nat}:aB (a3 (k:Int)) a6 1 n=aB (a3 (k:Int)) (a3 (n:Int)) 1 n:=by
 have e:max (0:Int) (min (n:Int) (n:Int))=n:=by omega
 have e2:¬((n:Int)<0):=by omega
 simp[aB,e,e2]
theorem Eb{l:List Nat}{a b:Nat}{lo hi:Option Int}(he:aB lo hi 1 (sL l).length=aB (a3 (a:Int)) (a3 (b:Int)) 1 (sL l).length)(hab:a<=b)(hb:b<=l.length):bD (sL l) lo hi=sL ((l.drop a).take (b-a)):=by
 have hb':b<=(sL l).length:=by rw[J1];exact hb
 have q:=StrLaws.sliced_plain (sL l) hab hb';rw[jd4]at q;have e1:=StrLaws.strSliceIndices_plain hab hb';unfold bD;rw[he];by_cases h:((1:Int)==1&&(aB (a3 (a:Int)) (a3 (b:Int)) 1 (sL l).length).length==(sL l).length)=a7
 .rw[if_pos h];rw[e1,J1,xf,Xm]at h;have:b-a=l.length:=by simpa using h
  have ha:a=0:=by omega
  subst ha;rw[this,dS,bM]
 .rw[if_neg h,q];rfl
theorem Bw{l:List Nat}{k:Nat}(h:k<=l.length):bD (sL l) a6 (a3 (k:Int))=sL (l.take k):=by rw[Eb (a:=0) (b:=k) Np (bI _) h];simp
theorem Bx{l:List Nat}{k:Nat}(h:k<=l.length):bD (sL l) (a3 (k:Int)) a6=sL (l.drop k):=by rw[Eb (a:=k) (b:=l.length) (by rw[Nq,J1]) h (X3 _),Tn (by rw[T4];omega)]
theorem R8 {l:List Nat} (h:l.length<=100):eV ("":ah) (l.map λc=>(⟨#[c]⟩:ah))=a7:=by
 unfold eV;rw[iT];have e:∀(r:List Nat)(k:Nat),(r.map λc=>(⟨#[c]⟩:ah)).foldl (λ(x:Nat) (y:ah)=>x+y.length+("":ah).length) k=k+r.length:=by
  intro r;induction r with
  |nil=>intro k;rfl
  |cons a r ih =>intro k;rw[X4,Pr,ih,xq];show k+1+0+r.length=_;omega
 show cw _=a4;have:=e l 0;rw[List.foldl_toArray];show cw (cS (λ(x:Nat) (y:ah)=>x+y.length+("":ah).length) 0 _)=a4;rw[this];unfold cw;simp;have:=jA;omega
noncomputable def Y0(c:Int):List Nat:=(ar 8).map λ(k:Nat)=>lt (c/(4+5*(k:Int))%26)
noncomputable def Vf(c:Int)(s:Nat):List Nat:=(ar s).map λ(k:Nat)=>lt ((c/32+3*(k:Int)*(k:Int)+(k:Int))%26)
theorem Qe(c:Int):(Y0 c).length=8:=by simp[Y0]
theorem zx(c:Int)(s:Nat):(Vf c s).length=s:=by simp[Vf]
noncomputable def stN(c:Int)(m:Nat):Nat:=(c/8%(9-(m:Int))).toNat
noncomputable def szN(c:Int):Nat:=(c/4%8).toNat
noncomputable def atN(c:Int):Nat:=(c/512%((szN c:Int)+1)).toNat
noncomputable def wrd(c:Int)(m k:Nat):List Nat :=
 if c%4<2 then(if c%4=0 then(Y0 c).take (stN c m+k+1) else(Y0 c).drop (8-stN c m-k-1))
 else(Vf c (szN c)).take (atN c)++lt ((c/9+7*(k:Int))%26)::(Vf c (szN c)).drop (atN c)
noncomputable def Q8(c:Int)(m:Nat):List ah:=(ar m).map λ(k:Nat)=>sL (wrd c m k)
theorem je8{a b:Int}(ha:0<=a/\a<26)(hb:0<=b/\b<26)(h:lt a=lt b):a=b:=by
 obtain⟨i,rfl⟩:∃i:Nat,a=(i:Int):=⟨a.toNat,by omega⟩
 obtain⟨j,rfl⟩:∃j:Nat,b=(j:Int):=⟨b.toNat,by omega⟩
 have key:∀i j:Fin 26,letters.getD i.val 0=letters.getD j.val 0->i=j:=by decide +kernel
 have:=key ⟨i,by omega⟩ ⟨j,by omega⟩ h;have:=congrArg Fin.val this;simp at this;omega
theorem j9b{c:Int}{m:Nat}(h:m<=6):stN c m+m<=8:=by unfold stN;have h1:=Te (c/8) (show(9-(m:Int))≠0 by omega);have h2:=cb (c/8) (show(0:Int)<9-(m:Int)by omega);omega
theorem j9t(c:Int):atN c<=szN c/\szN c<=7:=by unfold atN;have h1:=Te (c/512) (show((szN c:Int)+1)≠0 by omega);have h2:=cb (c/512) (show(0:Int)<(szN c:Int)+1 by omega);refine⟨by omega,?_⟩;unfold szN;omega
theorem j9y{c:Int}{m i j:Nat}(hm:m<=6)(hi:i<m)(hj:j<m)(h:wrd c m i=wrd c m j):i=j:=by
 have s:=j9b (c:=c) hm;have a:=j9t c;have l8:=Qe c;have ls:=zx c (szN c);unfold wrd at h;split at h
 .split at h
  .have:=congrArg cF h;rw[Xp,Xp]at this;omega
  .have:=congrArg cF h;rw[T4,T4]at this;omega
 .have h2:=List.append_cancel_left h;have h3:=(List.cons.inj h2).1;have:=je8 nofun nofun h3;omega
theorem K6(c:Int)(m:Nat):(Q8 c m).length=m:=by simp[Q8]
theorem Ih{c:Int}{m:Nat}(hm:m<=6):(Q8 c m).Nodup:=by unfold Q8;unfold List.Nodup;rw[iP];exact List.Pairwise.imp_of_mem (λhi hj h e=>h (j9y hm (Xd.mp hi) (Xd.mp hj) (jd3 e))) (dq (n:=m))
end KV
open PySem (Str)
open L2
namespace KW
open KL KV PySem
noncomputable def Uy:Sx:=(.seq (.set 3 (.comp [4] (.var 4) (.range (.cons (.blt .len (.cons (.var 0) .nil)) .nil)) (.cons (.cmp .eq (.bin .mod (.bin .fdiv (.var 2) (.bin .shl (.lit (.int 1)) (.var 4))) (.lit (.int 2))) (.lit (.int 1))) .nil))) (.seq (.set 5 (.blt .sum (.cons (.comp [4] (.bin .shl (.ix (.var 0) (.var 4)) (.var 4)) (.seq (.var 3)) .nil) .nil))) (.seq (.set 6 (.blt .sum (.cons (.comp [4,7] (.bin .shl (.var 7) (.var 4)) (.enum (.var 0)) .nil) .nil))) (.seq (.ife (.cmp .eq (.var 1) (.lit (.int 1))) (.seq (.ret (.blt .int (.cons (.cmp .gt (.blt .sum (.cons (.var 0) .nil)) (.bin .mod (.bin .fdiv (.var 2) (.lit (.int 64))) (.blt .len (.cons (.var 0) .nil)))) .nil))) .nop) .nop) (.seq (.ife (.cmp .eq (.var 1) (.lit (.int 2))) (.seq (.set 8 (.bin .mod (.bin .mul (.bin .add (.var 6) (.lit (.int 1))) (.bin .add (.lit (.int 1)) (.bin .mod (.var 2) (.lit (.int 1000003))))) (.lit (.int 2147483629)))) (.seq (.ret (.blt .int (.cons (.cmp .eq (.bin .mod (.bin .fdiv (.var 8) (.lit (.int 32))) (.lit (.int 5))) (.lit (.int 0))) .nil))) .nop)) .nop) (.seq (.ife (.cmp .eq (.var 1) (.lit (.int 3))) (.seq (.set 8 (.bin .mul (.bin .add (.bin .add (.bin .mul (.var 5) (.var 5)) (.bin .mul (.lit (.int 17)) (.var 5))) (.lit (.int 69621))) (.bin .add (.lit (.int 1)) (.bin .mod (.var 2) (.lit (.int 1000003)))))) (.seq (.ret (.bin .mod (.bin .fdiv (.bin .mod (.var 8) (.lit (.int 2147483647))) (.lit (.int 16))) (.lit (.int 2)))) .nop)) .nop) (.seq (.ife (.cmp .eq (.var 1) (.lit (.int 4))) (.seq (.ret (.bin .mod (.bin .add (.blt .sum (.cons (.comp [4] (.ix (.var 0) (.var 4)) (.seq (.var 3)) .nil) .nil)) (.bin .fdiv (.var 2) (.lit (.int 64)))) (.lit (.int 2)))) .nop) .nop) (.seq (.set 8 (.bin .mul (.bin .add (.bin .mul (.var 6) (.var 6)) (.lit (.int 48271))) (.bin .add (.bin .add (.bin .mod (.var 2) (.lit (.int 1000003))) (.var 6)) (.lit (.int 1))))) (.seq (.ret (.bin .mod (.bin .fdiv (.bin .mod (.var 8) (.lit (.int 2147483647))) (.lit (.int 64))) (.lit (.int 2)))) .nop)))))))))
noncomputable def fL_bit:Fi:=⟨3,9,Uy,a4⟩
section
variable{G:ah->Option D}{T:ah->Option Fi}
theorem Ku {n:Int} (h:0<=n/\n<26):atI ("mdkbvqhzcgrnapxolsiefwtyju":ah).cps.toList n=a3 (lt n):=by
 obtain⟨k,rfl⟩:∃k:Nat,n=(k:Int):=⟨n.toNat,by omega⟩
 have hk:k<letters.length:=by show k<26;omega
 rw[jba];refine Ql ?_;unfold lt;rw[kh hk,Xh,kj,kh hk];rfl
theorem jhl:("mdkbvqhzcgrnapxolsiefwtyju":ah).length<=1000000:=by decide +kernel
theorem Iu:∀{l:List Int},(∀x∈l,0<=x/\x<=32)->0<=l.sum/\l.sum<=32*(l.length:Int)
 |[],_=>by simp
 |a::r,h=>by have h1:=h a (xn ..);have h2:=Iu (l:=r) λx hx=>h x (km _ hx);rw[List.sum_cons,xq];omega
theorem p2k{k:Nat}(h:k<=5):0<(2:Int)^k/\(2:Int)^k<=32:=by
 have:k=0\/k=1\/k=2\/k=3\/k=4\/k=5:=by omega
 rcases this with e|e|e|e|e|e<;>subst e<;>decide
noncomputable def Vy(row:List Int)(c:Int):List Nat:=(ar row.length).filter λ(k:Nat)=>decide (c/(1*2^(0+(k:Int)).toNat)%2=1)
noncomputable def U9(row:List Int)(c:Int):List Int:=(Vy row c).map λ(k:Nat)=>row.getD k 0*2^(0+(k:Int)).toNat
noncomputable def byL(row:List Int):List Int:=row.zipIdx.map λp=>p.1*2^((p.2:Nat):Int).toNat
theorem t0k(k:Nat):(0+(k:Int)).toNat=k:=by omega
theorem Kz{row:List Int}(h01:∀x∈row,x=0\/x=1)(k:Nat):row.getD k 0=0\/row.getD k 0=1:=by
 rw[kj];cases h:row[k]? with
 |none=>exact .inl rfl
 |some v=>exact h01 v (Xo h)
theorem jbg{row:List Int}{c:Int}(h01:∀x∈row,x=0\/x=1)(hl:row.length<=6):0<=(U9 row c).sum/\(U9 row c).sum<=192:=by
 have h:=Iu (l:=U9 row c) λx hx=>by
  obtain⟨k,hk,rfl⟩:=X5.mp hx;have hk2:=Xd.mp (Xl.mp hk).1;have p:=p2k (k:=k) nofun
  rw[t0k];rcases Kz h01 k with e|e<;>rw[e]<;>omega
 have l:(U9 row c).length<=6:=by unfold U9 Vy;rw[xf];exact Xg (Pq _ _) (by rw[Xm];exact hl)
 omega
theorem ji4{row:List Int}(h01:∀x∈row,x=0\/x=1)(hl:row.length<=6):0<=(byL row).sum/\(byL row).sum<=192:=by
 have h:=Iu (l:=byL row) λx hx=>by
  obtain⟨p,hp,rfl⟩:=X5.mp hx;obtain⟨a,k⟩:=p;have hm:=jI hp;have p:=p2k (k:=k) nofun
  show 0<=a*2^((k:Nat):Int).toNat/\a*2^((k:Nat):Int).toNat<=32;rw[Xh];have:=h01 a (by rw[hm.2.2];exact Xr _);rcases this with e|e<;>rw[e]<;>omega
 have l:(byL row).length<=6:=by unfold byL;rw[xf,bZ];exact hl
 omega
theorem jfx {fu n:Nat} (hT:T "_law_bit" = a3 fL_bit) {row:List Int} {kd c:Int} (h01:∀x∈row,x=0\/x=1) (hl:1<=row.length/\row.length<=6):∃b:Int,(b=0\/b=1)/\evP fu G T (n+1) "_law_bit" [.lst (row.map D.int),.int kd,.int c]=.val (.int b):=by
 rw[jl (F:=fL_bit) hT rfl];simp only[fL_bit,Uy,enter];have kb:=jbg (c:=c) h01 hl.2;have bb:=ji4 h01 hl.2;have sl:(Vy row c).length<=6:=by unfold Vy;exact Xg (Pq _ _) (by rw[Xm];exact hl.2)
 have get:∀k:Nat,k∈Vy row c->atI (row.map D.int) (0+(k:Int))=a3 (.int (row.getD k 0)):=λk hk=>j2a (Xd.mp (Xl.mp hk).1);ext;rw[qi (l:=(Vy row c).map λ(k:Nat)=>D.int (0+(k:Int))) (by rfl) (by rw[q9];omega) ?_ (.inl rfl)];rotate_left
 .rw[Xh,Z7,Vy];refine Vw λk hk'=>?_;have hk:=Xd.mp hk';have p:0<(2:Int)^(0+(k:Int)).toNat/\(2:Int)^(0+(k:Int)).toNat<=32:=by rw[t0k];exact p2k nofun
  refine Ik ?_ λ_=>?_
  .ext;simp only[Cd];ext
  .ext
 ext;rw[qi (l:=(U9 row c).map D.int) (by rfl) (by rw[xf];omega) ?_ (.inr (vp _))];rotate_left
 .rw[U9,Xc];refine jy λk hk'=>z9 (by ext) ?_;have b:=Kz h01 k;have hk:=Xd.mp (Xl.mp hk').1;ext;rw[get k hk'];ext;rfl
 ext;rw[qi (l:=(byL row).map D.int) (by rfl) (by simp only[Jt,xf,bZ];omega) ?_ (.inl rfl)];rotate_left
 .rw[byL,Xc,Jt,List.zipIdx_map,Xc];refine jy λq hq=>?_;obtain⟨a,k⟩:=q;have hm:=jI hq;have h1:=h01 a (by rw[hm.2.2];exact Xr _);show Qn _ _ _ _ (D.tup [.int (k:Int),.int a])=_;refine j1l (by ext) ?_;ext;rfl
 ext;generalize (U9 row c).sum=kept at *;generalize (byL row).sum=byr at *;by_cases k1:kd=1
 .refine⟨if decide (c/64%(row.length:Int)<row.sum)=a7 then 1 else 0,by split<;>simp,?_⟩;ext;simp only[jc3];ext
 .by_cases k2:kd=2
  .refine⟨if decide ((byr+1)*(1+c%1000003)%2147483629/32%5=0)=a7 then 1 else 0,by split<;>simp,?_⟩;ext;simp only[Cd];ext
  .by_cases k3:kd=3
   .refine⟨(kept*kept+17*kept+69621)*(1+c%1000003)%2147483647/16%2,by omega,?_⟩;ext
   .by_cases k4:kd=4
    .refine⟨(((Vy row c).map λ(k:Nat)=>row.getD k 0).sum+c/64)%2,by omega,?_⟩;ext;rw[qi (l:=((Vy row c).map λ(k:Nat)=>row.getD k 0).map D.int) (by rfl) (by rw[xf];omega) ?_ (.inr (vp _))]
     .ext
     .rw[Xc];refine jy λk hk'=>z9 (by ext) ?_;ext;rw[get k hk'];ext;rfl
    .refine⟨(byr*byr+48271)*(c%1000003+byr+1)%2147483647/64%2,by omega,?_⟩;ext
noncomputable def Bk(fu:Nat)(G:ah->Option D)(T:ah->Option Fi)(n:Nat)(row:List Int)(kd c:Int):Int:=match evP fu G T (n+1) "_law_bit" [.lst (row.map D.int),.int kd,.int c] with
 |.val (.int b)=>b
 |_=>0
theorem j0w {fu n:Nat} (hT:T "_law_bit" = a3 fL_bit) {row:List Int} {kd c:Int} (h01:∀x∈row,x=0\/x=1) (hl:1<=row.length/\row.length<=6):(Bk fu G T n row kd c=0\/Bk fu G T n row kd c=1)/\evP fu G T (n+1) "_law_bit" [.lst (row.map D.int),.int kd,.int c]=.val (.int (Bk fu G T n row kd c)):=by obtain⟨b,hb,e⟩:=jfx (fu:=fu) (n:=n) (G:=G) hT h01 hl (kd:=kd) (c:=c);unfold Bk;rw[e];exact⟨hb,rfl⟩
theorem j3p(m:Nat)(z:Int):∀x∈j6 2 m z,x=0\/x=1:=by
 intro x hx;obtain⟨i,hi⟩:=List.mem_iff_getElem?.mp hx;have hl:i<m:=by have:=(X7.mp hi).1;rw[qb]at this;exact this
 rw[Qh 2 hl]at hi;cases hi;omega
noncomputable def Zm(ns:List Int)(a most:Nat):Nat:=(1+qg ns a%(most:Int)).toNat
theorem Do{ns:List Int}{a most:Nat}(h:1<=most/\most<=6):1<=Zm ns a most/\Zm ns a most<=most:=by unfold Zm;have h1:=Te (qg ns a) (show(most:Int)≠0 by omega);have h2:=cb (qg ns a) (show(0:Int)<most by omega);omega
end
end KW
section
namespace K42
open PySem PySem.Spec PyProof.Rows L2
noncomputable def top(i:Nat):aX:=PySem.Challenge.pw_leastasks_k42_whole_rounds_against_asks.main.body.getD i (.Pass ⟨0,0,0,0⟩)
noncomputable def Z4:Sx:=(.seq (.ret (.call "number_of" (.cons (.var 0) (.cons (.blt .len (.cons (.glob "ANSWERS") .nil)) .nil)))) .nop)
noncomputable def Vt:Fi:=⟨1,1,Z4,a4⟩
noncomputable def Qt:Sx:=(.seq (.ret (.call "all_choices" (.cons (.comp [1] (.ite (.cmp .eq (.var 1) (.glob "NOT_TOLD")) (.glob "ANSWERS") (.tup (.cons (.var 1) .nil))) (.seq (.var 0)) .nil) .nil))) .nop)
noncomputable def fP_rows_in:Fi:=⟨1,2,Qt,a4⟩
noncomputable def Vl:Sx:=(.seq (.ret (.call "all_choices" (.cons (.comp [1] (.ite (.cmp .eq (.var 1) (.glob "NOT_TOLD")) (.glob "TELLINGS") (.tup (.cons (.var 1) .nil))) (.seq (.var 0)) .nil) .nil))) .nop)
noncomputable def Uh:Fi:=⟨1,2,Vl,a4⟩
noncomputable def Q4:Sx:=(.seq (.ife (.or (.cmp .lt (.var 1) (.lit (.int 0))) (.or (.cmp .ge (.var 1) (.blt .len (.cons (.var 0) .nil))) (.cmp .ne (.ix (.var 0) (.var 1)) (.glob "NOT_TOLD")))) (.seq .fail .nop) .nop) (.seq (.ret (.bin .add (.bin .add (.sl (.var 0) .nil (.cons (.var 1) .nil)) (.tup (.cons (.var 2) .nil))) (.sl (.var 0) (.cons (.bin .add (.var 1) (.lit (.int 1))) .nil) .nil))) .nop))
noncomputable def Zo:Fi:=⟨3,3,Q4,a4⟩
noncomputable def vy:Sx:=(.seq (.set 1 (.lst (.cons (.tup .nil) .nil))) (.seq (.loop [2] (.seq (.var 0)) (.seq (.set 3 (.lst .nil)) (.seq (.loop [4] (.seq (.var 1)) (.seq (.ext 3 (.comp [5] (.bin .add (.var 4) (.tup (.cons (.var 5) .nil))) (.seq (.var 2)) .nil)) .nop)) (.seq (.mov 1 3) .nop)))) (.seq (.retV 1) .nop)))
noncomputable def fP_all_choices:Fi:=⟨1,6,vy,a4⟩
noncomputable def Zv:Sx:=(.seq (.set 2 (.lit (.int 0))) (.seq (.loop [3] (.seq (.var 0)) (.seq (.set 2 (.bin .add (.bin .mul (.var 2) (.var 1)) (.var 3))) .nop)) (.seq (.retV 2) .nop)))
noncomputable def Yo:Fi:=⟨2,4,Zv,a4⟩
noncomputable def Zw:Sx:=(.seq (.ret (.ix (.ix (.var 0) (.lit (.int 1))) (.call "row_number" (.cons (.var 1) .nil)))) .nop)
noncomputable def Yp:Fi:=⟨2,2,Zw,a4⟩
noncomputable def Z3:Sx:=(.seq (.set 2 (.call "counted_in" (.cons (.var 0) (.cons (.var 1) .nil)))) (.seq (.ife (.cmp .eq (.ix (.var 2) (.lit (.int 1))) (.lit (.int 0))) (.seq (.ret (.lit (.int 0))) .nop) .nop) (.seq (.ife (.cmp .eq (.ix (.var 2) (.lit (.int 0))) (.lit (.int 0))) (.seq (.ret (.lit (.int 1))) .nop) .nop) (.seq (.ret (.lit (.non))) .nop))))
noncomputable def Vs:Fi:=⟨2,3,Z3,a4⟩
noncomputable def Z5:Sx:=(.seq (.set 2 (.comp [3] (.call "answer_to" (.cons (.var 0) (.cons (.var 3) .nil))) (.seq (.call "rows_in" (.cons (.var 1) .nil))) .nil)) (.seq (.ret (.tup (.cons (.meth .count (.var 2) (.cons (.lit (.int 0)) .nil)) (.cons (.meth .count (.var 2) (.cons (.lit (.int 1)) .nil)) .nil)))) .nop))
noncomputable def Vu:Fi:=⟨2,4,Z5,a4⟩
noncomputable def Vm:Sx:=(.seq (.ret (.bin .mul (.tup (.cons (.glob "NOT_TOLD") .nil)) (.blt .len (.cons (.ix (.var 0) (.lit (.int 0))) .nil)))) .nop)
noncomputable def Ui:Fi:=⟨1,1,Vm,a4⟩
noncomputable def Qv:Sx:=(.seq (.ife (.isN (.var 1)) (.seq (.ret (.bin .mul (.lst (.cons (.lit (.int 1)) .nil)) (.var 0))) .nop) .nop) (.seq (.ife (.or (.cmp .ne (.blt .len (.cons (.var 1) .nil)) (.var 0)) (.not (.call "all_between" (.cons (.var 1) (.cons (.glob "LEAST_PRICE") .nil))))) (.seq .fail .nop) .nop) (.seq (.ret (.blt .list (.cons (.var 1) .nil))) .nop)))
noncomputable def V9:Fi:=⟨2,2,Qv,a4⟩
noncomputable def Vd:Sx:=(.seq (.ret (.blt .all (.cons (.comp [2] (.and (.cmp .ge (.var 2) (.var 1)) (.cmp .le (.var 2) (.glob "GREATEST_NUMBER"))) (.seq (.var 0)) .nil) .nil))) .nop)
noncomputable def Du:Fi:=⟨2,3,Vd,a4⟩
noncomputable def Qs:Sx:=(.seq (.ret (.call "least_table" (.cons (.var 0) (.cons (.call "worst_cost_of_ask" (.cons (.var 0) (.cons (.var 1) .nil))) .nil)))) .nop)
noncomputable def V7:Fi:=⟨2,2,Qs,a4⟩
noncomputable def vo:Sx:=(.seq (.set 2 (.call "prices_told" (.cons (.blt .len (.cons (.ix (.var 0) (.lit (.int 0))) .nil)) (.cons (.var 1) .nil)))) (.seq (.keep 2) (.seq (.retL "worst_cost_of_ask" [2]) .nop)))
noncomputable def Js:Fi:=⟨2,3,vo,a4⟩
noncomputable def Qw:Sx:=(.seq (.ret (.dvals (.call "least_numbers" (.cons (.call "all_open" (.cons (.var 0) .nil)) (.cons (.var 0) (.cons (.var 1) .nil)))))) .nop)
noncomputable def Va:Fi:=⟨2,2,Qw,a4⟩
noncomputable def Jy:Sx:=(.seq (.retC "numbers_within" "least_numbers" (.var 0) (.var 1) [2]) .nop)
noncomputable def Zd:Fi:=⟨3,3,Jy,a4⟩
noncomputable def vf:Sx:=(.nmake 3 4 5 (.seq (.call "parts_in" (.cons (.var 0) .nil))) (.not (.isN (.call "settled_by" (.cons (.var 1) (.cons (.var 4) .nil))))) (.ite (.var 5) (.lit (.int 0)) (.callV 2 (.cons (.var 3) (.cons (.var 4) .nil)))))
noncomputable def vd:Fi:=⟨3,6,vf,a4⟩
noncomputable def Q6:Sx:=(.seq (.ret (.minT (.comp [3,4] (.tup (.cons (.callV 2 (.cons (.var 0) (.cons (.var 1) (.cons (.var 3) .nil)))) (.cons (.var 3) .nil))) (.enum (.var 1)) (.cons (.cmp .eq (.var 4) (.glob "NOT_TOLD")) .nil)))) .nop)
noncomputable def Zr:Fi:=⟨3,5,Q6,a4⟩
noncomputable def Jc:Sx:=(.seq (.ret (.comp [3] (.dget (.var 0) (.call "told_further" (.cons (.var 1) (.cons (.var 2) (.cons (.var 3) .nil))))) (.seq (.glob "ANSWERS")) .nil)) .nop)
noncomputable def Qy:Fi:=⟨3,4,Jc,a4⟩
noncomputable def Qu:Sx:=(.seq (.expr (.call "refuse_wrong_round" (.cons (.var 1) .nil))) (.seq (.ret (.dvals (.call "round_numbers" (.cons (.call "all_open" (.cons (.var 0) .nil)) (.cons (.var 0) (.cons (.var 1) .nil)))))) .nop))
noncomputable def V8:Fi:=⟨2,2,Qu,a4⟩
noncomputable def Q5:Sx:=(.seq (.expr (.call "refuse_wrong_round" (.cons (.var 2) .nil))) (.seq (.ife (.not (.isN (.call "settled_by" (.cons (.var 0) (.cons (.var 1) .nil))))) (.seq (.ret (.lst .nil)) .nop) .nop) (.seq (.set 3 (.ix (.call "best_round" (.cons (.call "round_numbers" (.cons (.var 1) (.cons (.var 0) (.cons (.var 2) .nil)))) (.cons (.var 1) (.cons (.var 2) .nil)))) (.lit (.int 1)))) (.seq (.ret (.comp [4] (.ix (.ix (.var 0) (.lit (.int 0))) (.var 4)) (.seq (.var 3)) .nil)) .nop))))
noncomputable def Zq:Fi:=⟨3,5,Q5,a4⟩
noncomputable def Jx:Sx:=(.seq (.retC "numbers_within" "round_numbers" (.var 0) (.var 1) [2]) .nop)
noncomputable def Zc:Fi:=⟨3,3,Jx,a4⟩
noncomputable def Z6:Sx:=(.seq (.ret (.minT (.comp [3] (.tup (.cons (.call "greatest_behind" (.cons (.var 0) (.cons (.var 1) (.cons (.var 3) .nil)))) (.cons (.var 3) .nil))) (.seq (.call "rounds_at" (.cons (.var 1) (.cons (.var 2) .nil)))) .nil))) .nop)
noncomputable def Vv:Fi:=⟨3,4,Z6,a4⟩
noncomputable def J7:Sx:=(.seq (.set 3 (.call "all_choices" (.cons (.comp [4,5] (.ite (.cmp .isin (.var 4) (.var 2)) (.glob "ANSWERS") (.tup (.cons (.var 5) .nil))) (.enum (.var 1)) .nil) .nil))) (.seq (.ret (.blt .max (.cons (.comp [6] (.dget (.var 0) (.var 6)) (.seq (.var 3)) .nil) .nil))) .nop))
noncomputable def Qg:Fi:=⟨3,7,J7,a4⟩
noncomputable def Zu:Sx:=(.seq (.set 2 (.lst (.cons (.tup .nil) .nil))) (.seq (.loop [3,4] (.enum (.var 0)) (.seq (.ife (.cmp .eq (.var 4) (.glob "NOT_TOLD")) (.seq (.set 2 (.bin .add (.var 2) (.comp [5] (.bin .add (.var 5) (.tup (.cons (.var 3) .nil))) (.seq (.var 2)) (.cons (.cmp .lt (.blt .len (.cons (.var 5) .nil)) (.var 1)) .nil)))) .nop) .nop) .nop)) (.seq (.ret (.sl (.var 2) (.cons (.lit (.int 1)) .nil) .nil)) .nop)))
noncomputable def Yn:Fi:=⟨2,6,Zu,a4⟩
noncomputable def v5:Sx:=(.seq (.ife (.or (.cmp .lt (.var 0) (.glob "FEWEST_AT_ONCE")) (.cmp .gt (.var 0) (.glob "MOST_AT_ONCE"))) (.seq .fail .nop) .nop) .nop)
noncomputable def Ji:Fi:=⟨1,1,v5,a4⟩
noncomputable def Y9:Sx:=(.seq (.ife (.cmp .lt (.var 1) (.blt .len (.cons (.var 0) .nil))) (.seq (.ret (.ix (.var 0) (.var 1))) .nop) .nop) (.seq (.set 2 (.bin .add (.lit (.int 70001)) (.bin .mul (.bin .mul (.lit (.int 911)) (.var 1)) (.var 1)))) (.seq (.ife (.cmp .gt (.blt .len (.cons (.var 0) .nil)) (.lit (.int 0))) (.seq (.set 2 (.bin .add (.var 2) (.bin .mul (.bin .mod (.ix (.var 0) (.lit (.int 0))) (.lit (.int 9973))) (.bin .add (.bin .mul (.lit (.int 3)) (.var 1)) (.lit (.int 1)))))) .nop) .nop) (.seq (.retV 2) .nop))))
noncomputable def fL_cell:Fi:=⟨2,3,Y9,a4⟩
noncomputable def Wi:Sx:=(.seq (.set 2 (.lit (.str "mdkbvqhzcgrnapxolsiefwtyju"))) (.seq (.set 3 (.lst .nil)) (.seq (.mov 4 0) (.seq (.loop [5] (.range (.cons (.bin .mul (.var 1) (.blt .int (.cons (.cmp .ge (.var 0) (.bin .pow (.lit (.int 10)) (.lit (.int 18)))) .nil))) .nil)) (.seq (.set 6 (.bin .add (.lit (.int 1)) (.bin .mod (.var 4) (.lit (.int 8))))) (.seq (.set 4 (.bin .fdiv (.var 4) (.lit (.int 8)))) (.seq (.set 7 (.lit (.str ""))) (.seq (.loop [8] (.range (.cons (.var 6) .nil)) (.seq (.set 7 (.bin .add (.var 7) (.ix (.var 2) (.bin .mod (.var 4) (.lit (.int 26)))))) (.seq (.set 4 (.bin .fdiv (.var 4) (.lit (.int 26)))) .nop))) (.seq (.app 3 (.var 7)) .nop)))))) (.seq (.ife (.cmp .eq (.lset (.var 3)) (.var 1)) (.seq (.retV 3) .nop) .nop) (.seq (.ife (.cmp .lt (.bin .mod (.var 0) (.lit (.int 4))) (.lit (.int 2))) (.seq (.fgt 5) (.seq (.set 9 (.join "" (.comp [5] (.ix (.var 2) (.bin .mod (.bin .fdiv (.var 0) (.bin .add (.lit (.int 4)) (.bin .mul (.lit (.int 5)) (.var 5)))) (.lit (.int 26)))) (.range (.cons (.lit (.int 8)) .nil)) .nil))) (.seq (.set 10 (.bin .mod (.bin .fdiv (.var 0) (.lit (.int 8))) (.bin .sub (.lit (.int 9)) (.var 1)))) (.seq (.ife (.cmp .eq (.bin .mod (.var 0) (.lit (.int 4))) (.lit (.int 0))) (.seq (.fgt 5) (.seq (.ret (.comp [5] (.sl (.var 9) .nil (.cons (.bin .add (.bin .add (.var 10) (.var 5)) (.lit (.int 1))) .nil)) (.range (.cons (.var 1) .nil)) .nil)) .nop)) .nop) (.seq (.fgt 5) (.seq (.ret (.comp [5] (.sl (.var 9) (.cons (.bin .sub (.bin .sub (.bin .sub (.lit (.int 8)) (.var 10)) (.var 5)) (.lit (.int 1))) .nil) .nil) (.range (.cons (.var 1) .nil)) .nil)) .nop)))))) .nop) (.seq (.set 6 (.bin .mod (.bin .fdiv (.var 0) (.lit (.int 4))) (.lit (.int 8)))) (.seq (.fgt 5) (.seq (.set 11 (.join "" (.comp [5] (.ix (.var 2) (.bin .mod (.bin .add (.bin .add (.bin .fdiv (.var 0) (.lit (.int 32))) (.bin .mul (.bin .mul (.lit (.int 3)) (.var 5)) (.var 5))) (.var 5)) (.lit (.int 26)))) (.range (.cons (.var 6) .nil)) .nil))) (.seq (.set 12 (.bin .mod (.bin .fdiv (.var 0) (.lit (.int 512))) (.bin .add (.var 6) (.lit (.int 1))))) (.seq (.fgt 5) (.seq (.ret (.comp [5] (.bin .add (.bin .add (.sl (.var 11) .nil (.cons (.var 12) .nil)) (.ix (.var 2) (.bin .mod (.bin .add (.bin .fdiv (.var 0) (.lit (.int 9))) (.bin .mul (.lit (.int 7)) (.var 5))) (.lit (.int 26))))) (.sl (.var 11) (.cons (.var 12) .nil) .nil)) (.range (.cons (.var 1) .nil)) .nil)) .nop))))))))))))
noncomputable def Bb:Fi:=⟨2,13,Wi,a4⟩
noncomputable def Uy:Sx:=(.seq (.set 3 (.comp [4] (.var 4) (.range (.cons (.blt .len (.cons (.var 0) .nil)) .nil)) (.cons (.cmp .eq (.bin .mod (.bin .fdiv (.var 2) (.bin .shl (.lit (.int 1)) (.var 4))) (.lit (.int 2))) (.lit (.int 1))) .nil))) (.seq (.set 5 (.blt .sum (.cons (.comp [4] (.bin .shl (.ix (.var 0) (.var 4)) (.var 4)) (.seq (.var 3)) .nil) .nil))) (.seq (.set 6 (.blt .sum (.cons (.comp [4,7] (.bin .shl (.var 7) (.var 4)) (.enum (.var 0)) .nil) .nil))) (.seq (.ife (.cmp .eq (.var 1) (.lit (.int 1))) (.seq (.ret (.blt .int (.cons (.cmp .gt (.blt .sum (.cons (.var 0) .nil)) (.bin .mod (.bin .fdiv (.var 2) (.lit (.int 64))) (.blt .len (.cons (.var 0) .nil)))) .nil))) .nop) .nop) (.seq (.ife (.cmp .eq (.var 1) (.lit (.int 2))) (.seq (.set 8 (.bin .mod (.bin .mul (.bin .add (.var 6) (.lit (.int 1))) (.bin .add (.lit (.int 1)) (.bin .mod (.var 2) (.lit (.int 1000003))))) (.lit (.int 2147483629)))) (.seq (.ret (.blt .int (.cons (.cmp .eq (.bin .mod (.bin .fdiv (.var 8) (.lit (.int 32))) (.lit (.int 5))) (.lit (.int 0))) .nil))) .nop)) .nop) (.seq (.ife (.cmp .eq (.var 1) (.lit (.int 3))) (.seq (.set 8 (.bin .mul (.bin .add (.bin .add (.bin .mul (.var 5) (.var 5)) (.bin .mul (.lit (.int 17)) (.var 5))) (.lit (.int 69621))) (.bin .add (.lit (.int 1)) (.bin .mod (.var 2) (.lit (.int 1000003)))))) (.seq (.ret (.bin .mod (.bin .fdiv (.bin .mod (.var 8) (.lit (.int 2147483647))) (.lit (.int 16))) (.lit (.int 2)))) .nop)) .nop) (.seq (.ife (.cmp .eq (.var 1) (.lit (.int 4))) (.seq (.ret (.bin .mod (.bin .add (.blt .sum (.cons (.comp [4] (.ix (.var 0) (.var 4)) (.seq (.var 3)) .nil) .nil)) (.bin .fdiv (.var 2) (.lit (.int 64)))) (.lit (.int 2)))) .nop) .nop) (.seq (.set 8 (.bin .mul (.bin .add (.bin .mul (.var 6) (.var 6)) (.lit (.int 48271))) (.bin .add (.bin .add (.bin .mod (.var 2) (.lit (.int 1000003))) (.var 6)) (.lit (.int 1))))) (.seq (.ret (.bin .mod (.bin .fdiv (.bin .mod (.var 8) (.lit (.int 2147483647))) (.lit (.int 64))) (.lit (.int 2)))) .nop)))))))))
noncomputable def fL_bit:Fi:=⟨3,9,Uy,a4⟩
noncomputable def Vn:Sx:=(.seq (.set 3 (.bin .add (.lit (.int 1)) (.bin .mod (.call "_law_cell" (.cons (.var 0) (.cons (.var 1) .nil))) (.var 2)))) (.seq (.set 4 (.call "_law_words" (.cons (.call "_law_cell" (.cons (.var 0) (.cons (.bin .add (.var 1) (.lit (.int 1))) .nil))) (.cons (.var 3) .nil)))) (.seq (.set 5 (.bin .mod (.bin .fdiv (.call "_law_cell" (.cons (.var 0) (.cons (.var 1) .nil))) (.var 2)) (.lit (.int 5)))) (.seq (.set 6 (.call "_law_cell" (.cons (.var 0) (.cons (.bin .add (.var 1) (.lit (.int 2))) .nil)))) (.seq (.set 7 (.lst .nil)) (.seq (.loop [8] (.range (.cons (.bin .shl (.lit (.int 1)) (.var 3)) .nil)) (.seq (.set 9 (.comp [10] (.bin .mod (.bin .fdiv (.var 8) (.bin .shl (.lit (.int 1)) (.bin .sub (.bin .sub (.var 3) (.var 10)) (.lit (.int 1))))) (.lit (.int 2))) (.range (.cons (.var 3) .nil)) .nil)) (.seq (.app 7 (.ix (.lst (.cons (.call "_law_bit" (.cons (.var 9) (.cons (.var 5) (.cons (.var 6) .nil)))) (.cons (.bin .mod (.bin .fdiv (.var 6) (.bin .shl (.lit (.int 1)) (.var 8))) (.lit (.int 2))) .nil))) (.blt .int (.cons (.cmp .ge (.var 6) (.bin .pow (.lit (.int 10)) (.lit (.int 18)))) .nil)))) .nop))) (.seq (.ret (.tup (.cons (.blt .tuple (.cons (.var 4) .nil)) (.cons (.blt .tuple (.cons (.var 7) .nil)) .nil)))) .nop)))))))
noncomputable def Uj:Fi:=⟨3,11,Vn,a4⟩
noncomputable def Ub:Sx:=(.seq (.set 1 (.lit (.int 1))) (.seq (.loop [2] (.range (.cons (.var 0) .nil)) (.seq (.set 1 (.bin .mul (.lit (.int 3)) (.var 1))) .nop)) (.seq (.retV 1) .nop)))
noncomputable def Rg:Fi:=⟨1,3,Ub,a4⟩
noncomputable def Ud:Sx:=(.seq (.set 2 (.lst .nil)) (.seq (.loop [3] (.range (.cons (.var 0) .nil)) (.seq (.set 2 (.bin .add (.lst (.cons (.bin .mod (.var 1) (.lit (.int 3))) .nil)) (.var 2))) (.seq (.set 1 (.bin .fdiv (.var 1) (.lit (.int 3)))) .nop))) (.seq (.retV 2) .nop)))
noncomputable def Ri:Fi:=⟨2,4,Ud,a4⟩
noncomputable def Wj:Sx:=(.seq (.set 2 (.call "_law_digits" (.cons (.var 0) (.cons (.var 1) .nil)))) (.seq (.set 3 (.lst .nil)) (.seq (.loop [4] (.range (.cons (.var 0) .nil)) (.seq (.ife (.cmp .eq (.ix (.var 2) (.var 4)) (.lit (.int 2))) (.seq (.set 5 (.call "_law_threes" (.cons (.bin .sub (.bin .sub (.var 0) (.lit (.int 1))) (.var 4)) .nil))) (.seq (.app 3 (.tup (.cons (.var 4) (.cons (.bin .sub (.var 1) (.bin .mul (.lit (.int 2)) (.var 5))) (.cons (.bin .sub (.var 1) (.var 5)) .nil))))) .nop)) .nop) .nop)) (.seq (.retV 3) .nop))))
noncomputable def Bc:Fi:=⟨2,6,Wj,a4⟩
noncomputable def Mw:Sx:=(.seq (.set 1 (.blt .len (.cons (.ix (.var 0) (.lit (.int 0))) .nil))) (.seq (.set 2 (.lst .nil)) (.seq (.loop [3] (.range (.cons (.call "_law_threes" (.cons (.var 1) .nil)) .nil)) (.seq (.set 4 (.call "_law_steps" (.cons (.var 1) (.cons (.var 3) .nil)))) (.seq (.ife (.cmp .eq (.blt .len (.cons (.var 4) .nil)) (.lit (.int 0))) (.seq (.set 5 (.lit (.int 0))) (.seq (.loop [6] (.seq (.call "_law_digits" (.cons (.var 1) (.cons (.var 3) .nil)))) (.seq (.set 5 (.bin .add (.bin .mul (.lit (.int 2)) (.var 5)) (.var 6))) .nop)) (.seq (.app 2 (.tup (.cons (.ix (.ix (.var 0) (.lit (.int 1))) (.var 5)) (.cons (.lit (.int 1)) .nil)))) .nop))) (.seq (.set 7 (.ix (.var 2) (.ix (.ix (.var 4) (.lit (.int 0))) (.lit (.int 1))))) (.seq (.set 8 (.ix (.var 2) (.ix (.ix (.var 4) (.lit (.int 0))) (.lit (.int 2))))) (.seq (.app 2 (.tup (.cons (.bin .add (.ix (.var 7) (.lit (.int 0))) (.ix (.var 8) (.lit (.int 0)))) (.cons (.bin .add (.ix (.var 7) (.lit (.int 1))) (.ix (.var 8) (.lit (.int 1)))) .nil)))) .nop)))) .nop))) (.seq (.retV 2) .nop))))
noncomputable def Dv:Fi:=⟨1,9,Mw,a4⟩
noncomputable def Y5:Sx:=(.seq (.ret (.chn (.lit (.int 0)) (.ix (.var 0) (.lit (.int 0))) (.ix (.var 0) (.lit (.int 1))))) .nop)
noncomputable def W9:Fi:=⟨1,1,Y5,a4⟩
noncomputable def Uc:Sx:=(.seq (.set 5 (.blt .len (.cons (.ix (.var 0) (.lit (.int 0))) .nil))) (.seq (.set 6 (.bin .sub (.call "_law_threes" (.cons (.var 5) .nil)) (.lit (.int 1)))) (.seq (.loop [7] (.range (.cons (.var 4) .nil)) (.seq (.ife (.call "_law_is_open" (.cons (.ix (.var 1) (.var 6)) .nil)) (.seq (.loop [8] (.seq (.call "round_to_ask" (.cons (.var 0) (.cons (.blt .tuple (.cons (.call "_law_digits" (.cons (.var 5) (.cons (.var 6) .nil))) .nil)) (.cons (.var 2) .nil))))) (.seq (.set 9 (.tix (.blt .list (.cons (.ix (.var 0) (.lit (.int 0))) .nil)) (.var 8))) (.seq (.set 10 (.call "_law_threes" (.cons (.bin .sub (.bin .sub (.var 5) (.lit (.int 1))) (.var 9)) .nil))) (.seq (.ife (.cmp .ne (.bin .mod (.bin .fdiv (.var 6) (.var 10)) (.lit (.int 3))) (.lit (.int 2))) (.seq (.ret (.lit (.bl a4))) .nop) .nop) (.seq (.set 6 (.bin .sub (.var 6) (.bin .mul (.bin .sub (.lit (.int 2)) (.bin .mod (.bin .fdiv (.var 3) (.bin .shl (.lit (.int 1)) (.bin .sub (.bin .sub (.var 5) (.var 9)) (.lit (.int 1))))) (.lit (.int 2)))) (.var 10)))) .nop))))) .nop) .nop) .nop)) (.seq (.ret (.not (.call "_law_is_open" (.cons (.ix (.var 1) (.var 6)) .nil)))) .nop))))
noncomputable def Rh:Fi:=⟨5,11,Uc,a4⟩
noncomputable def j3v:Sx:=(.seq (.set 1 (.call "_law_question" (.cons (.var 0) (.cons (.lit (.int 0)) (.cons (.lit (.int 4)) .nil))))) (.seq (.set 2 (.blt .len (.cons (.ix (.var 1) (.lit (.int 0))) .nil))) (.seq (.fgt 4) (.seq (.set 3 (.comp [4] (.ix (.call "round_table" (.cons (.var 1) (.cons (.var 4) .nil))) (.neg (.lit (.int 1)))) (.range (.cons (.lit (.int 1)) (.cons (.lit (.int 7)) .nil))) .nil)) (.seq (.ife (.or (.cmp .ne (.ix (.var 3) (.lit (.int 0))) (.ix (.callD "worst_table" (.cons (.var 1) .nil)) (.neg (.lit (.int 1))))) (.cmp .gt (.ix (.var 3) (.lit (.int 5))) (.lit (.int 1)))) (.seq (.ret (.lit (.bl a4))) .nop) .nop) (.seq (.loop [4] (.range (.cons (.lit (.int 1)) (.cons (.lit (.int 6)) .nil))) (.seq (.ife (.or (.cmp .gt (.ix (.var 3) (.var 4)) (.ix (.var 3) (.bin .sub (.var 4) (.lit (.int 1))))) (.cmp .lt (.bin .mul (.bin .add (.var 4) (.lit (.int 1))) (.ix (.var 3) (.var 4))) (.ix (.var 3) (.lit (.int 0))))) (.seq (.ret (.lit (.bl a4))) .nop) .nop) .nop)) (.seq (.set 5 (.call "_law_ones" (.cons (.var 1) .nil))) (.seq (.set 6 (.bin .add (.lit (.int 1)) (.bin .mod (.call "_law_cell" (.cons (.var 0) (.cons (.lit (.int 3)) .nil))) (.lit (.int 4))))) (.seq (.loop [7] (.seq (.bin .add (.lst (.cons (.call "_law_cell" (.cons (.var 0) (.cons (.lit (.int 40)) .nil))) .nil)) (.sl (.var 0) (.cons (.lit (.int 41)) .nil) (.cons (.lit (.int 43)) .nil)))) (.seq (.ife (.not (.call "_law_played" (.cons (.var 1) (.cons (.var 5) (.cons (.var 6) (.cons (.bin .mod (.var 7) (.bin .shl (.lit (.int 1)) (.var 2))) (.cons (.ix (.var 3) (.bin .sub (.var 6) (.lit (.int 1)))) .nil))))))) (.seq (.ret (.lit (.bl a4))) .nop) .nop) .nop)) (.seq (.ret (.lit (.bl a7))) .nop))))))))))
noncomputable def j3l:Fi:=⟨1,8,j3v,a4⟩
noncomputable def vm:Ex:=(.bin .add (.ix (.var 0) (.var 3)) (.blt .max (.cons (.call "numbers_behind" (.cons (.var 1) (.cons (.var 2) (.cons (.var 3) .nil)))) .nil)))
noncomputable def Jq:Fi:=⟨4,4,.ret vm,a7⟩
noncomputable def Jv:Ex:=(.ix (.call "cheapest_ask" (.cons (.var 1) (.cons (.var 2) (.cons (.var 0) .nil)))) (.lit (.int 0)))
noncomputable def Za:Fi:=⟨3,3,.ret Jv,a7⟩
noncomputable def Ju:Ex:=(.bin .add (.lit (.int 1)) (.ix (.call "best_round" (.cons (.var 1) (.cons (.var 2) (.cons (.var 0) .nil)))) (.lit (.int 0))))
noncomputable def Z9:Fi:=⟨3,3,.ret Ju,a7⟩
noncomputable def tbl:List (ah×Fi):=("row_number",Vt)::("rows_in",fP_rows_in)::("parts_in",Uh)::("told_further",Zo)::("all_choices",fP_all_choices)::("number_of",Yo)::("answer_to",Yp)::("settled_by",Vs)::("counted_in",Vu)::("all_open",Ui)::("prices_told",V9)::("all_between",Du)::("worst_table",V7)::("worst_cost_of_ask",Js)::("least_table",Va)::("least_numbers",Zd)::("numbers_within",vd)::("cheapest_ask",Zr)::("numbers_behind",Qy)::("round_table",V8)::("round_to_ask",Zq)::("round_numbers",Zc)::("best_round",Vv)::("greatest_behind",Qg)::("rounds_at",Yn)::("refuse_wrong_round",Ji)::("_law_cell",fL_cell)::("_law_words",Bb)::("_law_bit",fL_bit)::("_law_question",Uj)::("_law_threes",Rg)::("_law_digits",Ri)::("_law_steps",Bc)::("_law_ones",Dv)::("_law_is_open",W9)::("_law_played",Rh)::("law",j3l)::("worst_cost_of_ask.<locals>.<lambda>",Jq)::("least_numbers.<locals>.<lambda>",Za)::("round_numbers.<locals>.<lambda>",Z9)::[]
noncomputable def T(x:ah):Option Fi:=tbl.lookup x
noncomputable def gs:List (ah×D):=[("ANSWERS",.tup [.int 0,.int 1]),("NOT_TOLD",.int 2),("TELLINGS",.tup [.int 0,.int 1,.int 2]),("LEAST_PRICE",.int 1),("GREATEST_NUMBER",.int 1000000),("FEWEST_AT_ONCE",.int 1),("MOST_AT_ONCE",.int 6)]
noncomputable def xs:List (ah×List D):=[]
noncomputable def qs:List ah:=[]
noncomputable abbrev G:ah->Option D:=Gof gs a4 xs qs
end K42
end
section
open PySem PySem.Spec PyProof.Rows L2
local macro_rules | `(tactic| walk_at "vis")=>`(tactic| first | exact Or.inl rfl | exact Or.inr (Or.inl rfl) | exact Or.inr (Or.inr rfl))
local macro_rules | `(tactic| walk_at "loc")=>`(tactic| first | exact Or.inl rfl | exact Or.inr rfl)
local macro_rules | `(tactic| walk_at "cap")=>`(tactic| repeat (first | exact rfl | refine ⟨_,_,rfl,by rfl,by rfl,by rfl,by rfl,?_⟩))
local macro_rules | `(tactic| walk_at "ts")=>`(tactic| first
 |exact Tr.int|exact Tr.bl|exact Tr.non|exact Tr.str
 |exact Tr.var (by rfl) (by walk_at "vis") (by decide) (by decide)|exact Tr.glob (by rfl) (by decide) (by decide)
 |refine Tr.bin ?_ ?_|refine Tr.neg ?_|refine Tr.cmp (by rfl) ?_ ?_|refine Tr.bcmp (by rfl) ?_ ?_|refine Tr.isN ?_|refine Tr.bisN ?_|refine Tr.isNN ?_|refine Tr.bisNN ?_
 |refine Tr.and ?_ ?_|refine Tr.or ?_ ?_|refine Tr.one ?_|refine Tr.not ?_
 |refine Tr.wand ?_ ?_|refine Tr.wor ?_ ?_|refine Tr.wand1 ?_|refine Tr.wor1 ?_|refine Tr.bw ?_|refine Tr.bnot ?_
 |refine Tr.ite ?_ ?_ ?_|exact Tr.nil|refine Tr.cons (by rfl) ?_ ?_|refine Tr.tup ?_|refine Tr.lst ?_
 |refine Tr.ix (by intro _ _;rfl) ?_ ?_|exact Tr.oN|refine Tr.oS ?_|refine Tr.sl ?_ ?_ ?_
 |refine Tr.chn (by with_unfolding_all rfl) ?_ ?_ ?_|refine Tr.bchn (by with_unfolding_all rfl) ?_ ?_ ?_
 |refine Tr.callD (by decide) (by rfl) (by decide) (by rfl) (by rfl) ?_|refine Tr.max (by rfl) (by rfl) ?_|refine Tr.max1 (by rfl) (by rfl) ?_
 |refine Tr.call (by rfl) (by decide) (by rfl) (by rfl) ?_
 |refine Tr.callV (by rfl) (by walk_at "vis") (by decide) (by decide) (by rfl) (by rfl) ?_|refine Tr.dget (by intro _ _;rfl) ?_ ?_|refine Tr.dvals (by rfl) (by rfl) (by rfl) (by rfl) (by rfl) ?_|refine Tr.minT (by rfl) (by rfl) (by rfl) ?_
 |refine Tr.tix (by rfl) (by rfl) (by rfl) (by rfl) ?_ ?_|refine Tr.lset (by rfl) (by rfl) (by rfl) (by rfl) (by rfl) ?_|refine Tr.len (by rfl) ?_|refine Tr.all (by rfl) (by rfl) ?_|refine Tr.tuple (by rfl) ?_|refine Tr.list (by rfl) ?_
 |refine Tr.sum (by rfl) (by rfl) ?_|refine Tr.intc (by rfl) ?_|refine Tr.join (by rfl) (by rfl) (by rfl) (by rfl) ?_|refine Tr.lset (by rfl) (by rfl) (by rfl) (by rfl) (by rfl) ?_|refine Tr.enum (by rfl) (by rfl) ?_
 |refine Tr.count (by rfl) (by rfl) (by rfl) ?_ ?_
 |refine Tr.isi1 (by decide) (by decide +kernel) (by rfl) (by rfl) (by decide) (by decide) (by rfl) ?_
 |refine Tr.isi2 (by decide) (by decide) (by decide +kernel) (by decide +kernel) (by rfl) (by rfl) (by rfl) (by decide) (by decide) (by decide) (by decide) (by rfl) ?_
 |exact Tr.c0|refine Tr.c1 ?_
 |refine Tr.comp1 (by rfl) (by rfl) (by rfl) (by rfl) (by rfl) (by intro _;rfl) ?_ ?_ ?_
 |refine Tr.comp2 (by rfl) (by decide) (by rfl) (by rfl) (by rfl) (by rfl) (by rfl) (by rfl) (by intro _;rfl) ?_ ?_ ?_
 |refine Tr.seq ?_|refine Tr.range (by rfl) ?_
 |refine Tr.bval (by intro _;rfl) ?_
 |refine Ts.nmake (by rfl) (by rfl) (by rfl) (by rfl) (by walk_at "loc") (by walk_at "loc") (by walk_at "loc") (by exact b8 rfl) (by exact b8 rfl) (by exact b8 rfl) (by decide) (by decide) (by decide) (by decide) (by rfl) (by rfl) (by rfl) (by intro _;rfl) ?_ ?_ ?_
 |exact Ts.retL (by decide) (by rfl) (by rfl) (by rfl) (Eq.trans (by assumption) rfl) (by rfl) (by decide +kernel) (by walk_at "cap")
 |refine Ts.retC (by decide) (by rfl) (by rfl) (by rfl) (Eq.trans (by assumption) rfl) (by rfl) (by decide +kernel) (by walk_at "cap") (by rfl) (by decide) (by rfl) (by rfl) (by rfl) (by rfl) ?_ ?_
 |exact Ts.nil|refine Ts.fgt ?_|refine Ts.keep ?_|refine Ts.cons ?_ ?_|exact Ts.pass|exact Ts.doc|exact Ts.fail
 |exact Ts.mov (by rfl) (by rfl) (by walk_at "loc") (by exact b8 rfl) (by walk_at "vis") (by decide) (by decide)
 |refine Ts.setC1 (by rfl) (by rfl) (by walk_at "loc") (by exact b8 rfl) (by rfl) (by rfl) (by rfl) (by rfl) (by rfl) (by intro _;rfl) ?_ ?_ ?_
 |refine Ts.setC2 (by rfl) (by rfl) (by walk_at "loc") (by exact b8 rfl) (by rfl) (by decide) (by rfl) (by rfl) (by rfl) (by rfl) (by rfl) (by rfl) (by intro _;rfl) ?_ ?_ ?_
 |refine Ts.set (by rfl) (by walk_at "loc") (by rfl) (by exact b8 rfl) ?_
 |exact Ts.retV (by rfl) (by walk_at "vis") (by decide) (by decide)|refine Ts.ret ?_
 |refine Ts.ife ?_ ?_ ?_|refine Ts.for1 (by rfl) (by rfl) (by walk_at "loc") (by exact b8 rfl) (by intro _;rfl) ?_ ?_
 |refine Ts.for2 (by rfl) (by decide) (by rfl) (by rfl) (by walk_at "loc") (by walk_at "loc") (by exact b8 rfl) (by exact b8 rfl) (by intro _;rfl) ?_ ?_
 |refine Ts.app (by rfl) (by walk_at "vis") (by decide) (by decide) (by rfl) (by rfl) (by rfl) (by rfl) ?_
 |refine Ts.ext (by rfl) (by walk_at "vis") (by decide) (by decide) (by rfl) (by rfl) (by rfl) (by rfl) ?_
 |refine Ts.expr (by rfl) ?_
 |intro C s H fp pn
 |intro pn xe)
local macro_rules | `(tactic| walk_at "bnd")=>`(tactic| (intro _ _ _ _ _ _ us hl; first | (obtain ⟨_,e⟩:=us1 hl; subst e; rfl) | (obtain ⟨_,_,e⟩:=us2 hl; subst e; rfl) | (obtain ⟨_,_,_,e⟩:=us3 hl; subst e; rfl) | (obtain ⟨_,_,_,_,_,e⟩:=us5 hl; subst e; rfl)))
local macro_rules | `(tactic| walk_at "bnk")=>`(tactic| (intro _ _ _ _ _ _ _ _ _ _ hK td; refine ⟨fun us hl=>?_,fun us hl=>?_,fun us v hl=>?_⟩; (first | (obtain ⟨_,e⟩:=us1 hl; subst e; exact PySem.W.binds_K hK rfl td rfl rfl rfl) | (obtain ⟨_,_,e⟩:=us2 hl; subst e; exact PySem.W.binds_K hK rfl td rfl rfl rfl)); (first | (obtain ⟨_,e⟩:=us1 (Nat.succ.inj hl); subst e; exact PySem.W.binds_K hK rfl td rfl rfl rfl) | (obtain ⟨_,_,e⟩:=us2 (Nat.succ.inj hl); subst e; exact PySem.W.binds_K hK rfl td rfl rfl rfl)); (first | (obtain ⟨_,e⟩:=us1 (Nat.succ.inj hl); subst e; exact PySem.W.binds_K hK rfl td rfl rfl rfl) | (obtain ⟨_,_,e⟩:=us2 (Nat.succ.inj hl); subst e; exact PySem.W.binds_K hK rfl td rfl rfl rfl))))
local macro_rules | `(tactic| walk_at "sc")=>`(tactic| exact ⟨rfl,rfl,rfl,by decide +kernel,rfl,by decide +kernel,by decide +kernel⟩)
local macro_rules | `(tactic| walk_at "lk")=>`(tactic| first | walk_at "sc" | walk_at "bnd" | decide)
local macro_rules | `(tactic| walk_at "scl")=>`(tactic| exact ⟨rfl,rfl,rfl,by decide +kernel,rfl,by decide +kernel,by decide +kernel,by decide +kernel,jbf⟩)
local macro_rules | `(tactic| walk_at "bndl")=>`(tactic| (intro _ _ _ _ us hl; first | (obtain ⟨_,_,e⟩:=us2 hl; subst e; rfl) | (obtain ⟨_,_,_,e⟩:=us3 hl; subst e; rfl)))
namespace K42
section
variable{P:au}{w:ax}{K:k8o}{mg:k8r}{base:aA}
theorem Fx:TrT P w K mg base "row_number" ["row"] (top 9) Z4:=by
 intro f cdv A outer s H E xe;unfold Z4
 repeat' (walk_at "ts")
theorem j12:TrT P w K mg base "rows_in" ["part","told"] (top 10) Qt:=by
 intro f cdv A outer s H E xe;unfold Qt
 repeat' (walk_at "ts")
theorem Io:TrT P w K mg base "parts_in" ["part","told"] (top 11) Vl:=by
 intro f cdv A outer s H E xe;unfold Vl
 repeat' (walk_at "ts")
theorem Og:TrT P w K mg base "told_further" ["part","spot","answer"] (top 12) Q4:=by
 intro f cdv A outer s H E xe;unfold Q4
 repeat' (walk_at "ts")
theorem Bs:TrT P w K mg base "all_choices" ["figures_by_spot","chosen","figures","longer","ahead","figure"] (top 13) vy:=by
 intro f cdv A outer s H E xe;unfold vy
 repeat' (walk_at "ts")
theorem Kc:TrT P w K mg base "number_of" ["figures","base","number","figure"] (top 14) Zv:=by
 intro f cdv A outer s H E xe;unfold Zv
 repeat' (walk_at "ts")
theorem Kd:TrT P w K mg base "answer_to" ["question","row"] (top 16) Zw:=by
 intro f cdv A outer s H E xe;unfold Zw
 repeat' (walk_at "ts")
theorem Fw:TrT P w K mg base "settled_by" ["question","part","counted"] (top 17) Z3:=by
 intro f cdv A outer s H E xe;unfold Z3
 repeat' (walk_at "ts")
theorem Fy:TrT P w K mg base "counted_in" ["question","part","answers","row"] (top 18) Z5:=by
 intro f cdv A outer s H E xe;unfold Z5
 repeat' (walk_at "ts")
theorem Ip:TrT P w K mg base "all_open" ["question"] (top 19) Vm:=by
 intro f cdv A outer s H E xe;unfold Vm
 repeat' (walk_at "ts")
theorem Bq:TrT P w K mg base "prices_told" ["many","prices"] (top 23) Qv:=by
 intro f cdv A outer s H E xe;unfold Qv
 repeat' (walk_at "ts")
theorem Bt:TrT P w K mg base "all_between" ["numbers","least","number"] (top 24) Vd:=by
 intro f cdv A outer s H E xe;unfold Vd
 repeat' (walk_at "ts")
theorem Bo:TrT P w K mg base "worst_table" ["question","prices"] (top 26) Qs:=by
 intro f cdv A outer s H E xe;unfold Qs
 repeat' (walk_at "ts")
theorem Um (hl:Q3 K "worst_cost_of_ask" = Wz (jn (top 27))):TrT P w K mg base "worst_cost_of_ask" ["question","prices","price_at"] (top 27) vo:=by
 intro f cdv A outer s H E xe;unfold vo
 repeat' (walk_at "ts")
theorem Br:TrT P w K mg base "least_table" ["question","cost_of_ask"] (top 28) Qw:=by
 intro f cdv A outer s H E xe;unfold Qw
 repeat' (walk_at "ts")
theorem O3 (hl:Q3 K "least_numbers" = Wz (jn (top 29))):TrT P w K mg base "least_numbers" ["whole_part","question","cost_of_ask"] (top 29) Jy:=by
 intro f cdv A outer s H E xe;unfold Jy
 repeat' (walk_at "ts")
theorem Wq:TrT P w K mg base "numbers_within" ["whole_part","question","number_unsettled","numbers","part","settled"] (top 30) vf:=by
 intro f cdv A outer s H E xe;unfold vf
 repeat' (walk_at "ts")
theorem Oi:TrT P w K mg base "cheapest_ask" ["numbers","part","cost_of_ask","spot","told"] (top 31) Q6:=by
 intro f cdv A outer s H E xe;unfold Q6
 repeat' (walk_at "ts")
theorem Wr:TrT P w K mg base "numbers_behind" ["numbers","part","spot","answer"] (top 32) Jc:=by
 intro f cdv A outer s H E xe;unfold Jc
 repeat' (walk_at "ts")
theorem Bp:TrT P w K mg base "round_table" ["question","at_once"] (top 36) Qu:=by
 intro f cdv A outer s H E xe;unfold Qu
 repeat' (walk_at "ts")
theorem Oh:TrT P w K mg base "round_to_ask" ["question","part","at_once","spots","spot"] (top 37) Q5:=by
 intro f cdv A outer s H E xe;unfold Q5
 repeat' (walk_at "ts")
theorem O2 (hl:Q3 K "round_numbers" = Wz (jn (top 38))):TrT P w K mg base "round_numbers" ["whole_part","question","at_once"] (top 38) Jx:=by
 intro f cdv A outer s H E xe;unfold Jx
 repeat' (walk_at "ts")
theorem Dc:TrT P w K mg base "best_round" ["numbers","part","at_once","spots"] (top 39) Z6:=by
 intro f cdv A outer s H E xe;unfold Z6
 repeat' (walk_at "ts")
theorem Wo:TrT P w K mg base "greatest_behind" ["numbers","part","spots","parts_behind","spot","told","behind"] (top 40) J7:=by
 intro f cdv A outer s H E xe;unfold J7
 repeat' (walk_at "ts")
theorem Ka:TrT P w K mg base "rounds_at" ["part","at_once","chosen","spot","told","spots"] (top 41) Zu:=by
 intro f cdv A outer s H E xe;unfold Zu
 repeat' (walk_at "ts")
theorem Ug:TrT P w K mg base "refuse_wrong_round" ["at_once"] (top 42) v5:=by
 intro f cdv A outer s H E xe;unfold v5
 repeat' (walk_at "ts")
theorem j6v:TrT P w K mg base "_law_cell" ["_law_script","_law_k","_law_spare"] (top 44) Y9:=by
 intro f cdv A outer s H E xe;unfold Y9
 repeat' (walk_at "ts")
theorem j48:TrT P w K mg base "_law_words" ["_law_cell_here","_law_many","_law_letters","_law_names","_law_rest","_law_k","_law_size","_law_name","_law_turn","_law_long","_law_start","_law_stem","_law_at"] (top 45) Wi:=by
 intro f cdv A outer s H E xe;unfold Wi
 repeat' (walk_at "ts")
theorem ja3:TrT P w K mg base "_law_bit" ["_law_row","_law_kind","_law_cell_here","_law_some","_law_k","_law_kept","_law_by_row","_law_one","_law_mixed"] (top 46) Uy:=by
 intro f cdv A outer s H E xe;unfold Uy
 repeat' (walk_at "ts")
theorem Ir:TrT P w K mg base "_law_question" ["_law_script","_law_at","_law_most","_law_many","_law_places","_law_kind","_law_cell_here","_law_answers","_law_number","_law_row","_law_k"] (top 47) Vn:=by
 intro f cdv A outer s H E xe;unfold Vn
 repeat' (walk_at "ts")
theorem j2y:TrT P w K mg base "_law_threes" ["_law_many","_law_power","_law_k"] (top 48) Ub:=by
 intro f cdv A outer s H E xe;unfold Ub
 repeat' (walk_at "ts")
theorem j30:TrT P w K mg base "_law_digits" ["_law_many","_law_index","_law_digits_here","_law_k"] (top 49) Ud:=by
 intro f cdv A outer s H E xe;unfold Ud
 repeat' (walk_at "ts")
theorem j49:TrT P w K mg base "_law_steps" ["_law_many","_law_index","_law_digits_here","_law_steps_here","_law_k","_law_power"] (top 50) Wj:=by
 intro f cdv A outer s H E xe;unfold Wj
 repeat' (walk_at "ts")
theorem j6u:TrT P w K mg base "_law_ones" ["_law_question_here","_law_many","_law_found","_law_index","_law_steps_here","_law_number","_law_digit","_law_if_no","_law_if_yes"] (top 51) Mw:=by
 intro f cdv A outer s H E xe;unfold Mw
 repeat' (walk_at "ts")
theorem j13:TrT P w K mg base "_law_is_open" ["_law_counts"] (top 52) Y5:=by
 intro f cdv A outer s H E xe;unfold Y5
 repeat' (walk_at "ts")
theorem j2z:TrT P w K mg base "_law_played" ["_law_question_here","_law_ones_here","_law_at_once","_law_row","_law_most","_law_many","_law_index","_law_turn","_law_place","_law_spot","_law_power"] (top 53) Uc:=by
 intro f cdv A outer s H E xe;unfold Uc
 repeat' (walk_at "ts")
theorem j99:TrT P w K mg base "law" ["_law_script","_law_question_here","_law_many","_law_lasts","_law_k","_law_ones_here","_law_at_once","_law_cell_here"] (top 54) j3v:=by
 intro f cdv A outer s H E xe;unfold j3v
 repeat' (walk_at "ts")
theorem Uo:TrL P w K mg base "worst_cost_of_ask" ["price_at","numbers","part","spot"] (lamT (top 27)) vm:=by
 intro a c cl A outer s H;unfold vm
 repeat' (walk_at "ts")
theorem O5:TrL P w K mg base "least_numbers" ["cost_of_ask","numbers","part"] (lamT (top 29)) Jv:=by
 intro a c cl A outer s H;unfold Jv
 repeat' (walk_at "ts")
theorem O4:TrL P w K mg base "round_numbers" ["at_once","numbers","part"] (lamT (top 38)) Ju:=by
 intro a c cl A outer s H;unfold Ju
 repeat' (walk_at "ts")
end
set_option maxHeartbeats 0 in
theorem head {l:d6} {w:ax} {K:k8o} {h:aA} {mg:k8r} {fa:aa} (X:K.In h) (Gn:h.Ns aq mg) (hfa:mg "law" = a3 (.ref fa))
  (h0:Lf K "row_number" (top 9))
  (h1:Lf K "rows_in" (top 10))
  (h2:Lf K "parts_in" (top 11))
  (h3:Lf K "told_further" (top 12))
  (h4:Lf K "all_choices" (top 13))
  (h5:Lf K "number_of" (top 14))
  (h6:Lf K "answer_to" (top 16))
  (h7:Lf K "settled_by" (top 17))
  (h8:Lf K "counted_in" (top 18))
  (h9:Lf K "all_open" (top 19))
  (h10:Lf K "prices_told" (top 23))
  (h11:Lf K "all_between" (top 24))
  (h12:Lfd K "worst_table" (top 26))
  (h13:Lf K "worst_cost_of_ask" (top 27))
  (h14:Lf K "least_table" (top 28))
  (h15:Lf K "least_numbers" (top 29))
  (h16:Lf K "numbers_within" (top 30))
  (h17:Lf K "cheapest_ask" (top 31))
  (h18:Lf K "numbers_behind" (top 32))
  (h19:Lf K "round_table" (top 36))
  (h20:Lf K "round_to_ask" (top 37))
  (h21:Lf K "round_numbers" (top 38))
  (h22:Lf K "best_round" (top 39))
  (h23:Lf K "greatest_behind" (top 40))
  (h24:Lf K "rounds_at" (top 41))
  (h25:Lf K "refuse_wrong_round" (top 42))
  (h26:Lf K "_law_cell" (top 44))
  (h27:Lf K "_law_words" (top 45))
  (h28:Lf K "_law_bit" (top 46))
  (h29:Lf K "_law_question" (top 47))
  (h30:Lf K "_law_threes" (top 48))
  (h31:Lf K "_law_digits" (top 49))
  (h32:Lf K "_law_steps" (top 50))
  (h33:Lf K "_law_ones" (top 51))
  (h34:Lf K "_law_is_open" (top 52))
  (h35:Lf K "_law_played" (top 53))
  (h36:Lf K "law" (top 54))
  (bz:bOk K=a7) {ts:List aa} (tz:tOk K ts=a7)
  {gt1:gy} {gt2:gy} {ga0:aa} {ga0n:Nat} {ga0s:Array (Option a8)} {gt3:gy} {gt5:gy} {gt6:gy} {gt7:gy} {ga4:aa} {ga4n:Nat} {ga4s:Array (Option a8)} {gt8:gy} {gt9:gy} {gt10:gy} {gt11:gy}
  (ga0l:K.lookup ga0=a3 ⟨.type "tuple",a6,.seq #[.int 0 gt1,.int 1 gt2] ga0n,ga0s⟩) (gn0:bW K aq "ANSWERS" = a3 (a3 (.ref ga0))) (gn1:bW K aq "NOT_TOLD" = a3 (a3 (.int 2 gt3))) (ga4l:K.lookup ga4=a3 ⟨.type "tuple",a6,.seq #[.int 0 gt5,.int 1 gt6,.int 2 gt7] ga4n,ga4s⟩) (gn2:bW K aq "TELLINGS" = a3 (a3 (.ref ga4))) (gn3:bW K aq "LEAST_PRICE" = a3 (a3 (.int 1 gt8))) (gn4:bW K aq "GREATEST_NUMBER" = a3 (a3 (.int 1000000 gt9))) (gn5:bW K aq "FEWEST_AT_ONCE" = a3 (a3 (.int 1 gt10))) (gn6:bW K aq "MOST_AT_ONCE" = a3 (a3 (.int 6 gt11)))
  (exa:Ky K=a7)
  {fu n:Nat} (hlaw:∀ns:List Int,ns.length<=63->evP fu G T (n+1) "law" [.lst (ns.map D.int)]=.val (.bl a7)) :
  ∃fd:aJ,(∀(s:af)(v:a8),d5 s fd ⟨[v],[]⟩ [("_law_script",v)])/\∀base:aA,K.In base->base.Ns aq mg->FnOk l.prog w K mg base CX0 (lv (n+1)) fa fd ["_law_script"] (Ko K):=by
 have hL:=h36;obtain⟨f,oc,od,kV,dc,pm,an,cd,ct,sl,a,lk,c,k⟩:=hL;have e:=hfa.symm.trans (Tv X Gn a);cases e;refine⟨PySem.W.fnOf "law" "law" (zj (top 54)) (jn (top 54)) (jb (top 54)) .none kV dc pm an cd ct,λs v=>.of_eq rfl,λbase hKb hNb=>?_⟩;have hT:∀x F,T x=a3 F->LkF l.prog w K mg base x F:=λx F hx=>by
  have all:∀p∈tbl,LkF l.prog w K mg base p.1 p.2:=by
   intro p hp;simp only[tbl,xr,fg,or_false]at hp;rcases hp with rfl|rfl|rfl|rfl|rfl|rfl|rfl|rfl|rfl|rfl|rfl|rfl|rfl|rfl|rfl|rfl|rfl|rfl|rfl|rfl|rfl|rfl|rfl|rfl|rfl|rfl|rfl|rfl|rfl|rfl|rfl|rfl|rfl|rfl|rfl|rfl|rfl|rfl|rfl|rfl
   .refine lkF (jz h0 X Gn Fx ["row"] ?_ rfl rfl ?_ ?_) rfl ?_<;>walk_at "lk"
   .refine lkF (jz h1 X Gn j12 ["part"] ?_ rfl rfl ?_ ?_) rfl ?_<;>walk_at "lk"
   .refine lkF (jz h2 X Gn Io ["part"] ?_ rfl rfl ?_ ?_) rfl ?_<;>walk_at "lk"
   .refine lkF (jz h3 X Gn Og ["part","spot","answer"] ?_ rfl rfl ?_ ?_) rfl ?_<;>walk_at "lk"
   .refine lkF (jz h4 X Gn Bs ["figures_by_spot"] ?_ rfl rfl ?_ ?_) rfl ?_<;>walk_at "lk"
   .refine lkF (jz h5 X Gn Kc ["figures","base"] ?_ rfl rfl ?_ ?_) rfl ?_<;>walk_at "lk"
   .refine lkF (jz h6 X Gn Kd ["question","row"] ?_ rfl rfl ?_ ?_) rfl ?_<;>walk_at "lk"
   .refine lkF (jz h7 X Gn Fw ["question","part"] ?_ rfl rfl ?_ ?_) rfl ?_<;>walk_at "lk"
   .refine lkF (jz h8 X Gn Fy ["question","part"] ?_ rfl rfl ?_ ?_) rfl ?_<;>walk_at "lk"
   .refine lkF (jz h9 X Gn Ip ["question"] ?_ rfl rfl ?_ ?_) rfl ?_<;>walk_at "lk"
   .refine lkF (jz h10 X Gn Bq ["many","prices"] ?_ rfl rfl ?_ ?_) rfl ?_<;>walk_at "lk"
   .refine lkF (jz h11 X Gn Bt ["numbers","least"] ?_ rfl rfl ?_ ?_) rfl ?_<;>walk_at "lk"
   .exact lkF (jec h12 X Gn Bo ["question","prices"] (by walk_at "sc") rfl rfl (by decide) (by walk_at "bnk")) rfl (by decide)
   .refine lkF (jz h13 X Gn (Um (V5 h13)) ["question","prices"] ?_ rfl rfl ?_ ?_) rfl ?_<;>walk_at "lk"
   .refine lkF (jz h14 X Gn Br ["question","cost_of_ask"] ?_ rfl rfl ?_ ?_) rfl ?_<;>walk_at "lk"
   .refine lkF (jz h15 X Gn (O3 (V5 h15)) ["whole_part","question","cost_of_ask"] ?_ rfl rfl ?_ ?_) rfl ?_<;>walk_at "lk"
   .refine lkF (jz h16 X Gn Wq ["whole_part","question","number_unsettled"] ?_ rfl rfl ?_ ?_) rfl ?_<;>walk_at "lk"
   .refine lkF (jz h17 X Gn Oi ["numbers","part","cost_of_ask"] ?_ rfl rfl ?_ ?_) rfl ?_<;>walk_at "lk"
   .refine lkF (jz h18 X Gn Wr ["numbers","part","spot"] ?_ rfl rfl ?_ ?_) rfl ?_<;>walk_at "lk"
   .refine lkF (jz h19 X Gn Bp ["question","at_once"] ?_ rfl rfl ?_ ?_) rfl ?_<;>walk_at "lk"
   .refine lkF (jz h20 X Gn Oh ["question","part","at_once"] ?_ rfl rfl ?_ ?_) rfl ?_<;>walk_at "lk"
   .refine lkF (jz h21 X Gn (O2 (V5 h21)) ["whole_part","question","at_once"] ?_ rfl rfl ?_ ?_) rfl ?_<;>walk_at "lk"
   .refine lkF (jz h22 X Gn Dc ["numbers","part","at_once"] ?_ rfl rfl ?_ ?_) rfl ?_<;>walk_at "lk"
   .refine lkF (jz h23 X Gn Wo ["numbers","part","spots"] ?_ rfl rfl ?_ ?_) rfl ?_<;>walk_at "lk"
   .refine lkF (jz h24 X Gn Ka ["part","at_once"] ?_ rfl rfl ?_ ?_) rfl ?_<;>walk_at "lk"
   .refine lkF (jz h25 X Gn Ug ["at_once"] ?_ rfl rfl ?_ ?_) rfl ?_<;>walk_at "lk"
   .refine lkF (jz h26 X Gn j6v ["_law_script","_law_k"] ?_ rfl rfl ?_ ?_) rfl ?_<;>walk_at "lk"
   .refine lkF (jz h27 X Gn j48 ["_law_cell_here","_law_many"] ?_ rfl rfl ?_ ?_) rfl ?_<;>walk_at "lk"
   .refine lkF (jz h28 X Gn ja3 ["_law_row","_law_kind","_law_cell_here"] ?_ rfl rfl ?_ ?_) rfl ?_<;>walk_at "lk"
   .refine lkF (jz h29 X Gn Ir ["_law_script","_law_at","_law_most"] ?_ rfl rfl ?_ ?_) rfl ?_<;>walk_at "lk"
   .refine lkF (jz h30 X Gn j2y ["_law_many"] ?_ rfl rfl ?_ ?_) rfl ?_<;>walk_at "lk"
   .refine lkF (jz h31 X Gn j30 ["_law_many","_law_index"] ?_ rfl rfl ?_ ?_) rfl ?_<;>walk_at "lk"
   .refine lkF (jz h32 X Gn j49 ["_law_many","_law_index"] ?_ rfl rfl ?_ ?_) rfl ?_<;>walk_at "lk"
   .refine lkF (jz h33 X Gn j6u ["_law_question_here"] ?_ rfl rfl ?_ ?_) rfl ?_<;>walk_at "lk"
   .refine lkF (jz h34 X Gn j13 ["_law_counts"] ?_ rfl rfl ?_ ?_) rfl ?_<;>walk_at "lk"
   .refine lkF (jz h35 X Gn j2z ["_law_question_here","_law_ones_here","_law_at_once","_law_row","_law_most"] ?_ rfl rfl ?_ ?_) rfl ?_<;>walk_at "lk"
   .refine lkF (jz h36 X Gn j99 ["_law_script"] ?_ rfl rfl ?_ ?_) rfl ?_<;>walk_at "lk"
   .exact j08 (by decide +kernel) (V5 h13) rfl Uo ["numbers","part","spot"] (by walk_at "scl") rfl rfl rfl rfl (by walk_at "bndl")
   .exact j08 (by decide +kernel) (V5 h15) rfl O5 ["numbers","part"] (by walk_at "scl") rfl rfl rfl rfl (by walk_at "bndl")
   .exact j08 (by decide +kernel) (V5 h21) rfl O4 ["numbers","part"] (by walk_at "scl") rfl rfl rfl rfl (by walk_at "bndl")
  exact all (x,F) (lookup_mem hx)
 have bt:=ji5 X Gn bz;have gl:∀x d,gs.lookup x=a3 d->∃u v,mg x=a3 u/\RelV v u/\∀H,Enc K H d v:=by
  intro x d hx;have hm:=lookup_mem hx;simp only[gs,xr,fg,or_false,Prod.mk.injEq]at hm;rcases hm with ⟨e1,e2⟩|⟨e1,e2⟩|⟨e1,e2⟩|⟨e1,e2⟩|⟨e1,e2⟩|⟨e1,e2⟩|⟨e1,e2⟩
  .subst e1 e2;exact⟨.ref ga0,.ref ga0,Tv X Gn gn0,rfl,λH=>⟨ga0,[.int 0,.int 1],rfl,.inr ⟨_,_,_,ga0l,rfl,rfl,rfl,(by show 2<=ak;decide),(.cons ⟨_,rfl⟩ (.cons ⟨_,rfl⟩ .nil))⟩,⟨_,_,rfl,rfl,⟨_,_,rfl,rfl,rfl⟩⟩⟩⟩
  .subst e1 e2;exact⟨.int 2 gt3,.int 2,Tv X Gn gn1,⟨_,rfl⟩,λ_=>rfl⟩
  .subst e1 e2;exact⟨.ref ga4,.ref ga4,Tv X Gn gn2,rfl,λH=>⟨ga4,[.int 0,.int 1,.int 2],rfl,.inr ⟨_,_,_,ga4l,rfl,rfl,rfl,(by show 3<=ak;decide),(.cons ⟨_,rfl⟩ (.cons ⟨_,rfl⟩ (.cons ⟨_,rfl⟩ .nil)))⟩,⟨_,_,rfl,rfl,⟨_,_,rfl,rfl,⟨_,_,rfl,rfl,rfl⟩⟩⟩⟩⟩
  .subst e1 e2;exact⟨.int 1 gt8,.int 1,Tv X Gn gn3,⟨_,rfl⟩,λ_=>rfl⟩
  .subst e1 e2;exact⟨.int 1000000 gt9,.int 1000000,Tv X Gn gn4,⟨_,rfl⟩,λ_=>rfl⟩
  .subst e1 e2;exact⟨.int 1 gt10,.int 1,Tv X Gn gn5,⟨_,rfl⟩,λ_=>rfl⟩
  .subst e1 e2;exact⟨.int 6 gt11,.int 6,Tv X Gn gn6,⟨_,rfl⟩,λ_=>rfl⟩
 have qn:∀f∈qs,∃fa,mg f=a3 (.ref fa)/\PySem.W.keepIn K (.ref fa)=a7:=by exact λf hf=>nomatch hf
 have tb:Tb l.prog w K mg base G:=jgn bt gl exa (λp hp=>nomatch hp) (λz=>by cases z) hKb hNb qn (λp hp=>nomatch hp) (jhg tz X Gn);exact jed hT tb (F:=j3l) (by rfl) rfl hfa (Nu lk c k) _ (by walk_at "sc") rfl rfl (j99 _) hlaw
end K42
end
open PySem (Str sizeLine argBest)
open L2
namespace K42
open KL KW KV
theorem Nr:T "_law_cell" = a3 KL.fL_cell:=by rfl
theorem Oz:T "all_choices" = a3 KL.fP_all_choices:=by rfl
theorem jbm:T "rows_in" = a3 KL.fP_rows_in:=by rfl
theorem jey:T "_law_bit" = a3 KW.fL_bit:=by rfl
theorem gN:G "NOT_TOLD" = a3 (.int 2):=by rfl
theorem gA:G "ANSWERS" = a3 (.tup [.int 0,.int 1]):=by rfl
theorem gT:G "TELLINGS" = a3 (.tup [.int 0,.int 1,.int 2]):=by rfl
theorem Qh{b:Int}:∀{m i:Nat}{z:Int},i<m->(j6 b m z)[i]?=a3 (z/b^(m-1-i)%b)
 |m+1,0,z,_=>by rw[j6,List.getElem?_cons_zero];simp
 |m+1,i+1,z,h=>by rw[j6,dr,Qh nofun];congr 3;congr 1;omega
theorem j19 {fu n m:Nat} {z b:Int} (hm:m<=6) (hb:b=2\/b=3) (hz:0<=z/\z<b^m):evP fu G T (n+1) "number_of" [.tup ((j6 b m z).map .int),.int b]=.val (.int z):=by
 rw[jl (F:=Yo) (by rfl) rfl];simp only[Yo,Zv,enter];ext;have z0:z/b^m=0:=Tp hz.1 hz.2;refine Qa (λi ρ=>∃s3,ρ=[.val (.tup ((j6 b m z).map .int)),.val (.int b),.val (.int (z/b^(m-i))),s3]) ⟨.un,by rw[gW,z0]⟩ ?_ ?_
 .rintro i d ρ hi ⟨s3,rfl⟩;obtain⟨v,hv,rfl⟩:=W8 hi;have hlt:i<m:=by have:=(X7.mp hv).1;rw[qb]at this;exact this
  rw[Qh hlt]at hv;cases hv;simp only[zm];ext;refine⟨_,rfl,?_⟩;have e1:m-i=(m-1-i)+1:=by omega
  have e2:m-(i+1)=m-1-i:=by omega
  have e3:z/b^(m-i)*b+z/b^(m-1-i)%b=z/b^(m-(i+1)):=by rw[e1,e2,<-Be z b nofun,dG];exact ia _ _
  rw[e3];exact⟨_,rfl⟩
 .rintro ρ' ⟨s3,rfl⟩;ext;simp[qb]
theorem j4k {n m:Nat} {z:Int} (h:1<=m/\m<=6) (hz:0<=z/\z<2^m):evP 1000 G T (n+2) "row_number" [jd (j6 2 m z)]=.val (.int z):=by
 rw[jl (F:=Vt) (by rfl) rfl];simp only[Vt,Z4,enter];ext;simp only[gA];ext;have e:evP 1000 G T (n+1) "number_of" [jd (j6 2 m z),.int 2]=.val (.int z):=j19 h.2 (.inl rfl) hz;have e2:(((0+1+1:Nat):Int))=2:=rfl
 first|rw[e]|(rw[e2,e])
 ext
noncomputable def qD(ws:List ah)(a:List Int):D:=.tup [.tup (ws.map D.str),.tup (a.map D.int)]
theorem j0e{p:List Int}{k:Nat}(h:k<p.length):atI (p.map D.int) (k:Int)=a3 (.int (p.getD k 0)):=by
 have:=j2a h
 rwa [cQ]at this
theorem j1k {n m k:Nat} {ws:List ah} {a:List Int} (hm:1<=m/\m<=6) (ha:a.length=2^m) (hk:k<2^m):evP 1000 G T (n+3) "answer_to" [qD ws a,jd (j6 2 m (k:Int))]=.val (.int (a.getD k 0)):=by
 rw[jl (F:=Yp) (by rfl) rfl];simp only[Yp,Zw,enter,qD];have pc:((2^m:Nat):Int)=(2:Int)^m:=by simp
 have i1:atI [D.tup (ws.map D.str),.tup (a.map D.int)] 1=a3 (.tup (a.map D.int)):=rfl;ext;erw[i1,j4k (n:=n) hm nofun,j0e nofun]
theorem jfj{l:List D}{k:Nat}(h:k<=l.length):cutD l a6 (a3 (k:Int))=l.take k:=by unfold cutD;rw[HT.sIx_none,HT.sIx_nat,dS,gW,jQ h]
theorem j5y{l:List D}{k:Nat}(h:k<=l.length):cutD l (a3 (k:Int)) a6=l.drop k:=by unfold cutD;rw[HT.sIx_none,HT.sIx_nat,jQ h,Tn (by rw[T4];omega)]
noncomputable def inL(p:List Int)(m:Nat):List Nat:=(ar (2^m)).filter λ(k:Nat)=>fits p (j6 2 m (k:Int))
noncomputable def cnt(a p:List Int)(m:Nat)(v:Int):Nat:=(inL p m).countP λ(k:Nat)=>a.getD k 0==v
theorem W6{p:List Int}{m:Nat}(hp:p.length=m)(hp3:∀t∈p,0<=t/\t<3):ql (p.map Zb)=(inL p m).map λ(k:Nat)=>j6 2 m (k:Int):=by rw[J6,<-Rb hp3,hp,<-Eo,jK];rfl
theorem jbl{p:List Int}{m:Nat}(hp:p.length=m)(hp3:∀t∈p,0<=t/\t<3):1<=(inL p m).length/\(inL p m).length<=2^m:=by
 have h1:=congrArg cF (W6 hp hp3);rw[J6,Ye,xf]at h1;constructor
 .rw[<-h1];exact Nat.one_le_two_pow
 .unfold inL;exact Xg (Pq _ _) (by rw[Xm];exact X3 _)
theorem j2j{a:List Int}(h01:∀x∈a,x=0\/x=1):∀L:List Nat,(L.countP λ(k:Nat)=>a.getD k 0==0)+(L.countP λ(k:Nat)=>a.getD k 0==1)=L.length
 |[]=>rfl
 |k::L=>by
  have ih:=j2j h01 L;rw[Xu,Xu,xq]
  try dsimp only
  rcases Kz h01 k with e|e
  .rw[e,if_pos (by decide),if_neg (by decide)];omega
  .rw[e,if_neg (by decide),if_pos (by decide)];omega
theorem j0l {n m:Nat} {ws:List ah} {a p:List Int} (hm:1<=m/\m<=6) (ha:a.length=2^m) (hp:p.length=m) (hp3:∀t∈p,0<=t/\t<3):evP 1000 G T (n+4) "counted_in" [qD ws a,jd p]=.val (.tup [.int (cnt a p m 0),.int (cnt a p m 1)]):=by
 rw[jl (F:=Vu) (by rfl) rfl];simp only[Vu,Z5,enter];have ri:evP 1000 G T (n+3) "rows_in" [jd p]=.fresh (qe (ql (p.map Zb))):=j15 (n:=n+1) jbm Oz gN gA nofun
 have as1:∀k:Nat,k<2^m->evP 1000 G T (n+3) "answer_to" [qD ws a,jd (j6 2 m (k:Int))]=.val (.int (a.getD k 0)):=λk hk=>j1k hm ha hk;have l:=jbl hp hp3;have p2:=j7f hm.2;have pc:((2^m:Nat):Int)=(2:Int)^m:=by simp
 have cn:∀v:Int,(((inL p m).map λ(k:Nat)=>D.int (a.getD k 0)).countP λe=>deq e (.int v))=cnt a p m v:=λv=>by rw[jL];rfl
 have dp:D.depL ((inL p m).map λ(k:Nat)=>D.int (a.getD k 0))<=90:=by
  have:=D.depL_of (ds:=(inL p m).map λ(k:Nat)=>D.int (a.getD k 0)) (n:=0) λd hd=>by obtain⟨x,_,rfl⟩:=X5.mp hd;simp[D.dep]
  omega
 ext;rw[ri,W6 hp hp3];ext;rw[qi (l:=(inL p m).map λ(k:Nat)=>D.int (a.getD k 0)) (by rfl) (by simp only[qe,xf];omega) ?_ (.inl rfl)];rotate_left
 .rw[qe,Xc];refine jy λk hk'=>z9 (by ext) ?_;have hk:=Xd.mp (Xl.mp hk').1;ext;rw[cu,as1 k hk];ext
 ext;rw[j2i dp (by simp[D.dep]),j2i dp (by simp[D.dep]),cn,cn];ext
theorem Ef {n m:Nat} {ws:List ah} {a p:List Int} (hm:1<=m/\m<=6) (ha:a.length=2^m) (hp:p.length=m) (hp3:∀t∈p,0<=t/\t<3):evP 1000 G T (n+5) "settled_by" [qD ws a,jd p]=.val (if cnt a p m 1=0 then .int 0 else if cnt a p m 0=0 then .int 1 else .non):=by
 rw[jl (F:=Vs) (by rfl) rfl];simp only[Vs,Z3,enter];have i0:∀x y:D,atI [x,y] 0=a3 x:=λ_ _=>rfl;have i1:∀x y:D,atI [x,y] 1=a3 y:=λ_ _=>rfl;have c:=j0l (n:=n) (ws:=ws) hm ha hp hp3;ext;rw[c];ext;rw[i1];by_cases h1:cnt a p m 1=0
 .ext;rw[if_pos h1]
 .rw[if_neg h1];ext;rw[i0];by_cases h0:cnt a p m 0=0
  .ext;rw[if_pos h0]
  .ext;rw[if_neg h0]
noncomputable def j32(c0 c1:Nat):D:=if c1=0 then .int 0 else if c0=0 then .int 1 else .non
theorem Wu {n m:Nat} {ws:List ah} {a p:List Int} (hm:1<=m/\m<=6) (ha:a.length=2^m) (hp:p.length=m) (hp3:∀t∈p,0<=t/\t<3):evP 1000 G T (n+5) "settled_by" [.tup [.tup (ws.map D.str),.tup (a.map D.int)],jd p]=.val (j32 (cnt a p m 0) (cnt a p m 1)):=Ef hm ha hp hp3
theorem Es{m:Nat}(h:m<=6):1<=3^m/\3^m<=729:=by
 have:m=0\/m=1\/m=2\/m=3\/m=4\/m=5\/m=6:=by omega
 rcases this with e|e|e|e|e|e|e<;>subst e<;>decide
theorem Rm(p:List Int):Jt (p.map D.int)=(ar p.length).map λ(s:Nat)=>D.tup [.int (s:Int),.int (p.getD s 0)]:=by
 refine Tw λi=>?_;rw[Lp,xx,xx];by_cases h:i<p.length
 .rw[Pb h,kh h];simp[h]
 .rw[Xx nofun,Xx (by simp;omega)];rfl
noncomputable def stD(a p:List Int)(m:Nat):D:=j32 (cnt a p m 0) (cnt a p m 1)
theorem Cu {n s:Nat} {p:List Int} {v:Int} (hl:p.length<=6) (hs:s<p.length) (h2:p.getD s 0=2):evP 1000 G T (n+1) "told_further" [jd p,.int s,.int v]=.val (jd (p.set s v)):=by
 rw[jl (F:=Zo) (by rfl) rfl];simp only[Zo,Q4,enter];have gi:=j0e hs;rw[h2]at gi;have lp:(p.map D.int).length=p.length:=xf ..;have w1:¬(HT.sIx (p.map D.int).length 0 a6=0/\HT.sIx (p.map D.int).length (p.map D.int).length (a3 (s:Int))=(p.map D.int).length):=by rw[HT.sIx_nat,lp];omega
 have e1:(s:Int)+1=((s+1:Nat):Int):=by omega
 have w2:¬(HT.sIx (p.map D.int).length 0 (a3 ((s+1:Nat):Int))=0/\HT.sIx (p.map D.int).length (p.map D.int).length a6=(p.map D.int).length):=by rw[HT.sIx_nat,lp];omega
 ext;rw[gi];ext;simp only[gN];ext;rw[j4b w1,e1,j4b w2,jfj nofun,j5y nofun];ext;rw[jd,eZ,if_pos hs];simp
theorem Ba:∀{p r:List Int}{s:Nat}{x:Int},p.length=r.length->s<p.length->p.getD s 0=2->x≠2->fits (p.set s x) r=(fits p r&&decide (x=r.getD s 0))
 |[],_,s,x,_,hs,_,_=>by simp at hs
 |_::_,[],_,_,h,_,_,_=>by simp at h
 |t::ts,y::ys,0,x,h,_,h2,hx=>by
  have:t=2:=by simpa using h2
  subst this;simp only[T6,fits,cH];by_cases e:x=y
  .subst e;simp[hx]
  .simp[hx,e]
 |t::ts,y::ys,s+1,x,h,hs,h2,hx=>by have ih:=Ba (p:=ts) (r:=ys) (s:=s) (x:=x) (by simpa using h) (by simpa using hs) (by simpa using h2) hx;simp only[Pu,fits,Ti,ih,Bool.and_assoc]
theorem Ob{f g h:Nat->Bool}:∀{L:List Nat},(∀k∈L,(f k=a7->g k=a4)/\(h k=(f k || g k)))->L.countP f+L.countP g=L.countP h
 |[],_=>rfl
 |k::L,q=>by
  have ih:=Ob (f:=f) (g:=g) (h:=h) (L:=L) λj hj=>q j (km _ hj);obtain⟨q1,q2⟩:=q k (xn ..);rw[Xu,Xu,Xu,q2];cases e1:f k with
  |true=>rw[q1 e1];simp;omega
  |false=>cases e2:g k<;>simp<;>omega
theorem j60{a p:List Int}{m s:Nat}{v:Int}(hp:p.length=m)(hs:s<m)(h2:p.getD s 0=2):cnt a (p.set s 0) m v+cnt a (p.set s 1) m v=cnt a p m v:=by unfold cnt inL;rw[eK,eK,eK];refine Ob λk hk=>?_;have l:=qb 2 m (k:Int);have b:=Kz (j3p m (k:Int)) s;rw[Ba nofun nofun h2 (by decide),Ba nofun nofun h2 (by decide)];rcases b with e|e<;>rw[e]<;>cases(a.getD k 0==v)<;>cases fits p (j6 2 m (k:Int))<;>simp
theorem jcy{p:List Int}{m s:Nat}{v:Int}(hp:p.length=m)(hp3:∀t∈p,0<=t/\t<3)(hv:v=0\/v=1):(p.set s v).length=m/\∀t∈p.set s v,0<=t/\t<3:=by
 refine⟨by rw[Xy];exact hp,λt ht=>?_⟩;rcases fZ ht with h|h
 .exact hp3 t h
 .rw[h];omega
theorem j2k{a p:List Int}{m:Nat}(h01:∀x∈a,x=0\/x=1)(hp:p.length=m)(hp3:∀t∈p,0<=t/\t<3):cnt a p m 0+cnt a p m 1=2^(p.countP λt=>t==2):=by have h:=j2j h01 (inL p m);have h1:=congrArg cF (W6 hp hp3);rw[J6,Ye,xf]at h1;unfold cnt;omega
theorem Cz:∀{p:List Int},(p.countP λt=>t==2)=0->zb (p.map Zb)=[p]
 |[],_=>rfl
 |t::ts,h=>by
  rw[Xu]at h;have h1:(ts.countP λt=>t==2)=0:=by omega
  have h2:t≠2:=λz=>by subst z;simp at h
  rw[X4,zb,Cz h1];simp[Zb,h2]
theorem j6w{p:List Int}{m:Nat}(hp:p.length=m)(hp3:∀t∈p,0<=t/\t<3)(h0:(p.countP λt=>t==2)=0):∃k:Nat,k<2^m/\p=j6 2 m (k:Int)/\inL p m=[k]:=by
 have h:=W6 hp hp3;rw[J6,Cz h0]at h;cases e:inL p m with
 |nil=>rw[e]at h;cases h
 |cons k r =>
  rw[e]at h;cases r with
  |cons j r=>simp at h
  |nil =>
   simp only[X4,cM,List.cons.injEq,and_true]at h;have hk:k∈inL p m:=by rw[e];exact xn ..
   exact⟨k,Xd.mp (Xl.mp hk).1,h,rfl⟩
theorem Lr{p:List Int}{s:Nat}{v:Int}(hs:s<p.length)(h2:p.getD s 0=2)(hv:v=0\/v=1):((p.set s v).countP λt=>t==2)+1=p.countP λt=>t==2:=by
 have g:p[s]=2:=by rw[kj,kh hs]at h2;exact h2
 have e:p=p.take s++2::p.drop (s+1):=by have:=gY s p;rw[bQ hs,g]at this;exact this.symm
 rw[eZ,if_pos hs]
 conv=>rhs;rw[e]
 rw[iC,iC,Xu,Xu];have hv2:(v==2)=a4:=by rcases hv with h|h<;>subst h<;>rfl
 simp[hv2]
 try omega
noncomputable def j9(p:List Int)(m:Nat):List Nat:=(ar m).filter λ(k:Nat)=>decide (p.getD k 0=2)
theorem j01:∀(p:List Int),(j9 p p.length).length=p.countP λt=>t==2:=by
 intro p;unfold j9;rw[<-List.countP_eq_length_filter];have:∀(p:List Int),(ar p.length).countP (λ(k:Nat)=>decide (p.getD k 0=2))=p.countP λt=>t==2:=by
  intro p;induction p with
  |nil=>rfl
  |cons t ts ih =>
   rw[xq,ck,Xu,jL,Xu,<-ih];congr 1
   try simp only[cH]
   try (by_cases h:t=2<;>simp[h])
 exact this p
noncomputable def J5(t:Int):List Int:=if t=2 then[0,1,2] else[t]
theorem Wy {n:Nat} {p:List Int} (hp:p.length<=6):evP 1000 G T (n+2) "parts_in" [jd p]=.fresh (qe (ql (p.map J5))):=by
 rw[jl (F:=Uh) (by rfl) rfl];simp only[Uh,Vl,enter];ext;rw[qi (l:=qe (p.map J5)) (by rfl) ?_ ?_ (.inl rfl)]
 .ext;rw[Yt Oz (λf hf=>by obtain⟨t,_,rfl⟩:=X5.mp hf;unfold J5;split<;>simp) (by rw[xf];exact hp)];ext
 .rw[xf];omega
 .rw[qe,Xc];refine jy λt _=>z9 (by ext) ?_;by_cases h:t=2
  .ext;simp only[gN];ext;simp only[gT];ext;simp[J5,h]
  .ext;simp only[gN];ext;simp[J5,h]
theorem W5:∀l:List Int,vg (l.map D.int)=a7
 |[]=>rfl
 |_::l=>by rw[X4,vg,W5 l];rfl
theorem Yj(ks:List (List Int))(ns:List Int):noFn (.dct ks (ns.map D.int))=a7:=by rw[noFn,W5]
theorem Ov(l:List Int):noFn (.tup (l.map D.int))=a7:=by rw[noFn,W5]
theorem at0(a b:D):atI [a,b] 0=a3 a:=rfl
theorem at1(a b:D):atI [a,b] 1=a3 b:=rfl
noncomputable def jh:List Int->Int
 |[]=>0
 |d::ds=>d*3^ds.length+jh ds
theorem Jd:∀{p:List Int},(∀t∈p,0<=t/\t<3)->0<=jh p/\jh p<3^p.length
 |[],_=>⟨by decide,by decide⟩
 |d::ds,h=>by
  obtain⟨h1,h2⟩:=Jd (p:=ds) λt ht=>h t (km _ ht);have hd:=h d xn;have hp:(0:Int)<3^ds.length:=bJ (by decide);rw[jh,xq,gZ];have:d=0\/d=1\/d=2:=by omega
  rcases this with e|e|e<;>subst e<;>exact⟨by omega,by omega⟩
theorem Wb:∀{p:List Int},(∀t∈p,0<=t/\t<3)->j6 3 p.length (jh p)=p
 |[],_=>rfl
 |d::ds,h=>by have h':∀t∈ds,0<=t/\t<3:=λt ht=>h t (km _ ht);obtain⟨h1,h2⟩:=Jd h';have hd:=h d xn;have hp:(3:Int)^ds.length≠0:=hJ (bJ (by decide));rw[jh,xq,show d*3^ds.length+jh ds=jh ds+3^ds.length*d by rw[dG,hV],j6,Bg (by decide) _ _ (X3 _),Wb h'];congr 1;rw[dO _ _ hp,Tp h1 h2,cQ];omega
theorem Ii(i:Nat):∀m:Nat,jh (j6 3 m (i:Int))=((i%3^m:Nat):Int)
 |0=>by rw[Nat.pow_zero,Nat.mod_one];rfl
 |m+1=>by
  have pc:((3^m:Nat):Int)=(3:Int)^m:=by simp
  have e:((i/3^m%3:Nat):Int)=(i:Int)/3^m%3:=by rw[Int.natCast_emod,Int.natCast_ediv,pc];rfl
  rw[j6,jh,qb,Ii i m,T9,Nat.mod_mul,jR,cJ,e,pc,dG,hV]
theorem M4:∀{p:List Int}{s:Nat}{c:Int},s<p.length->jh (p.set s c)=jh p+(c-p.getD s 0)*3^(p.length-1-s)
 |d::ds,0,c,_=>by rw[T6,jh,jh,xq,cH,show ds.length+1-1-0=ds.length by omega,Int.sub_mul];omega
 |d::ds,s+1,c,h=>by have:=M4 (p:=ds) (s:=s) (c:=c) (by simpa using h);rw[Pu,jh,jh,Xy,xq,Ti,this,show ds.length+1-1-(s+1)=ds.length-1-s by omega];omega
theorem j1m{m i s:Nat}{c:Nat}(hi:i<3^m)(hs:s<m)(h2:(j6 3 m (i:Int)).getD s 0=2)(hc:c=0\/c=1):(2-c)*3^(m-1-s)<=i/\(j6 3 m (i:Int)).set s (c:Int)=j6 3 m ((i-(2-c)*3^(m-1-s):Nat):Int):=by
 have hl:(j6 3 m (i:Int)).length=m:=qb 3 m _;have h3:∀t∈(j6 3 m (i:Int)).set s (c:Int),0<=t/\t<3:=(jcy hl (λt ht=>Y4 (by decide) ht) nofun).2;have l2:((j6 3 m (i:Int)).set s (c:Int)).length=m:=by rw[Xy];exact hl
 have v:=M4 (p:=j6 3 m (i:Int)) (c:=(c:Int)) (hl▸hs);rw[Ii,Nat.mod_eq_of_lt hi,h2,hl]at v;obtain⟨b1,b2⟩:=Jd h3;have d:=Wb h3;rw[l2]at d;have pc:((3^(m-1-s):Nat):Int)=(3:Int)^(m-1-s):=by simp
 have le:(2-c)*3^(m-1-s)<=i:=by
  have:(((2-c)*3^(m-1-s):Nat):Int)=(2-(c:Int))*3^(m-1-s):=by rw[cJ,pc];congr 1;omega
  have e2:((c:Int)-2)*3^(m-1-s) = -((2-(c:Int))*3^(m-1-s)):=by rw[<-lC];congr 1;omega
  omega
 refine⟨le,?_⟩;rw[<-d,v];congr 1;rw[Int.natCast_sub le,cJ,pc];have e2:((c:Int)-2)*3^(m-1-s) = -((2-(c:Int))*3^(m-1-s)):=by rw[<-lC];congr 1;omega
 have e3:((2-c:Nat):Int)=2-(c:Int):=by omega
 rw[e2,e3];omega
noncomputable def opB(a:List Int)(m:Nat)(p:List Int):Bool:=(stD a p m).isNon
theorem Zg{a p:List Int}{m:Nat}(h01:∀x∈a,x=0\/x=1)(hp:p.length=m)(hp3:∀t∈p,0<=t/\t<3)(h:opB a m p=a7):j9 p m≠[]:=λe=>by
 subst hp;have o:=j01 p;rw[e]at o;have c:=j2k (a:=a) h01 rfl hp3;rw[<-o]at c;unfold opB stD j32 at h;have c:cnt a p p.length 0+cnt a p p.length 1=1:=c;split at h
 .cases h
 .split at h
  .cases h
  .omega
noncomputable def PK(p:List Int):List (List Int):=zb (p.map J5)
theorem Zf{t:Int}{p q:List Int}:q∈PK (t::p) ↔ ∃x∈J5 t,∃r∈PK p,q=x::r:=by
 unfold PK;rw[X4,zb,j3];constructor
 .rintro⟨x,hx,h⟩;obtain⟨r,hr,e⟩:=X5.mp h;exact⟨x,hx,r,hr,e.symm⟩
 .rintro⟨x,hx,r,hr,e⟩;exact⟨x,hx,X5.mpr ⟨r,hr,e.symm⟩⟩
theorem Dt{t x:Int}(h:x∈J5 t):(t=2/\(x=0\/x=1\/x=2))\/(t≠2/\x=t):=by
 unfold J5 at h;split at h
 .rename_i e;simp only[xr,fg,or_false]at h;exact .inl ⟨e,h⟩
 .rename_i e;exact .inr ⟨e,xm.mp h⟩
theorem Kq:∀{p q:List Int},(∀t∈p,0<=t/\t<3)->q∈PK p->q.length=p.length/\∀t∈q,0<=t/\t<3
 |[],q,_,h=>by have e:q=[]:=xm.mp h;rw[e];exact⟨rfl,λt ht=>nomatch ht⟩
 |t::p,q,h3,h=>by
  obtain⟨x,hx,r,hr,e⟩:=Zf.mp h;obtain⟨h1,h2⟩:=Kq (λt ht=>h3 t (km _ ht)) hr;have ht:=h3 t xn;subst e;refine⟨by rw[xq,xq,h1],λy hy=>?_⟩;rcases xr.mp hy with q|q
  .subst q;rcases Dt hx with ⟨_,z⟩|⟨_,z⟩<;>omega
  .exact h2 y q
theorem j4q:∀{p q:List Int}{s:Nat}{c:Int},q∈PK p->q.getD s 0=2->(c=0\/c=1)->q.set s c∈PK p
 |[],q,s,c,h,h2,_=>by have e:q=[]:=xm.mp h;rw[e]at h2;simp at h2
 |t::p,q,s,c,h,h2,hc=>by
  obtain⟨x,hx,r,hr,e⟩:=Zf.mp h;subst e;cases s with
  |zero =>
   rw[cH]at h2;rw[T6];refine Zf.mpr ⟨c,?_,r,hr,rfl⟩;rcases Dt hx with ⟨z,_⟩|⟨z,z2⟩
   .rw[z];unfold J5;rw[if_pos rfl];rcases hc with q|q<;>rw[q]<;>simp
   .exact absurd (z2▸h2) z
  |succ s =>rw[Ti]at h2;rw[Pu];exact Zf.mpr ⟨x,hx,_,j4q hr h2 hc,rfl⟩
theorem j1y:∀{p:List Int},p∈PK p
 |[]=>xm.mpr rfl
 |t::p=>by
  refine Zf.mpr ⟨t,?_,p,j1y,rfl⟩;unfold J5;split
  .rename_i e;rw[e];simp
  .exact xm.mpr rfl
theorem Ww:∀{p:List Int},(∀t∈p,0<=t/\t<3)->(PK p).Pairwise λx y=>jh x<jh y
 |[],_=>List.pairwise_singleton _ _
 |t::p,h3=>by
  have h3':∀t∈p,0<=t/\t<3:=λt ht=>h3 t (km _ ht);have ih:=Ww h3';have bd:∀r∈PK p,0<=jh r/\jh r<3^p.length/\r.length=p.length:=λr hr=>by obtain⟨h1,h2⟩:=Kq h3' hr;obtain⟨b1,b2⟩:=Jd h2;rw[h1]at b2;exact⟨b1,b2,h1⟩
  have one:∀c:Int,((PK p).map (c :: ·)).Pairwise λx y=>jh x<jh y:=λc=>by rw[iP];refine ih.imp_of_mem λ{x y} hx hy h=>?_;rw[jh,jh,(bd x hx).2.2,(bd y hy).2.2];omega
  have two:∀{c d:Int},c<d->∀x∈(PK p).map (c :: ·),∀y∈(PK p).map (d :: ·),jh x<jh y:=λ{c d} hcd x hx y hy=>by
   obtain⟨r,hr,rfl⟩:=X5.mp hx;obtain⟨r',hr',rfl⟩:=X5.mp hy;obtain⟨b1,b2,b3⟩:=bd r hr;obtain⟨d1,d2,d3⟩:=bd r' hr';show c*3^r.length+jh r<d*3^r'.length+jh r';rw[b3,d3];have:c*3^p.length+3^p.length<=d*3^p.length:=by have h:=fC (show c+1<=d by omega) (show(0:Int)<=3^p.length by exact hU (bJ (by decide)));rw[Int.add_mul,df]at h;exact h
   omega
  by_cases e:t=2
  .have ek:PK (t::p)=(PK p).map (0 :: ·)++((PK p).map (1 :: ·)++(PK p).map (2 :: ·)):=by unfold PK;rw[X4,zb,e];simp[J5]
   rw[ek];refine List.pairwise_append.mpr ⟨one 0,List.pairwise_append.mpr ⟨one 1,one 2,two (by decide)⟩,λx hx y hy=>?_⟩;rcases Pj.mp hy with q|q
   .exact two (by decide) x hx y q
   .exact two (by decide) x hx y q
  .have ek:PK (t::p)=(PK p).map (t :: ·):=by unfold PK;rw[X4,zb];simp[J5,e]
   rw[ek];exact one t
theorem Et{p:List Int}(h3:∀t∈p,0<=t/\t<3):(PK p).Nodup:=(Ww h3).imp λh e=>by rw[e]at h;omega
theorem Ey{p r:List Int}{i:Nat}(h3:∀t∈p,0<=t/\t<3)(hi:i<(PK p).length)(hr:r∈PK p)(hv:jh r<jh (PK p)[i]):r∈(PK p).take i:=by
 obtain⟨j,hj,rfl⟩:=Pk.mp hr;have hs:=List.pairwise_iff_getElem.mp (Ww h3);have:j<i:=by
  rcases dD j i with q|q
  .exact q
  .rcases Nat.eq_or_lt_of_le q with q|q
   .subst q;omega
   .have:=hs i j hi hj q;omega
 exact Pk.mpr ⟨j,by rw[Xp];omega,iR⟩
theorem Wc{f:List Int->D}:∀{ks:List (List Int)} {q:List Int},q∈ks->zu ks (ks.map f) q=a3 (f q)
 |k::ks,q,h=>by
  rw[X4,zu];by_cases e:k=q
  .rw[if_pos e,e]
  .rw[if_neg e];exact Wc ((xr.mp h).resolve_left λz=>e z.symm)
theorem Eu:∀{p:List Int},(PK p).length<=3^p.length
 |[]=>X3 _
 |t::p=>by
  have ih:=Eu (p:=p);by_cases e:t=2
  .have ek:PK (t::p)=(PK p).map (0 :: ·)++((PK p).map (1 :: ·)++(PK p).map (2 :: ·)):=by unfold PK;rw[X4,zb,e];simp[J5]
   rw[ek,Xb,Xb,xf,xf,xf,xq,T9];omega
  .have ek:PK (t::p)=(PK p).map (t :: ·):=by unfold PK;rw[X4,zb];simp[J5,e]
   rw[ek,xf,xq,T9];omega
theorem Lh{f1 f2:En->Option D}{A B C:D}{L:List (List Int)}{W:List Int->Int}{op:List Int->Bool}(hm:L.length<=1000000)(nd:L.Nodup)
  (h1:∀(q:List Int)(s5:Sv),q∈L->f1 [.val A,.val B,.val C,.un,.val (.tup (q.map D.int)),s5]=a3 (.bl (!op q)))
  (h2:∀(i:Nat)(hi:i<L.length),f2 [.val A,.val B,.val C,.val (.dct (L.take i) (((L.take i).map W).map D.int)),.val (.tup (L[i].map D.int)),.val (.bl (!op L[i]))]=a3 (.int (W L[i]))) :
  ∀(r i:Nat)(s4 s5:Sv),i+r=L.length->Vk f1 f2 3 4 5 (qe (L.drop i)) [.val A,.val B,.val C,.un,s4,s5] (L.take i) ((L.take i).map W)=a3 (L,L.map W):=by
 intro r;induction r with
 |zero =>intro i s4 s5 e;rw[Nat.add_zero]at e;rw[List.drop_of_length_le nofun,Tn nofun];rfl
 |succ r ih =>
  intro i s4 s5 e;have hi:i<L.length:=by omega
  have ed:L.drop i=L[i]::L.drop (i+1):=bQ hi;have et:L.take (i+1)=L.take i++[L[i]]:=by rw[su,kh hi];rfl
  have nc:(L.take i).contains L[i]=a4:=by
   have nd:=nd;rw[<-gY i L,ed]at nd;have:=(List.nodup_append.mp nd).2.2;cases z:(L.take i).contains L[i] with
   |false=>rfl
   |true=>exact absurd rfl (this _ (by simpa using z) _ xn)
  have ll:(L.take i).length<ak:=lt_size (by rw[Xp];omega);have g:=ih (i+1) (.val (.tup (L[i].map D.int))) (.val (.bl (!op L[i]))) nofun
  rw[et,Xq,X4,cM]at g;rw[ed,qe,X4,<-qe,Vk];simp only[jd,Jr,T6,Pu,h1 _ _ (Xr hi),h2 i hi];rw[if_pos ⟨nc,ll⟩];exact g
theorem Ry {n m:Nat} {ws:List ah} {a:List Int} (hm:1<=m/\m<=6) (hw:ws.length=m):evP 1000 G T (n+1) "all_open" [qD ws a]=.val (jd (ae m 2)):=by
 rw[jl (F:=Ui) (by rfl) rfl];simp only[Ui,Vm,enter,qD];ext;simp only[gN];ext;rw[at0];ext;rw[hw]
 first|rfl|simp[jd]
theorem Ve {n k:Nat} (hk:k<=6):evP 1000 G T (n+1) "_law_threes" [.int k]=.val (.int ((3^k:Nat):Int)):=by
 rw[jl (F:=Rg) (by rfl) rfl];simp only[Rg,Ub,enter];ext;rw[Ox (λi=>[.val (.int k),.val (.int ((3^i:Nat):Int)),if i=0 then .un else .val (.int ((i:Int)-1))]) (by simp)]
 .ext;rw[q9];simp
 .intro i d hi;obtain⟨h1,rfl⟩:=Yc hi;simp only[zm];ext;have e:(3:Int)*((3^i:Nat):Int)=((3^(i+1):Nat):Int):=by rw[T9,cJ,dG];rfl
  rw[e];simp
theorem Uk {n m:Nat} {z:Int} (hm:m<=6):evP 1000 G T (n+1) "_law_digits" [.int m,.int z]=.fresh ((j6 3 m z).map D.int):=by
 rw[jl (F:=Ri) (by rfl) rfl];simp only[Ri,Ud,enter];ext;rw[Ox (λi=>[.val (.int m),.val (.int (z/3^i)),.own ((j6 3 i z).map .int),if i=0 then .un else .val (.int ((i:Int)-1))]) (by simp[j6])]
 .ext;rw[q9];simp
 .intro i d hi;obtain⟨h1,rfl⟩:=Yc hi;have hl:(j6 3 i z).length=i:=qb 3 i z;simp only[zm];ext;rw[Be z 3 (by decide),j6];simp
noncomputable def stp(m i s:Nat):D:=.tup [.int (s:Int),.int ((i:Int)-2*((3^(m-1-s):Nat):Int)),.int ((i:Int)-((3^(m-1-s):Nat):Int))]
noncomputable def opU(p:List Int)(j:Nat):List Nat:=(ar j).filter λ(k:Nat)=>decide (p.getD k 0=2)
theorem j50{p:List Int}{j:Nat}(h:p.getD j 0=2):opU p (j+1)=opU p j++[j]:=by rw[opU,opU,dE,c7];congr 1;exact c9 (decide_eq_true h)
theorem j23{p:List Int}{j:Nat}(h:¬p.getD j 0=2):opU p (j+1)=opU p j:=by rw[opU,opU,dE,c7];have e:[j].filter (λ(k:Nat)=>decide (p.getD k 0=2))=[]:=du (λz=>h (of_decide_eq_true z));rw[e,Xn]
theorem jb4(p:List Int)(j:Nat):(opU p j).length<=j:=Xg (Pq _ _) (by rw[Xm];exact X3 _)
theorem j31 {n m i:Nat} (hm:m<=6):evP 1000 G T (n+2) "_law_steps" [.int m,.int i]=.fresh ((j9 (j6 3 m (i:Int)) m).map (stp m i)):=by
 rw[jl (F:=Bc) (by rfl) rfl];simp only[Bc,Wj,enter];ext;rw[Uk (n:=n) hm];ext;have hl:(j6 3 m (i:Int)).length=m:=qb 3 m _;refine Qa (λj ρ=>∃s4 s5,ρ=[.val (.int m),.val (.int i),.own ((j6 3 m (i:Int)).map D.int),.own ((opU (j6 3 m (i:Int)) j).map (stp m i)),s4,s5]) ⟨_,_,rfl⟩ ?_ ?_
 .rintro j d ρ hj ⟨s4,s5,rfl⟩;obtain⟨h1,rfl⟩:=Yc hj;have h1:j<m:=by omega
  have g:=j0e (p:=j6 3 m (i:Int)) (k:=j) nofun
  have ol:=jb4 (j6 3 m (i:Int)) j;simp only[zm];ext;rw[cQ,g];by_cases h2:(j6 3 m (i:Int)).getD j 0=2
  .have t:=Ve (n:=n) (k:=m-1-j) nofun
   have e:(m:Int)-1-(j:Int)=((m-1-j:Nat):Int):=by omega
   ext;rw[e,t];ext;refine⟨_,rfl,.val (.int (j:Int)),.val (.int ((3^(m-1-j):Nat):Int)),?_⟩;rw[j50 h2,Xq];rfl
  .ext;refine⟨_,rfl,.val (.int (j:Int)),s5,?_⟩;rw[j23 h2]
 .rintro ρ ⟨s4,s5,rfl⟩;ext;rw[q9];simp[opU,j9]
noncomputable def Zj(p:List Int):Nat:=p.countP λt=>t==2
noncomputable def onD(a:List Int)(m j:Nat):D:=.tup [.int (cnt a (j6 3 m (j:Int)) m 1:Nat),.int ((2^Zj (j6 3 m (j:Int)):Nat):Int)]
theorem Nt{a:List Int}{m i j:Nat}(h:j<i):atI ((ar i).map (onD a m)) (j:Int)=a3 (onD a m j):=Ql (by rw[xx,Pb h];rfl)
theorem jjr(x y z:D):atI [x,y,z] 1=a3 y:=rfl
theorem jjq(x y z:D):atI [x,y,z] 2=a3 z:=rfl
theorem jfz(x:D)(l:List D):atI (x::l) 0=a3 x:=by have:=Ql (xs:=x::l) (n:=0) rfl;exact this
theorem j51 {n m:Nat} {ws:List ah} {a:List Int} (hw:ws.length=m) (hm:1<=m/\m<=6) (ha:a.length=2^m) (h01:∀x∈a,x=0\/x=1):evP 1000 G T (n+3) "_law_ones" [qD ws a]=.fresh ((ar (3^m)).map (onD a m)):=by
 rw[jl (F:=Dv) (by rfl) rfl];simp only[Dv,Mw,enter,qD];ext;erw[at0,hw];rw[Ve (n:=n+1) hm.2];have p3:=Es hm.2;ext;refine Qa (λi ρ=>∃s3 s4 s5 s6 s7 s8,ρ=[.val (.tup [.tup (ws.map D.str),.tup (a.map D.int)]),.val (.int m),.own ((ar i).map (onD a m)),s3,s4,s5,s6,s7,s8]) ⟨_,_,_,_,_,_,rfl⟩ ?_ ?_
 .rintro i d ρ hi ⟨s3,s4,s5,s6,s7,s8,rfl⟩;obtain⟨h1,rfl⟩:=Yc hi;have hi:i<3^m:=by rw[Xh]at h1;exact h1
  have hl:(j6 3 m (i:Int)).length=m:=qb 3 m _;have h3:∀t∈j6 3 m (i:Int),0<=t/\t<3:=λt ht=>Y4 (by decide) ht;have ol:(j9 (j6 3 m (i:Int)) m).length=Zj (j6 3 m (i:Int)):=by have:=j01 (j6 3 m (i:Int));rw[hl]at this;exact this
  have rl:(ar i).length=i:=Xm;simp only[zm];ext;rw[cQ,j31 (n:=n) hm.2];ext;cases z:j9 (j6 3 m (i:Int)) m with
  |nil =>
   rw[z]at ol;obtain⟨k,hk,ek,ik⟩:=j6w hl h3 ol.symm;have dg:=Uk (n:=n+1) (z:=(i:Int)) hm.2;ext;rw[dg];ext;have k2:(k:Int)<2^m:=by
    have:((2^m:Nat):Int)=2^m:=by simp
    rw[<-this];omega
   have z0:(k:Int)/2^m=0:=Tp nofun k2;obtain⟨ρ',el,s6',hρ⟩:=Qd (f:=Fg [6] (run 1000 (evP 1000 G T (n+2)) G (.seq (.set 5 (.bin .add (.bin .mul (.lit (.int 2)) (.var 5)) (.var 6))) .nop)))
    (λj ρ=>∃s6,ρ=[.val (.tup [.tup (ws.map D.str),.tup (a.map D.int)]),.val (.int m),.own ((ar i).map (onD a m)),.val (.int (i:Int)),.own [],.val (.int ((k:Int)/2^(m-j))),s6,s7,s8]) (k:=0) (ds:=(j6 3 m (i:Int)).map D.int)
    (ρ:=[.val (.tup [.tup (ws.map D.str),.tup (a.map D.int)]),.val (.int m),.own ((ar i).map (onD a m)),.val (.int (i:Int)),.own [],.val (.int 0),s6,s7,s8]) ⟨s6,by rw[gW,z0]⟩ (by
    rintro j d ρ hj ⟨s6,rfl⟩
    rw[Pa]
    obtain⟨v,hv,rfl⟩:=W8 hj
    rw[ek]at hv
    have hlt:j<m:=by
     have:=(X7.mp hv).1
     rw[qb]at this;exact this
    rw[Qh hlt]at hv
    cases hv
    simp only[zm]
    ext
    refine⟨_,rfl,?_⟩
    have e1:m-j=(m-1-j)+1:=by omega
    have e2:m-(j+1)=m-1-j:=by omega
    have e3:2*((k:Int)/2^(m-j))+(k:Int)/2^(m-1-j)%2=(k:Int)/2^(m-(j+1)):=by
     rw[e1,e2,<-Be (k:Int) 2 nofun]
     exact ia _ _
    rw[e3]
    exact⟨_,rfl⟩)
   have e:(k:Int)/2^(m-(0+((j6 3 m (i:Int)).map D.int).length))=(k:Int):=by rw[xf,hl,Pa,Nat.sub_self];simp
   rw[e]at hρ;subst hρ;have g:=j0e (p:=a) (k:=k) nofun
   erw[el,at1,g];refine⟨_,rfl,.val (.int (i:Int)),.own [],.val (.int (k:Int)),s6',s7,s8,?_⟩;have c1:((cnt a (j6 3 m (i:Int)) m 1:Nat):Int)=a.getD k 0:=by
    unfold cnt;rw[ik];have:a.getD k 0=0\/a.getD k 0=1:=by rw[kj,kh nofun];exact h01 _ (Xr _)
    rw[Xu,List.countP_nil];rcases this with q|q<;>rw[q]<;>rfl
   have t0:Zj (j6 3 m (i:Int))=0:=ol.symm;rw[dE,Xq];show _=[_,_,Sv.own (_++[onD a m i]),_,_,_,_,_,_]
   rw[onD,c1,t0];rfl
  |cons s L =>
   have hs:s<m/\(j6 3 m (i:Int)).getD s 0=2:=by
    have:s∈j9 (j6 3 m (i:Int)) m:=by rw[z];exact xn
    obtain⟨h1,h2⟩:=Xl.mp this;exact⟨Xd.mp h1,of_decide_eq_true h2⟩
   obtain⟨l0,e0⟩:=j1m (c:=0) hi hs.1 hs.2 (.inl rfl);obtain⟨l1,e1⟩:=j1m (c:=1) hi hs.1 hs.2 (.inr rfl);have w:0<3^(m-1-s):=Nat.pos_of_ne_zero (by simp);have i0:(i:Int)-2*((3^(m-1-s):Nat):Int)=((i-(2-0)*3^(m-1-s):Nat):Int):=by omega
   have i1:(i:Int)-((3^(m-1-s):Nat):Int)=((i-(2-1)*3^(m-1-s):Nat):Int):=by omega
   have g0:=Nt (a:=a) (m:=m) (i:=i) (j:=i-(2-0)*3^(m-1-s)) nofun
   have g1:=Nt (a:=a) (m:=m) (i:=i) (j:=i-(2-1)*3^(m-1-s)) nofun
   have cs:=j60 (a:=a) (v:=1) hl hs.1 hs.2;have c0:=Lr (v:=0) (by rw[hl];exact hs.1) hs.2 (.inl rfl);have c1:=Lr (v:=1) (by rw[hl];exact hs.1) hs.2 (.inr rfl);rw[show((0:Nat):Int)=0 from rfl]at e0;rw[show((1:Nat):Int)=1 from rfl]at e1;rw[e0,e1]at cs;rw[e0]at c0;rw[e1]at c1;have k1:((cnt a (j6 3 m ((i-(2-0)*3^(m-1-s):Nat):Int)) m 1:Nat):Int)+((cnt a (j6 3 m ((i-(2-1)*3^(m-1-s):Nat):Int)) m 1:Nat):Int)=((cnt a (j6 3 m (i:Int)) m 1:Nat):Int):=by omega
   have k2:((2^Zj (j6 3 m ((i-(2-0)*3^(m-1-s):Nat):Int)):Nat):Int)+((2^Zj (j6 3 m ((i-(2-1)*3^(m-1-s):Nat):Int)):Nat):Int)=((2^Zj (j6 3 m (i:Int)):Nat):Int):=by have c0:Zj (j6 3 m ((i-(2-0)*3^(m-1-s):Nat):Int))+1=Zj (j6 3 m (i:Int)):=c0;have c1:Zj (j6 3 m ((i-(2-1)*3^(m-1-s):Nat):Int))+1=Zj (j6 3 m (i:Int)):=c1;rw[show Zj (j6 3 m ((i-(2-1)*3^(m-1-s):Nat):Int))=Zj (j6 3 m ((i-(2-0)*3^(m-1-s):Nat):Int))by omega,<-c0,T9];omega
   rw[onD]at g0 g1;have er:(ar (i+1)).map (onD a m)=(ar i).map (onD a m)++[onD a m i]:=by rw[dE,Xq];rfl
   rw[er,onD,<-k1,<-k2];ext;rw[stp,jfz];ext;rw[jjr];ext;rw[i0,g0];ext;erw[jfz,jjq];rw[i1,g1];ext;rw[at0,at0,at1,at1];ext;exact⟨_,rfl,_,_,_,_,_,_,rfl⟩
 .rintro ρ ⟨s3,s4,s5,s6,s7,s8,rfl⟩;ext;rw[q9,Xh]
theorem O9 {n m i:Nat} {a:List Int} (h01:∀x∈a,x=0\/x=1):evP 1000 G T (n+1) "_law_is_open" [onD a m i]=.val (.bl (opB a m (j6 3 m (i:Int)))):=by
 have hl:(j6 3 m (i:Int)).length=m:=qb 3 m _;have c:=j2k (a:=a) h01 hl λt ht=>Y4 (by decide) ht;have e:(decide ((0:Int)<(cnt a (j6 3 m (i:Int)) m 1:Nat))&&decide (((cnt a (j6 3 m (i:Int)) m 1:Nat):Int)<((2^Zj (j6 3 m (i:Int)):Nat):Int)))=opB a m (j6 3 m (i:Int)):=by
  have c:cnt a (j6 3 m (i:Int)) m 0+cnt a (j6 3 m (i:Int)) m 1=2^Zj (j6 3 m (i:Int)):=c;rw[<-c];unfold opB stD j32;by_cases h1:cnt a (j6 3 m (i:Int)) m 1=0
  .rw[if_pos h1,h1];rfl
  .rw[if_neg h1,decide_eq_true nofun,gn];by_cases h0:cnt a (j6 3 m (i:Int)) m 0=0
   .rw[if_pos h0,h0,decide_eq_false nofun];rfl
   .rw[if_neg h0,decide_eq_true nofun];rfl
 rw[jl (F:=W9) (by rfl) rfl];simp only[W9,Y5,enter,onD];ext;rw[at0,at1];ext;rw[e]
noncomputable def rsS(k:Nat)(c:List (List Nat))(s:Nat):List (List Nat):=c++(c.filter λS=>decide (S.length<k)).map (· ++ [s])
noncomputable def rsC(k:Nat)(os:List Nat):List (List Nat):=os.foldl (rsS k) [[]]
noncomputable def rsL(k:Nat)(os:List Nat):List (List Nat):=(rsC k os).drop 1
theorem j7a{k s:Nat}{os:List Nat}:rsC k (os++[s])=rsS k (rsC k os) s:=by unfold rsC;rw[iS];rfl
theorem jd7{k s:Nat}{c:List (List Nat)}{S:List Nat}(h:S∈rsS k c s):S∈c\/∃R∈c,R.length<k/\S=R++[s]:=by
 rcases Pj.mp h with h|h
 .exact .inl h
 .obtain⟨R,hR,e⟩:=X5.mp h;obtain⟨h1,h2⟩:=Xl.mp hR;exact .inr ⟨R,h1,of_decide_eq_true h2,e.symm⟩
theorem j1t{k:Nat}:∀{os:List Nat}{c:List (List Nat)},(∃r,c=[]::r/\∀S∈r,S≠[])->∃r,os.foldl (rsS k) c=[]::r/\∀S∈r,S≠[]
 |[],c,h=>h
 |s::os,c,⟨r,e,h⟩=>by
  refine j1t (os:=os) (c:=rsS k c s) ⟨r++(c.filter λS=>decide (S.length<k)).map (· ++ [s]),by rw[e];rfl,λS hS=>?_⟩;rcases Pj.mp hS with q|q
  .exact h S q
  .obtain⟨R,_,e⟩:=X5.mp q;rw[<-e];simp
theorem j4f{k:Nat}:∀{os pre:List Nat}{c:List (List Nat)},(∀S∈c,S.Sublist pre/\S.length<=k)->∀S∈os.foldl (rsS k) c,S.Sublist (pre++os)/\S.length<=k
 |[],pre,c,h,S,hS=>by rw[Xn];exact h S hS
 |s::os,pre,c,h,S,hS=>by
  have:=j4f (os:=os) (pre:=pre++[s]) (c:=rsS k c s) (λR hR=>by
   rcases jd7 hR with q|⟨R',h1,h2,e⟩
   .exact⟨(h R q).1.trans (List.sublist_append_left ..),(h R q).2⟩
   .rw[e];exact⟨(h R' h1).1.append (bS _),by rw[Xb];exact h2⟩) S hS
  rwa [t6]at this
theorem j4h{k:Nat}:∀{os:List Nat}{c:List (List Nat)},(os.foldl (rsS k) c).length<=c.length*2^os.length
 |[],c=>by simp
 |s::os,c=>by
  have h:=j4h (k:=k) (os:=os) (c:=rsS k c s);have l:(rsS k c s).length<=c.length*2:=by unfold rsS;rw[Xb,xf];have:=Pq (λS:List Nat=>decide (S.length<k)) c;omega
  have:=ip (2^os.length) l;rw[xq,T9,dC (2^os.length) 2,<-ku];exact Xg h this
theorem W2{k:Nat}{os:List Nat}:rsC k os=[]::rsL k os/\∀S∈rsL k os,S≠[]:=by obtain⟨r,e,h⟩:=j1t (k:=k) (os:=os) (c:=[[]]) ⟨[],rfl,λS hS=>nomatch hS⟩;have e':rsC k os=[]::r:=e;unfold rsL;rw[e'];exact⟨rfl,h⟩
theorem j4j{k:Nat}{os S:List Nat}(h:S∈rsC k os):S.Sublist os/\S.length<=k :=
 j4f (k:=k) (os:=os) (pre:=[]) (c:=[[]]) (λS hS=>by rw[xm.mp hS];exact⟨bS _,bI _⟩) S h
theorem Zk{k:Nat}{os S:List Nat}(h:S∈rsL k os):S.Sublist os/\S.length<=k/\S≠[]:=by obtain⟨e,h2⟩:=W2 (k:=k) (os:=os);have:=j4j (show S∈rsC k os by rw[e];exact km _ h);exact⟨this.1,this.2,h2 S h⟩
theorem jal{k:Nat}{os:List Nat}:(rsC k os).length<=2^os.length:=by have:=j4h (k:=k) (os:=os) (c:=[[]]);rw[cB,Nat.one_mul]at this;exact this
theorem j4i{k:Nat}{os:List Nat}(hk:1<=k)(ho:os≠[]):rsL k os≠[]:=λz=>by
 obtain⟨e,_⟩:=W2 (k:=k) (os:=os);have grow:∀{os:List Nat}{c:List (List Nat)},c.length<=(os.foldl (rsS k) c).length:=λ{os}=>by
  induction os with
  |nil=>intro c;exact X3 _
  |cons s os ih=>intro c;exact Xg (by unfold rsS;rw[Xb];omega) (ih (c:=rsS k c s))
 cases os with
 |nil=>exact ho rfl
 |cons s os =>
  have h:=grow (os:=os) (c:=rsS k [[]] s);have l:(rsS k [[]] s).length=2:=by simp[rsS,show 0<k from hk]
  have h':2<=(rsC k (s::os)).length:=by rw[<-l];exact h
  rw[e,z]at h';simp at h'
noncomputable def seF(qs:List (List Int))(s:Nat):List (List Int):=qs.map (·.set s 0)++qs.map (·.set s 1)
noncomputable def seL(p:List Int)(S:List Nat):List (List Int):=S.foldl seF [p]
def Beh(p:List Int)(S:List Nat)(q:List Int):Prop:=q.length=p.length/\∀j,j<p.length->(j∈S->q.getD j 0=0\/q.getD j 0=1)/\(j∉S->q.getD j 0=p.getD j 0)
theorem V6{p:List Int}{s j:Nat}{c:Int}(hs:s<p.length):(p.set s c).getD j 0=if s=j then c else p.getD j 0:=by
 rw[kj,cq];by_cases e:s=j
 .rw[if_pos e,if_pos e,if_pos hs];rfl
 .rw[if_neg e,if_neg e,kj]
theorem j89{p q:List Int}(hl:q.length=p.length)(h:∀j,j<p.length->q.getD j 0=p.getD j 0):q=p:=by
 refine List.ext_getElem hl λj h1 h2=>?_;have:=h j h2
 rwa [kj,kj,kh h1,kh h2]at this
theorem j5a{n:Nat}:∀{S:List Nat}{qs:List (List Int)} {q:List Int},(∀s∈S,s<n)->(∀p∈qs,p.length=n)->(q∈S.foldl seF qs ↔ ∃p∈qs,Beh p S q)
 |[],qs,q,_,hq=>by refine⟨λh=>⟨q,h,rfl,λj _=>⟨λz=>(nomatch z),λ_=>rfl⟩⟩,λ⟨p,hp,h1,h2⟩=>?_⟩;rw[j89 h1 λj hj=>(h2 j hj).2 (λz=>nomatch z)];exact hp
 |s::S,qs,q,hS,hq=>by
  have hs:=hS s xn;rw[Pr,j5a (n:=n) (S:=S) (qs:=seF qs s) (λt ht=>hS t (km _ ht)) (λp hp=>by
   rcases Pj.mp hp with h|h<;>(obtain⟨r,hr,e⟩:=X5.mp h;rw[<-e,Xy];exact hq r hr))]
  constructor
  .rintro⟨p,hp,h1,h2⟩;have:∃r∈qs,∃c:Int,(c=0\/c=1)/\p=r.set s c:=by
    rcases Pj.mp hp with h|h<;>obtain⟨r,hr,e⟩:=X5.mp h
    .exact⟨r,hr,0,.inl rfl,e.symm⟩
    .exact⟨r,hr,1,.inr rfl,e.symm⟩
   obtain⟨r,hr,c,hc,rfl⟩:=this;rw[Xy]at h1 h2;have hl:=hq r hr;refine⟨r,hr,h1,λj hj=>⟨λhm=>?_,λhm=>?_⟩⟩
   .by_cases e:j∈S
    .exact(h2 j hj).1 e
    .have ej:j=s:=(xr.mp hm).resolve_right e;rw[(h2 j hj).2 e,V6 nofun,if_pos ej.symm];exact hc
   .rw[(h2 j hj).2 λz=>hm (km _ z),V6 nofun,if_neg λz=>hm (by rw[z];exact xn)]
  .rintro⟨r,hr,h1,h2⟩;have hl:=hq r hr;have hc:=(h2 s nofun).1 xn;refine⟨r.set s (q.getD s 0),?_,by rw[Xy];exact h1,λj hj=>?_⟩
   .rcases hc with e|e<;>rw[e]
    .exact T7 _ (X5.mpr ⟨r,hr,rfl⟩)
    .exact Xe _ (X5.mpr ⟨r,hr,rfl⟩)
   .rw[Xy]at hj;refine⟨λhm=>(h2 j hj).1 (km _ hm),λhm=>?_⟩;rw[V6 nofun];by_cases e:s=j
    .rw[if_pos e,e]
    .rw[if_neg e];exact(h2 j hj).2 λz=>(xr.mp z).elim (λz=>e z.symm) hm
theorem V3{p q:List Int}{S:List Nat}(hS:∀s∈S,s<p.length):q∈seL p S↔Beh p S q:=by unfold seL;rw[j5a (n:=p.length) hS λr hr=>by rw[xm.mp hr]];exact⟨λ⟨r,hr,h⟩=>by rwa [xm.mp hr]at h,λh=>⟨p,xm.mpr rfl,h⟩⟩
theorem Ej:∀{S:List Nat}{qs:List (List Int)},qs≠[]->S.foldl seF qs≠[]
 |[],_,h=>h
 |s::S,qs,h=>Ej (S:=S) λz=>h (by unfold seF at z;exact List.map_eq_nil_iff.mp (List.append_eq_nil_iff.mp z).1)
theorem Cr:∀{p q:List Int},q.length=p.length->(∀j,j<p.length->q.getD j 0<=p.getD j 0)->jh q<=jh p/\((∃j,j<p.length/\q.getD j 0<p.getD j 0)->jh q<jh p)
 |[],[],_,_=>⟨Ph _,λ⟨j,h,_⟩=>absurd h (fM _)⟩
 |[],_::_,h,_=>by cases h
 |_::_,[],h,_=>by cases h
 |x::p,y::q,hl,h=>by
  have hl':q.length=p.length:=by simpa using hl
  obtain⟨i1,i2⟩:=Cr hl' λj hj=>by have:=h (j+1) (by rw[xq];omega);simpa using this
  have h0:y<=x:=by have:=h 0 (by simp);simpa using this
  have w:(0:Int)<3^p.length:=bJ (by decide);have e:jh (y::q)=y*3^q.length+jh q:=rfl;have e':jh (x::p)=x*3^p.length+jh p:=rfl;rw[e,e',hl'];have hm:y*3^p.length<=x*3^p.length:=fC h0 (hU w);refine⟨by omega,λ⟨j,hj,hlt⟩=>?_⟩;cases j with
  |zero =>
   have hlt:y<x:=by simpa using hlt
   have:=Int.mul_lt_mul_of_pos_right hlt w;omega
  |succ j =>have:=i2 ⟨j,by rw[xq]at hj;omega,by simpa using hlt⟩;omega
theorem V2{p:List Int}{m s:Nat}(h:s∈j9 p m):s<m/\p.getD s 0=2:=by obtain⟨h1,h2⟩:=Xl.mp h;exact⟨Xd.mp h1,of_decide_eq_true h2⟩
theorem Y8{p q:List Int}{S:List Nat}(h:Beh p S q)(hp3:∀t∈p,0<=t/\t<3):∀t∈q,0<=t/\t<3:=λt ht=>by
 obtain⟨j,hj,e⟩:=Pk.mp ht;have eq:q.getD j 0=t:=by rw[kj,kh hj,e];rfl
 have hj':j<p.length:=by rw[<-h.1];exact hj
 rw[<-eq];by_cases z:j∈S
 .have:=(h.2 j hj').1 z;omega
 .rw[(h.2 j hj').2 z];exact hp3 _ (by rw[kj,kh hj'];exact Xr hj')
theorem Mv{p q:List Int}{S:List Nat}(hne:S≠[])(hS:∀s∈S,s<p.length/\p.getD s 0=2)(h:Beh p S q):jh q<jh p:=by
 refine(Cr h.1 λj hj=>?_).2 ?_
 .by_cases z:j∈S
  .have:=(h.2 j hj).1 z;have:=(hS j z).2;omega
  .rw[(h.2 j hj).2 z];exact Ph _
 .cases S with
  |nil=>exact absurd rfl hne
  |cons s S =>obtain⟨h1,h2⟩:=hS s xn;refine⟨s,h1,?_⟩;have:=(h.2 s h1).1 xn;omega
theorem j5b{l l':List Int}(hl:l≠[])(h:∀x,x∈l↔x∈l'):ju l=ju l':=by
 have hl':l'≠[]:=λz=>by
  cases l with
  |nil=>exact hl rfl
  |cons x l=>have:=(h x).mp xn;rw[z]at this;cases this
 obtain⟨a1,a2⟩:=Yl hl';exact j27 ((h _).mpr a1) λx hx=>a2 x ((h x).mp hx)
noncomputable def RpF(k:Nat)(a:List Int)(m:Nat):Nat->List Int->Int
 |0,_=>0
 |f+1,p=>if opB a m p=a7 then 1+Q0 ((rsL k (j9 p m)).map λS=>ju ((seL p S).map (RpF k a m f)))else 0
noncomputable def Rp(k:Nat)(a:List Int)(m:Nat)(p:List Int):Int:=RpF k a m (3^m) p
theorem J8{k m:Nat}{p:List Int}{S:List Nat}(hp:p.length=m)(h:S∈rsL k (j9 p m)):∀s∈S,s<p.length/\p.getD s 0=2:=λs hs=>by rw[hp];exact V2 ((Zk h).1.subset hs)
theorem j6m{k m:Nat}{a:List Int}:∀{f f':Nat}{p:List Int},p.length=m->(∀t∈p,0<=t/\t<3)->jh p<f->f<=f'->RpF k a m f p=RpF k a m f' p
 |0,f',p,_,h3,hv,_=>by have:=(Jd h3).1;omega
 |f+1,0,p,_,_,_,h=>by omega
 |f+1,f'+1,p,hp,h3,hv,h=>by rw[RpF,RpF];congr 3;refine Th λS hS=>?_;congr 1;have ok:=J8 hp hS;refine Th λq hq=>?_;have b:=(V3 λs hs=>(ok s hs).1).mp hq;have:=Mv (Zk hS).2.2 ok b;exact j6m (by rw[b.1];exact hp) (Y8 b h3) nofun nofun
theorem vq{k m:Nat}{a p:List Int}(h:opB a m p=a4):Rp k a m p=0:=by
 unfold Rp;obtain⟨f,e⟩:∃f,3^m=f+1:=⟨3^m-1,by have:0<3^m:=lB (by decide);omega⟩
 rw[e,RpF,h];rfl
theorem Uz{k m:Nat}{a p:List Int}(hp:p.length=m)(h3:∀t∈p,0<=t/\t<3)(h:opB a m p=a7):Rp k a m p=1+Q0 ((rsL k (j9 p m)).map λS=>ju ((seL p S).map (Rp k a m))):=by
 obtain⟨f,e⟩:∃f,3^m=f+1:=⟨3^m-1,by have:0<3^m:=lB (by decide);omega⟩
 have hb:=(Jd h3).2;rw[hp]at hb;have hb:jh p<((3^m:Nat):Int):=by simpa using hb
 show RpF k a m (3^m) p=_;have step:RpF k a m (3^m) p=1+Q0 ((rsL k (j9 p m)).map λS=>ju ((seL p S).map (RpF k a m f))):=by rw[e,RpF,if_pos h]
 rw[step];congr 2;refine Th λS hS=>?_;congr 1;have ok:=J8 hp hS;refine Th λq hq=>?_;have b:=(V3 λs hs=>(ok s hs).1).mp hq;have:=Mv (Zk hS).2.2 ok b;exact j6m (by rw[b.1];exact hp) (Y8 b h3) nofun nofun
noncomputable def spI(S:List Nat):List Int:=S.map λ(s:Nat)=>(s:Int)
theorem j26{S:List Nat}{j:Nat}:(j:Int)∈spI S↔j∈S:=by unfold spI;rw[X5];exact⟨λ⟨s,h,e⟩=>by rwa [<-Int.ofNat.inj e],λh=>⟨j,h,rfl⟩⟩
theorem j2o{i:Int}:∀{l:List Int},((l.map D.int).any λe=>deq e (.int i))=decide (i∈l)
 |[]=>by simp
 |x::l=>by
  rw[X4,de,j2o,j0i];by_cases e:x=i
  .simp[e]
  .simp[e,cz e]
theorem j8m{i:Int}{l:List Int}:Wf .isin (.int i) (.tup (l.map D.int))=a3 (decide (i∈l)):=by rw[<-j2o];simp[Wf,D.sqv,D.dep,j5v]
noncomputable def Vr(p:List Int)(S:List Nat)(j:Nat):List Int:=if (j:Int)∈spI S then[0,1] else[p.getD j 0]
theorem Ow:∀{l:List (List Int)} {q:List Int},q∈zb l↔q.length=l.length/\∀j,j<l.length->q.getD j 0∈l.getD j []
 |[],q=>by rw[zb,xm];exact⟨λe=>by rw[e];exact⟨rfl,λj h=>absurd h (fM _)⟩,λh=>List.length_eq_zero_iff.mp h.1⟩
 |f::l,q=>by
  rw[zb,j3];constructor
  .rintro⟨x,hx,h⟩;obtain⟨r,hr,rfl⟩:=X5.mp h;obtain⟨h1,h2⟩:=Ow.mp hr;refine⟨by rw[xq,xq,h1],λj hj=>?_⟩;cases j with
   |zero=>simpa using hx
   |succ j=>have:=h2 j (by rw[xq]at hj;omega);simpa using this
  .rintro⟨h1,h2⟩;cases q with
   |nil=>cases h1
   |cons x r =>refine⟨x,by have:=h2 0 (by simp);simpa using this,X5.mpr ⟨r,Ow.mpr ⟨by simpa using h1,λj hj=>?_⟩,rfl⟩⟩;have:=h2 (j+1) (by rw[xq];omega);simpa using this
theorem j07{p q:List Int}{S:List Nat}:q∈zb ((ar p.length).map (Vr p S))↔Beh p S q:=by
 rw[Ow,xf,Xm];refine and_congr_right λhl=>forall_congr' λj=>forall_congr' λhj=>?_;have e:((ar p.length).map (Vr p S)).getD j []=Vr p S j:=by rw[kj,xx,Pb hj];rfl
 rw[e,Vr];by_cases z:j∈S
 .rw[if_pos (j26.mpr z)];simp[z]
 .rw[if_neg λh=>z (j26.mp h)];simp[z]
theorem Kg{n:Nat}{p:List Int}{S:List Nat}{ks:List (List Int)}{ns:List Int}{R:List Int->Int}(hl:p.length<=6)(hS:∀s∈S,s<p.length)(hx:∀q,Beh p S q->zu ks (ns.map D.int) q=a3 (.int (R q))) :
  evP 1000 G T (n+2) "greatest_behind" [.dct ks (ns.map D.int),jd p,jd (spI S)]=.val (.int (ju ((seL p S).map R))):=by
 rw[jl (F:=Qg) (by rfl) rfl];simp only[Qg,J7,enter,jd];ext;rw[qi (l:=qe ((ar p.length).map (Vr p S))) (by rfl) (by unfold Jt;rw[xf,bZ,xf];omega) ?_ (.inl rfl)];rotate_left
 .rw[Rm,qe,Xc];refine jy λj hj=>j1l (by ext) ?_;ext;rw[j8m];ext;by_cases z:(j:Int)∈spI S
  .rw[decide_eq_true z];ext;simp only[gA];ext;simp[Vr,z,jd]
  .rw[decide_eq_false z];ext;simp[Vr,z,jd]
 ext;rw[Yt Oz (λf hf=>by obtain⟨j,_,rfl⟩:=X5.mp hf;unfold Vr;split<;>simp) (by rw[xf,Xm];exact hl),J6];ext;have ne:seL p S≠[]:=Ej (by simp);have pe:∀q,q∈zb ((ar p.length).map (Vr p S))↔q∈seL p S:=λq=>by rw[j07,V3 hS]
 rw[qi (l:=((zb ((ar p.length).map (Vr p S))).map R).map D.int) (by rfl) ?_ ?_ (.inr (vp _))]
 .ext;rw[j9k (λz=>?_)]
  .ext;rw[j5b (l':=(seL p S).map R) (λz=>?_) λx=>?_]
   .exact ne (List.eq_nil_iff_forall_not_mem.mpr λq hq=>by
     rw[List.map_eq_nil_iff.mp z]at pe
     exact nomatch(pe q).mpr hq)
   .rw[X5,X5];exact⟨λ⟨q,h,e⟩=>⟨q,(pe q).mp h,e⟩,λ⟨q,h,e⟩=>⟨q,(pe q).mpr h,e⟩⟩
  .exact ne (List.eq_nil_iff_forall_not_mem.mpr λq hq=>by
    rw[List.map_eq_nil_iff.mp z]at pe
    exact nomatch(pe q).mpr hq)
 .rw[qe,xf,<-J6];have h:=Oe (fs:=(ar p.length).map (Vr p S)) (k:=2) (λf hf=>by obtain⟨j,_,rfl⟩:=X5.mp hf;unfold Vr;split<;>simp);rw[xf,Xm]at h;have h2:=dZ (show 0<2 by decide) hl;omega
 .rw[qe,Xc];refine jy λq hq=>z9 (by ext) ?_;ext;simp only[jd];rw[Dz (hx q (j07.mp hq))];rfl
noncomputable def spD(S:List Nat):D:=jd (spI S)
theorem j53(l:List (List Nat)):qy (l.map spD)=a7:=by
 have:=O7 (l.map spI)
 rwa [qe,Xc]at this
theorem j1q{S:List Nat}:(spI S).length=S.length:=xf ..
theorem j6y{S:List Nat}{s:Nat}:spI (S++[s])=spI S++[(s:Int)]:=by unfold spI;rw[Xq];rfl
theorem j7k{p:List Int}{j:Nat}(h:p.getD j 0=2):j9 p (j+1)=j9 p j++[j]:=j50 h
theorem j4w{p:List Int}{j:Nat}(h:¬p.getD j 0=2):j9 p (j+1)=j9 p j:=j23 h
theorem Yi(p:List Int)(j:Nat):(j9 p j).length<=j:=Xg (Pq _ _) (by rw[Xm];exact X3 _)
theorem Ek{k m:Nat}{os:List Nat}(h:os.length<=m)(hm:m<=6):(rsC k os).length<=64:=by have h1:=jal (k:=k) (os:=os);have h2:=dZ (show 0<2 by decide) (show os.length<=6 by omega);omega
theorem j16 {n k:Nat} {p:List Int} (hl:p.length<=6):evP 1000 G T (n+1) "rounds_at" [jd p,.int k]=.fresh ((rsL k (j9 p p.length)).map spD):=by
 rw[jl (F:=Yn) (by rfl) rfl];simp only[Yn,Zu,enter,jd];ext;rw[Rm];refine Qa (λi ρ=>∃s3 s4,ρ=[.val (.tup (p.map D.int)),.val (.int k),.own ((rsC k (j9 p i)).map spD),s3,s4,.un]) ⟨_,_,rfl⟩ ?_ ?_
 .rintro i d ρ hi ⟨s3,s4,rfl⟩;have hi':i<p.length:=by have:=(X7.mp hi).1;rw[xf,Xm]at this;exact this
  rw[xx,Pb hi']at hi;cases hi;have sm:=Ek (k:=k) (m:=i) (Yi p i) nofun
  simp only[jc8];ext;simp only[gN];by_cases h2:p.getD i 0=2
  .ext;rw[qi (l:=(((rsC k (j9 p i)).filter λS=>decide (S.length<k)).map (· ++ [i])).map spD) (by rfl) (by rw[xf];omega) ?_ (.inr (j53 _))];rotate_left
   .rw[Xc];refine Vw λS hS=>?_;have sl:=(j4j hS).1.length_le;have ol:=Yi p i;have il:=j1q (S:=S);refine Ik ?_ λhb=>?_
    .simp only[spD,jd];ext;rw[il,show cmpI .lt (S.length:Int) (k:Int)=a3 (decide (S.length<k))from by simp[cmpI]];ext
    .simp only[spD,jd];ext;simp only[cu,spD,jd,j6y,Xq];rfl
   have fl:=Pq (λS:List Nat=>decide (S.length<k)) (rsC k (j9 p i));ext;exact⟨_,rfl,_,_,by rw[j7k h2,j7a,rsS,Xq]⟩
  .ext;exact⟨_,rfl,.val (.int (i:Int)),.val (.int (p.getD i 0)),by rw[j4w h2]⟩
 .rintro ρ ⟨s3,s4,rfl⟩;ext;rw[Xm,rsL,k5];congr 1;exact j5y (k:=1) (by rw[xf,(W2 (k:=k) (os:=j9 p p.length)).1,xq];omega)
theorem j7q{p q:Int×List Int}:(j3g p q=a7->p.1<=q.1)/\(j3g p q=a4->q.1<=p.1):=by
 unfold j3g;split
 .rename_i e;rw[e];exact⟨λ_=>Ph _,λ_=>Ph _⟩
 .exact⟨λh=>by have:=of_decide_eq_true h;omega,λh=>by have:=of_decide_eq_false h;omega⟩
theorem Fj(l:List (Int×List Int)):∀k,k<l.length->aE (Z8 l) k<=k/\∀j,j<=k->(l.getD (aE (Z8 l) k) (0,[])).1<=(l.getD j (0,[])).1
 |0,_=>⟨X3 _,λj hj=>by rw[show j=0 by omega];exact Ph _⟩
 |k+1,hk=>by
  obtain⟨h1,h2⟩:=Fj l k nofun
  have f:=j7q (p:=l.getD (k+1) (0,[])) (q:=l.getD (aE (Z8 l) k) (0,[]));rw[aE];cases e:Z8 l (k+1) (aE (Z8 l) k) with
  |true =>
   rw[if_pos rfl];refine⟨X3 _,λj hj=>?_⟩;have g:=f.1 e;by_cases z:j=k+1
   .rw[z];exact Ph _
   .exact bR g (h2 j nofun)
  |false =>
   rw[if_neg (by simp)];refine⟨by omega,λj hj=>?_⟩;by_cases z:j=k+1
   .rw[z];exact f.2 e
   .exact h2 j nofun
theorem K5{n k:Nat}{p:List Int}{ks:List (List Int)}{ns:List Int}{R:List Int->Int}(hk:1<=k)(hl:p.length<=6)(ho:j9 p p.length≠[])
  (hx:∀S,S∈rsL k (j9 p p.length)->∀q,Beh p S q->zu ks (ns.map D.int) q=a3 (.int (R q))) :
  ∃S∈rsL k (j9 p p.length),ju ((seL p S).map R)=Q0 ((rsL k (j9 p p.length)).map λS=>ju ((seL p S).map R)) /\
   evP 1000 G T (n+3) "best_round" [.dct ks (ns.map D.int),jd p,.int k]=.val (.tup [.int (ju ((seL p S).map R)),spD S]):=by
 have ne:=j4i hk ho;obtain⟨S0,rest,er⟩:∃S0 rest,rsL k (j9 p p.length)=S0::rest:=by
  cases h:rsL k (j9 p p.length) with
  |nil=>exact absurd h ne
  |cons x l=>exact⟨x,l,rfl⟩
 let pr:List Nat->Int×List Int:=λS=>(ju ((seL p S).map R),spI S)
 have sm:=Ek (k:=k) (Yi p p.length) hl;have ll:(rsL k (j9 p p.length)).length<=64:=by unfold rsL;rw[T4];omega
 obtain⟨b1,b2⟩:=Fj ((rsL k (j9 p p.length)).map pr) rest.length (by rw[xf,er,xq];omega);have hi:aE (Z8 ((rsL k (j9 p p.length)).map pr)) rest.length<(rsL k (j9 p p.length)).length:=by rw[er,xq];rw[er]at b1;omega
 obtain⟨S,eS⟩:∃S,(rsL k (j9 p p.length))[aE (Z8 ((rsL k (j9 p p.length)).map pr)) rest.length]?=a3 S:=⟨_,kh hi⟩
 have hS:=Xo eS;have gS:((rsL k (j9 p p.length)).map pr)[aE (Z8 ((rsL k (j9 p p.length)).map pr)) rest.length]?=a3 (pr S):=by rw[xx,eS];rfl
 refine⟨S,hS,?_,?_⟩
 .refine(Mi (X5.mpr ⟨S,hS,(rfl:(λS=>ju ((seL p S).map R)) S=ju ((seL p S).map R))⟩) λc hc=>?_).symm;obtain⟨S',hS',rfl⟩:=X5.mp hc;obtain⟨j,hj,ej⟩:=Pk.mp hS';have q:=b2 j (by rw[er,xq]at hj;omega);rw[kj,gS,kj,xx,kh hj,ej]at q;exact q
 .rw[jl (F:=Vv) (by rfl) rfl];simp only[Vv,Z6,enter];have rs:=j16 (n:=n+1) (k:=k) hl;ext;rw[rs];ext;rw[qi (l:=((rsL k (j9 p p.length)).map pr).map pairD) (by rfl) (by rw[xf];omega) ?_ (.inl rfl)];rotate_left
  .rw[Xc];refine jy λS hS=>z9 (by ext) ?_;have g:=Kg (n:=n) (R:=R) hl (λs hs=>(J8 rfl hS s hs).1) (hx S hS);ext;simp only[spD];rw[g];ext;rfl
  ext;rw[er,X4,jb8 (by rw[<-X4,<-er,xf];exact gS)];ext;rfl
theorem j7t{n k:Nat}{p:List Int}{ks:List (List Int)}{ns:List Int}{R:List Int->Int}(hk:1<=k)(hl:p.length<=6)(ho:j9 p p.length≠[])
  (hx:∀S,S∈rsL k (j9 p p.length)->∀q,Beh p S q->zu ks (ns.map D.int) q=a3 (.int (R q))) :
  evP 1000 G T (n+5) (jq "round_numbers") [.int k,.dct ks (ns.map D.int),jd p]=.lval (.int (1+Q0 ((rsL k (j9 p p.length)).map λS=>ju ((seL p S).map R)))):=by
 obtain⟨S,_,e0,e⟩:=K5 (n:=n+1) hk hl ho hx;rw[Dy (F:=Z9) (by rfl) rfl];simp only[Z9,Ju,enter];ext;rw[e];ext;rw[at0,e0];ext
theorem Ew:∀{p q r:List Int}{S:List Nat},q∈PK p->(∀s∈S,s<q.length/\q.getD s 0=2)->Beh q S r->r∈PK p
 |[],q,r,S,h,_,hb=>by have e:q=[]:=xm.mp h;rw[e]at hb;rw[List.length_eq_zero_iff.mp hb.1];exact xm.mpr rfl
 |t::p,q,r,S,h,hS,hb=>by
  obtain⟨x,hx,q',hq,e⟩:=Zf.mp h;subst e;cases r with
  |nil=>cases hb.1
  |cons y r =>
   have hl:r.length=q'.length:=by simpa using hb.1
   refine Zf.mpr ⟨y,?_,r,Ew (S:=(S.filter λs=>decide (0<s)).map (· - 1)) hq (λs hs=>?_) ⟨hl,λj hj=>?_⟩,rfl⟩
   .have b:=hb.2 0 (by simp);by_cases z:0∈S
    .have h2:x=2:=by simpa using(hS 0 z).2
     have hy:y=0\/y=1:=by simpa using b.1 z
     have ht:t=2:=by rcases Dt hx with ⟨z,_⟩|⟨z,w⟩<;>omega
     rw[ht];unfold J5;rw[if_pos rfl];rcases hy with e|e<;>rw[e]<;>simp
    .have hy:y=x:=by simpa using b.2 z
     rw[hy];exact hx
   .obtain⟨u,hu,rfl⟩:=X5.mp hs;obtain⟨h1,h2⟩:=Xl.mp hu;have h2:=of_decide_eq_true h2;have h3:=hS u h1;obtain⟨v,rfl⟩:∃v,u=v+1:=⟨u-1,by omega⟩
    rw[xq,Ti]at h3;exact⟨by show v+1-1<_;omega,by show q'.getD (v+1-1) 0=2;rw[iN];exact h3.2⟩
   .have b:=hb.2 (j+1) (by rw[xq];omega);rw[Ti,Ti]at b;have e:j+1∈S↔j∈(S.filter λs=>decide (0<s)).map (· - 1):=by
     rw[X5];exact⟨λh=>⟨j+1,Xl.mpr ⟨h,decide_eq_true nofun⟩,rfl⟩,λ⟨u,hu,e⟩=>by
      obtain⟨h1,h2⟩:=Xl.mp hu
      have h2:=of_decide_eq_true h2
      have e:u-1=j:=e
      rw[show j+1=u by omega];exact h1⟩
    rw[e]at b;exact b
theorem j2t{n m k:Nat}{ws:List ah}{a p:List Int}(hk:1<=k)(hw:ws.length=m)(hm:1<=m/\m<=6)(ha:a.length=2^m)(h01:∀x∈a,x=0\/x=1)(hp:p.length=m)(hp3:∀t∈p,0<=t/\t<3) :
  evP 1000 G T (n+6) "numbers_within" [jd p,qD ws a,.fn "round_numbers" [.int k]]=.val (.dct (PK p) (((PK p).map (Rp k a m)).map D.int)):=by
 rw[jl (F:=vd) (by rfl) rfl];simp only[vd,vf,enter];have pk:evP 1000 G T (n+5) "parts_in" [jd p]=.fresh (qe (PK p)):=by rw[Wy (n:=n+3) nofun,J6];rfl
 have p3:=Es hm.2;have pl:=Eu (p:=p);rw[hp]at pl;have pok:∀q∈PK p,q.length=m/\∀t∈q,0<=t/\t<3:=λq hq=>by rw[<-hp];exact Kq hp3 hq
 have hd:=Lh (f1:=λρ=>stOf (ev (evP 1000 G T (n+5)) G (.not (.isN (.call "settled_by" (.cons (.var 1) (.cons (.var 4) .nil))))) ρ))
  (f2:=λρ=>stOf (ev (evP 1000 G T (n+5)) G (.ite (.var 5) (.lit (.int 0)) (.callV 2 (.cons (.var 3) (.cons (.var 4) .nil)))) ρ))
  (A:=jd p) (B:=qD ws a) (C:=.fn "round_numbers" [.int k]) (L:=PK p) (W:=Rp k a m) (op:=opB a m) nofun (Et hp3)
  (λq s5 hq=>by
   have sp:evP 1000 G T (n+5) "settled_by" [.tup [.tup (ws.map D.str),.tup (a.map D.int)],jd q]=.val (stD a q m):=Wu (n:=n) hm ha (pok q hq).1 (pok q hq).2
   simp only[jd]at sp
   simp only[qD]
   ext
   rw[sp]
   ext
   simp only[opB])
  (λi hi=>by
   have hq:=Xr hi
   obtain⟨q1,q2⟩:=pok _ hq
   cases z:opB a m (PK p)[i] with
   |false =>
    simp only[jS]
    ext
    rw[vq z]
   |true =>
    simp only[k7]
    have L:=j7t (n:=n) (k:=k) (p:=(PK p)[i]) (ks:=(PK p).take i) (ns:=((PK p).take i).map (Rp k a m)) (R:=Rp k a m) hk nofun (by rw[q1];exact Zg h01 q1 q2 z) (λS hS q hb=>by
     rw[q1]at hS
     have ok:=J8 q1 hS
     rw[Xc]
     exact Wc (f:=λq=>D.int (Rp k a m q)) (Ey hp3 hi (Ew hq ok hb) (Mv (Zk hS).2.2 ok hb)))
    rw[q1,<-Uz q1 q2 z]at L
    simp only[jd]at L
    ext
    rw[j0u (by rw[vg,Yj,vg,Ov];rfl)]
    simp only[cC,bX]
    rw[L]
    ext)
  (PK p).length 0 .un .un (Pa _)
 have hi:ev (evP 1000 G T (n+5)) G (.seq (.call "parts_in" (.cons (.var 0) .nil))) [.val (jd p),.val (qD ws a),.val (.fn "round_numbers" [.int k]),.un,.un,.un]=a3 (.i (qe (PK p))):=by ext;rw[pk];ext
 have ru:=Cy (fu:=1000) (Γ:=evP 1000 G T (n+5)) (G:=G) (ρ:=[.val (jd p),.val (qD ws a),.val (.fn "round_numbers" [.int k]),.un,.un,.un]) (x:=3) (t:=4) (y:=5) ⟨by simp,by simp,by simp,by decide,by decide,by decide⟩ hi hd;exact congrArg fin ru
theorem Wn{n m k:Nat}{ws:List ah}{a p:List Int}(hk:1<=k)(hw:ws.length=m)(hm:1<=m/\m<=6)(ha:a.length=2^m)(h01:∀x∈a,x=0\/x=1)(hp:p.length=m)(hp3:∀t∈p,0<=t/\t<3) :
  evP 1000 G T (n+7) "round_numbers" [jd p,qD ws a,.int k]=.val (.dct (PK p) (((PK p).map (Rp k a m)).map D.int)):=by
 rw[jl (F:=Zc) (by rfl) rfl];simp only[Zc,Jx,enter];ext;rw[j2t (n:=n) hk hw hm ha h01 hp hp3,j1u (Yj ..)];ext
theorem gFw:G "FEWEST_AT_ONCE" = a3 (.int 1):=by rfl
theorem gMo:G "MOST_AT_ONCE" = a3 (.int 6):=by rfl
theorem Ep {n k:Nat} (hk:1<=k/\k<=6):evP 1000 G T (n+1) "refuse_wrong_round" [.int k]=.val .non:=by rw[jl (F:=Ji) (by rfl) rfl];simp only[Ji,v5,enter];ext;simp only[gFw];ext;simp only[gMo];ext
theorem Zi(m:Nat):∀t∈ae m (2:Int),0<=t/\t<3:=λt ht=>by rw[(List.mem_replicate.mp ht).2];decide
theorem j14{n m k:Nat}{ws:List ah}{a:List Int}(hk:1<=k/\k<=6)(hw:ws.length=m)(hm:1<=m/\m<=6)(ha:a.length=2^m)(h01:∀x∈a,x=0\/x=1) :
  evP 1000 G T (n+8) "round_table" [qD ws a,.int k]=.val (.tup (((PK (ae m 2)).map (Rp k a m)).map D.int)):=by
 rw[jl (F:=V8) (by rfl) rfl];simp only[V8,Qu,enter];ext;erw[Ep (n:=n+6) hk,Ry (n:=n+6) hm hw,Wn (n:=n) hk.1 hw hm ha h01 (Pg ..) (Zi m)]
theorem El{k:Nat}:∀{os S R:List Nat}{c:List (List Nat)},R∈c->S.Sublist os->R.length+S.length<=k->R++S∈os.foldl (rsS k) c
 |[],S,R,c,hR,hs,_=>by rw[List.sublist_nil.mp hs,Xn];exact hR
 |s::os,S,R,c,hR,hs,hl=>by
  rw[Pr];cases hs with
  |cons _ h=>exact El (T7 _ hR) h hl
  |cons_cons _ h =>rename_i S';rw[xq]at hl;rw[List.append_cons];exact El (Xe _ (X5.mpr ⟨R,Xl.mpr ⟨hR,decide_eq_true nofun⟩,rfl⟩)) h (by rw[Xb,cB];omega)
theorem Dj{k:Nat}{os S:List Nat}(hs:S.Sublist os)(hl:S.length<=k)(hn:S≠[]):S∈rsL k os:=by have h:=El (k:=k) (R:=[]) (c:=[[]]) (xm.mpr rfl) hs (by simpa using hl);have h:S∈rsC k os:=h;rw[W2.1]at h;exact(xr.mp h).resolve_left hn
theorem Dn{α:Type}{L:List α}{f:α->Int}{B:Int}(hn:L≠[])(h:∀q∈L,f q<=B):ju (L.map f)<=B:=by obtain⟨q,hq,e⟩:=X5.mp (Yl (ns:=L.map f) (by simpa using hn)).1;rw[<-e];exact h q hq
theorem Y6{α:Type}{L:List α}{f:α->Int}{q:α}(h:q∈L):f q<=ju (L.map f) :=
 (Yl (ns:=L.map f) λz=>by rw[List.map_eq_nil_iff.mp z]at h;cases h).2 _ (X5.mpr ⟨q,h,rfl⟩)
theorem Ur{p:List Int}{S:List Nat}:seL p S≠[]:=Ej (by simp)
section
variable{k m:Nat}{a p:List Int}
theorem Ia:0<=Rp k a m p:=by
 have h:∀(f:Nat)(p:List Int),0<=RpF k a m f p:=λf=>by
  induction f with
  |zero=>intro p;exact Ph _
  |succ f ih =>
   intro p;rw[RpF];split
   .have:0<=Q0 ((rsL k (j9 p m)).map λS=>ju ((seL p S).map (RpF k a m f))):=by
     by_cases hn:rsL k (j9 p m)=[]
     .rw[hn];exact Ph _
     .obtain⟨S,hS,e⟩:=X5.mp (Yk (ns:=(rsL k (j9 p m)).map λS=>ju ((seL p S).map (RpF k a m f))) (by simpa using hn)).1;rw[<-e];obtain⟨q,hq⟩:=Td _ (Ur (p:=p) (S:=S));exact bR (ih q) (Y6 hq)
    omega
   .exact Ph _
 exact h _ _
theorem j3x{S:List Nat}(hp:p.length=m)(h3:∀t∈p,0<=t/\t<3)(ho:opB a m p=a7)(hS:S∈rsL k (j9 p m)):Rp k a m p<=1+ju ((seL p S).map (Rp k a m)):=by rw[Uz hp h3 ho];have:=(Yk (ns:=(rsL k (j9 p m)).map λS=>ju ((seL p S).map (Rp k a m))) λz=>by rw[List.map_eq_nil_iff.mp z]at hS;cases hS).2 _ (X5.mpr ⟨S,hS,rfl⟩);omega
theorem j3y(hk:1<=k)(h01:∀x∈a,x=0\/x=1)(hp:p.length=m)(h3:∀t∈p,0<=t/\t<3)(ho:opB a m p=a7):∃S∈rsL k (j9 p m),Rp k a m p=1+ju ((seL p S).map (Rp k a m)):=by have ne:=j4i hk (Zg h01 hp h3 ho);obtain⟨S,hS,e⟩:=X5.mp (Yk (ns:=(rsL k (j9 p m)).map λS=>ju ((seL p S).map (Rp k a m))) (by simpa using ne)).1;exact⟨S,hS,by rw[Uz hp h3 ho,<-e]⟩
theorem j6h{P:List Int->Prop}(h:∀p,p.length=m->(∀t∈p,0<=t/\t<3)->(∀q,q.length=m->(∀t∈q,0<=t/\t<3)->jh q<jh p->P q)->P p):∀p,p.length=m->(∀t∈p,0<=t/\t<3)->P p:=by
 have key:∀(N:Nat)(p:List Int),p.length=m->(∀t∈p,0<=t/\t<3)->jh p<N->P p:=λN=>by
  induction N with
  |zero=>intro p _ h3 hv;have:=(Jd h3).1;omega
  |succ N ih=>intro p hp h3 hv;exact h p hp h3 λq hq q3 hl=>ih q hq q3 nofun
 intro p hp h3;exact key ((jh p).toNat+1) p hp h3 (by have:=(Jd h3).1;omega)
theorem j37{S:List Nat}(hp:p.length=m)(h3:∀t∈p,0<=t/\t<3)(hS:S∈rsL k (j9 p m)){q:List Int}(hq:q∈seL p S):q.length=m/\(∀t∈q,0<=t/\t<3)/\jh q<jh p:=by have ok:=J8 hp hS;have b:=(V3 λs hs=>(ok s hs).1).mp hq;exact⟨by rw[b.1,hp],Y8 b h3,Mv (Zk hS).2.2 ok b⟩
theorem j2p(hk:1<=k)(h01:∀x∈a,x=0\/x=1):∀p,p.length=m->(∀t∈p,0<=t/\t<3)->Rp (k+1) a m p<=Rp k a m p:=by
 refine j6h λp hp h3 ih=>?_;cases ho:opB a m p with
 |false=>rw[vq ho,vq ho];exact Ph _
 |true =>
  obtain⟨S,hS,e⟩:=j3y hk h01 hp h3 ho;obtain⟨s1,s2,s3⟩:=Zk hS;have h:=j3x (k:=k+1) hp h3 ho (Dj s1 nofun s3);have:ju ((seL p S).map (Rp (k+1) a m))<=ju ((seL p S).map (Rp k a m)):=Dn Ur λq hq=>by obtain⟨q1,q2,q3⟩:=j37 hp h3 hS hq;exact bR (ih q q1 q2 q3) (Y6 hq)
  omega
theorem jg1(hm:m<=6)(h01:∀x∈a,x=0\/x=1)(hp:p.length=m)(h3:∀t∈p,0<=t/\t<3):Rp 6 a m p<=1:=by
 cases ho:opB a m p with
 |false=>rw[vq ho];decide
 |true =>
  have hS:=Dj (k:=6) (bS (j9 p m)) (Xg (Yi p m) hm) (Zg h01 hp h3 ho);have h:=j3x (k:=6) hp h3 ho hS;have:ju ((seL p (j9 p m)).map (Rp 6 a m))<=0:=Dn Ur λq hq=>by
   have ok:=J8 hp hS;have b:=(V3 λs hs=>(ok s hs).1).mp hq;obtain⟨q1,q2,_⟩:=j37 hp h3 hS hq;cases hq':opB a m q with
   |false=>rw[vq hq'];exact Ph _
   |true =>
    exfalso;obtain⟨j,hj⟩:=Td _ (Zg h01 q1 q2 hq');obtain⟨j1,j2⟩:=V2 hj;by_cases z:j∈j9 p m
    .have:=(b.2 j nofun).1 z;omega
    .have e:=(b.2 j nofun).2 z;exact z (Xl.mpr ⟨Xd.mpr j1,decide_eq_true (by rw[<-e];exact j2)⟩)
  omega
theorem j95{s:Nat}(hp:p.length=m)(h3:∀t∈p,0<=t/\t<3)(ho:opB a m p=a7)(hs:s∈j9 p m):Rp 1 a m p<=1+ju [Rp 1 a m (p.set s 0),Rp 1 a m (p.set s 1)] :=
 j3x hp h3 ho (Dj (List.singleton_sublist.mpr hs) (X3 _) (by simp))
theorem ja8{s:Nat}{c:Int}(hc:c=0\/c=1)(h3:∀t∈p,0<=t/\t<3):∀t∈p.set s c,0<=t/\t<3:=λt ht=>by
 rcases fZ ht with h|h
 .exact h3 t h
 .omega
theorem Rz(B:Int)(hB:0<=B):∀(S:List Nat)(p:List Int),p.length=m->(∀t∈p,0<=t/\t<3)->S.Nodup->(∀s∈S,s∈j9 p m)->(∀q,Beh p S q->Rp 1 a m q<=B)->Rp 1 a m p<=(S.length:Int)+B
 |[],p,_,_,_,_,h=>by have:=h p ⟨rfl,λj _=>⟨λz=>(nomatch z),λ_=>rfl⟩⟩;simp only[t8];omega
 |s::S,p,hp,h3,hn,hS,h=>by
  cases ho:opB a m p with
  |false=>rw[vq ho];omega
  |true =>
   obtain⟨n1,n2⟩:=Xk.mp hn;have hs:=hS s xn;obtain⟨s1,s2⟩:=V2 hs;have st:=j95 hp h3 ho hs;have half:∀c:Int,(c=0\/c=1)->Rp 1 a m (p.set s c)<=(S.length:Int)+B:=λc hc=>by
    refine Rz B hB S (p.set s c) (by rw[Xy,hp]) (ja8 hc h3) n2 (λt ht=>?_) λq hb=>h q ⟨by rw[hb.1,Xy],λj hj=>?_⟩
    .obtain⟨t1,t2⟩:=V2 (hS t (km _ ht));refine Xl.mpr ⟨Xd.mpr t1,decide_eq_true ?_⟩;rw[V6 nofun,if_neg λz=>n1 (by rw[z];exact ht)];exact t2
    .have b:=hb.2 j (by rw[Xy];exact hj);rw[V6 nofun]at b;refine⟨λhm=>?_,λhm=>?_⟩
     .by_cases z:j∈S
      .exact b.1 z
      .have ej:s=j:=((xr.mp hm).resolve_right z).symm;rw[b.2 z,if_pos ej];exact hc
     .rw[b.2 λz=>hm (km _ z),if_neg λz=>hm (by rw[z];exact xn)]
   have h0:=half 0 (.inl rfl);have h1:=half 1 (.inr rfl);have:ju [Rp 1 a m (p.set s 0),Rp 1 a m (p.set s 1)]<=(S.length:Int)+B:=by
    refine Dn (L:=[p.set s 0,p.set s 1]) (f:=Rp 1 a m) (by simp) λq hq=>?_;rcases xr.mp hq with z|z
    .rw[z];exact h0
    .rw[xm.mp z];exact h1
   rw[xq];omega
theorem jg2(hk:1<=k)(h01:∀x∈a,x=0\/x=1):∀p,p.length=m->(∀t∈p,0<=t/\t<3)->Rp 1 a m p<=k*Rp k a m p:=by
 refine j6h λp hp h3 ih=>?_;cases ho:opB a m p with
 |false=>rw[vq ho,vq ho];simp
 |true =>
  obtain⟨S,hS,e⟩:=j3y hk h01 hp h3 ho;obtain⟨s1,s2,s3⟩:=Zk hS;have ok:=J8 hp hS;have on:(j9 p m).Nodup:=List.filter_sublist.nodup dq;have M:0<=ju ((seL p S).map (Rp k a m)):=by obtain⟨q,hq⟩:=Td _ (Ur (p:=p) (S:=S));exact bR Ia (Y6 hq)
  have c:=Rz (a:=a) (k*ju ((seL p S).map (Rp k a m))) (Int.mul_nonneg nofun M) S p hp h3 (s1.nodup on) (λs hs=>s1.subset hs) λq hb=>by have hq:=(V3 λs hs=>(ok s hs).1).mpr hb;obtain⟨q1,q2,q3⟩:=j37 hp h3 hS hq;exact bR (ih q q1 q2 q3) (Int.mul_le_mul_of_nonneg_left (Y6 hq) nofun)
  rw[e,Int.mul_add,iq];omega
end
theorem j1b{f:D->En->So}{ds:List D}{ρ:En}{g:En->So}{Q:Rc->Prop}(W:Nat->En->Prop)(h0:W 0 ρ)(hs:∀i d ρ,ds[i]?=a3 d->W i ρ->∃ρ',f d ρ=.next ρ'/\W (i+1) ρ')(hk:∀ρ',W ds.length ρ'->Q (fin (g ρ'))):Q (fin (W0 (Ja f ds ρ) g)):=by
 obtain⟨ρ',e,w⟩:=Qd (f:=f) W (k:=0) (ds:=ds) (ρ:=ρ) h0 λi d ρ hi w=>by rw[Pa]at w ⊢;exact hs i d ρ hi w
 rw[e];rw[Pa]at w;exact hk ρ' w
theorem j5x:∀(ts acc:List ah),acc.Nodup->(ts.foldl ddS acc).length=acc.length+ts.length->(acc++ts).Nodup
 |[],acc,hn,_=>by rw[Xn];exact hn
 |v::ts,acc,hn,h=>by
  rw[Pr,xq]at h;have hl:=Nx ts (ddS acc v);by_cases e:acc.any (· == v)=a7
  .have ed:ddS acc v=acc:=if_pos e;rw[ed]at hl h;omega
  .have ed:ddS acc v=acc++[v]:=if_neg e;rw[ed]at h;have nv:v∉acc:=λz=>e (List.any_eq_true.mpr ⟨v,z,beq_self_eq_true v⟩);have:=j5x ts (acc++[v]) (by
    rw[List.nodup_append]
    exact⟨hn,by simp,λx hx y hy=>by rw[xm.mp hy];exact λz=>nv (z▸hx)⟩) (by rw[h,Xb,cB];omega)
   rw[t6]at this;exact this
theorem j8l{ns:List ah}(h:(dd ns).length=ns.length):ns.Nodup:=j5x ns [] dR (by rw[show([]:List ah).length=0 from rfl,Pa];exact h)
theorem j6o {n m:Nat} {c:Int} (hm:1<=m/\m<=6):∃ws:List ah,(ws.Nodup/\ws.length=m)/\evP 1000 G T (n+1) "_law_words" [.int c,.int m]=.fresh (ws.map D.str):=by
 rw[jl (F:=Bb) (by rfl) rfl];simp only[Bb,Wi,enter];have ll:=jhl;have tot:∀k:Bool,((m:Int)*(if k then 1 else 0)).toNat=if k then m else 0:=λk=>by cases k<;>simp
 ext;simp only[j0n];ext;obtain⟨k,ek⟩:∃k:Bool,decide ((1000000000000000000:Int)<=c)=k:=⟨_,rfl⟩
 rw[ek];have kb:-4611686018427387904<=(m:Int)*(if k then 1 else 0)/\(m:Int)*(if k then 1 else 0)<4611686018427387904:=by cases k<;>simp<;>omega
 ext;rw[tot];refine j1b (Q:=λr=>∃ws:List ah,(ws.Nodup/\ws.length=m)/\r=.fresh (ws.map D.str)) (λi ρ=>∃(ns:List ah)(r:Int)(s5 s6 s7 s8:Sv),ns.length=i/\ρ=[.val (.int c),.val (.int m),.val (.str "mdkbvqhzcgrnapxolsiefwtyju"),.own (ns.map D.str),.val (.int r),s5,s6,s7,s8,.un,.un,.un,.un]) ⟨[],c,.un,.un,.un,.un,rfl,rfl⟩ ?_ ?_
 .rintro i d ρ hi ⟨ns,r,s5,s6,s7,s8,hl,rfl⟩;have hi2:i<7:=by have:=(X7.mp hi).1;rw[q9]at this;cases k<;>simp at this<;>omega
  simp only[zm];ext;refine Cw (λj ρ=>∃(x:List Nat)(r2:Int)(s8:Sv),x.length=j/\ρ=[.val (.int c),.val (.int m),.val (.str "mdkbvqhzcgrnapxolsiefwtyju"),.own (ns.map D.str),.val (.int r2),.val d,.val (.int (1+r%8)),.val (.str (sL x)),s8,.un,.un,.un,.un]) ⟨[],r/8,s8,rfl,rfl⟩ ?_ ?_
  .rintro j e ρ hj ⟨x,r2,s8',hx,rfl⟩;have hj2:j<8:=by have:=(X7.mp hj).1;rw[q9]at this;omega
   have lx:(sL x).length=j:=by rw[J1,hx]
   simp only[zm];ext;rw[Ku nofun];ext;have l1:(⟨#[lt (r2%26)]⟩:ah).length=1:=rfl;ext;refine⟨_,rfl,x++[lt (r2%26)],r2/26,.val e,by simp[hx],?_⟩;rw[show(⟨#[lt (r2%26)]⟩:ah)=sL [lt (r2%26)]from rfl,U0]
  .rintro ρ2 ⟨x,r2,s8',hx,rfl⟩;ext;refine⟨_,rfl,ns++[sL x],r2,.val d,.val (.int (1+r%8)),.val (.str (sL x)),s8',by simp[hl],?_⟩;rw[Xq];rfl
 rintro ρ' ⟨ns,r,s5,s6,s7,s8,hl,rfl⟩;rw[q9]at hl;have nl:ns.length<=6:=by rw[hl];split<;>omega
 ext;rw[jbc nofun];by_cases hd:((dd ns).length:Int)=(m:Int)
 .have lm:ns.length=m:=by
   cases k with
   |true=>simpa using hl
   |false =>have:ns=[]:=List.eq_nil_of_length_eq_zero (by simpa using hl);subst this;have z:(dd []).length=0:=rfl;rw[z]at hd;omega
  ext;exact⟨ns,⟨j8l nofun,lm⟩,rfl⟩
 refine⟨Q8 c m,⟨Ih hm.2,K6 _ _⟩,?_⟩;by_cases h:c%4<2
 .ext;rw[qi (l:=((Y0 c).map λx=>(⟨#[x]⟩:ah)).map D.str) (by rfl) (by rw[q9];decide) ?_ (.inl rfl)];rotate_left
  .rw[Z7,Y0,Xc,Xc];refine jy λk hk'=>z9 (by ext) ?_;have hk:=Xd.mp hk';ext;rw[Ku nofun];ext;simp
  rw[j28 (R8 (by rw[Qe];decide)),Ni];have st:=j9b (c:=c) hm.2;obtain⟨s,hs⟩:∃s:Nat,s=stN c m:=⟨_,rfl⟩
  have es:c/8%(9-(m:Int))=(s:Int):=by rw[hs];unfold stN;have:=Te (c/8) (show(9-(m:Int))≠0 by omega);omega
  have lg:(sL (Y0 c)).length=8:=by rw[J1,Qe]
  by_cases h0:c%4=0
  .ext;rw[es,qi (l:=(Q8 c m).map D.str) (by rfl) (by rw[q9];omega) ?_ (.inl rfl)]
   .ext
   .rw[Xh,Z7,Q8,Xc];refine jy λk hk'=>z9 (by ext) ?_;have hk:=Xd.mp hk';ext;have e:(s:Int)+(0+(k:Int))+1=((s+k+1:Nat):Int):=by omega
    have hh:wrd c m k=(Y0 c).take (stN c m+k+1):=by unfold wrd;rw[if_pos h,if_pos h0]
    rw[e,Bw (by rw[Qe];omega)];simp only[cu,hh,hs]
  .ext;rw[es,qi (l:=(Q8 c m).map D.str) (by rfl) (by rw[q9];omega) ?_ (.inl rfl)]
   .ext
   .rw[Xh,Z7,Q8,Xc];refine jy λk hk'=>z9 (by ext) ?_;have hk:=Xd.mp hk';ext;have e:8-(s:Int)-(0+(k:Int))-1=((8-s-k-1:Nat):Int):=by omega
    have hh:wrd c m k=(Y0 c).drop (8-stN c m-k-1):=by unfold wrd;rw[if_pos h,if_neg h0]
    rw[e,Bx (by rw[Qe];omega)];simp only[cu,hh,hs]
 .have a:=j9t c;obtain⟨s,hs⟩:∃s:Nat,s=szN c:=⟨_,rfl⟩
  have es:c/4%8=(s:Int):=by rw[hs];unfold szN;omega
  obtain⟨q,hq⟩:∃q:Nat,q=atN c:=⟨_,rfl⟩
  have eq:c/512%((s:Int)+1)=(q:Int):=by rw[hq];unfold atN;have:=Te (c/512) (show((s:Int)+1)≠0 by omega);rw[<-hs];omega
  ext;rw[es,qi (l:=((Vf c s).map λx=>(⟨#[x]⟩:ah)).map D.str) (by rfl) (by rw[q9];omega) ?_ (.inl rfl)];rotate_left
  .rw[Xh,Z7,Vf,Xc,Xc];refine jy λk hk'=>z9 (by ext) ?_;have hk:=Xd.mp hk';ext;rw[Ku nofun];ext;simp
  rw[j28 (R8 (by rw[zx];omega)),Ni];have lg:(sL (Vf c s)).length=s:=by rw[J1,zx]
  ext;rw[eq,qi (l:=(Q8 c m).map D.str) (by rfl) (by rw[q9];omega) ?_ (.inl rfl)]
  .ext
  .rw[Xh,Z7,Q8,Xc];refine jy λk hk'=>z9 (by ext) ?_;have hk:=Xd.mp hk';ext;rw[Ku nofun];ext;rw[Bw (by rw[zx];omega),Bx (by rw[zx];omega)];have e1:(⟨#[lt ((c/9+7*(0+(k:Int)))%26)]⟩:ah)=sL [lt ((c/9+7*(0+(k:Int)))%26)]:=rfl;have l1:(sL ((Vf c s).take q)).length=q:=by rw[J1,Xp,zx];omega
   have l2:(sL ((Vf c s).drop q)).length=s-q:=by rw[J1,T4,zx]
   have l3:(sL [lt ((c/9+7*(0+(k:Int)))%26)]).length=1:=rfl;have l4:(sL ((Vf c s).take q)++sL [lt ((c/9+7*(0+(k:Int)))%26)]).length=q+1:=by rw[U0,J1,Xb,Xp,zx,xq,t8];omega
   rw[e1];ext;rw[U0,U0];simp only[cu,wrd,h,if_false,<-hs,<-hq,t6,List.singleton_append,cQ]
noncomputable def Yv(n:Nat)(ns:List Int)(a most:Nat):List Int :=
 (ar (2^Zm ns a most)).map λ(k:Nat)=>if decide ((1000000000000000000:Int)<=qg ns (a+2))=a7 then qg ns (a+2)/(1*2^(0+(k:Int)).toNat)%2 else Bk 1000 G T n (j6 2 (Zm ns a most) (0+(k:Int))) (qg ns a/(most:Int)%5) (qg ns (a+2))
theorem jcb{n:Nat}{ns:List Int}{a most:Nat}(hm:1<=most/\most<=6):∀x∈Yv n ns a most,x=0\/x=1:=by
 intro x hx;obtain⟨k,_,rfl⟩:=X5.mp hx;have mb:=Do (ns:=ns) (a:=a) hm;split
 .omega
 .exact(j0w jey (j3p _ _) (by rw[qb];omega)).1
theorem p2n{k:Nat}(h:k<64):0<(2:Int)^k/\(2:Int)^k<18446744073709551616:=by
 refine⟨bJ (by decide),?_⟩;have h1:2^k<2^64:=Nat.pow_lt_pow_right (by decide) h;have h2:(2:Nat)^64=18446744073709551616:=by decide
 rw[h2]at h1;have h3:((2^k:Nat):Int)=(2:Int)^k:=by simp
 omega
theorem j17{n:Nat}{ns:List Int}{a most:Nat}(ha:a<=50)(hm:1<=most/\most<=6):∃ws:List ah,(ws.Nodup/\ws.length=Zm ns a most) /\
  evP 1000 G T (n+2) "_law_question" [.lst (ns.map D.int),.int a,.int most]=.val (.tup [.tup (ws.map D.str),.tup ((Yv n ns a most).map D.int)]):=by
 rw[jl (F:=Uj) (by rfl) rfl];simp only[Uj,Vn,enter];have mb:=Do (ns:=ns) (a:=a) hm;obtain⟨m,em⟩:∃m:Nat,m=Zm ns a most:=⟨_,rfl⟩
 have em2:1+qg ns a%(most:Int)=(m:Int):=by rw[em];unfold Zm;have h1:=Te (qg ns a) (show(most:Int)≠0 by omega);omega
 rw[<-em]at mb;have p2:=j7f (m:=m) nofun
 have pc:((2^m:Nat):Int)=(2:Int)^m:=by simp
 have e3:(1*2^m:Int).toNat=2^m:=by rw[df,<-pc];exact Xh _
 have c0:evP 1000 G T (n+1) "_law_cell" [.lst (ns.map D.int),.int a]=.val (.int (qg ns a)):=Vo Nr nofun
 have c1:evP 1000 G T (n+1) "_law_cell" [.lst (ns.map D.int),.int ((a:Int)+1)]=.val (.int (qg ns (a+1))):=Vo Nr (k:=a+1) nofun
 have c2:evP 1000 G T (n+1) "_law_cell" [.lst (ns.map D.int),.int ((a:Int)+2)]=.val (.int (qg ns (a+2))):=Vo Nr (k:=a+2) nofun
 obtain⟨ws,⟨wnd,wl⟩,we⟩:=j6o (n:=n) (c:=qg ns (a+1)) (m:=m) nofun
 refine⟨ws,⟨wnd,by rw[wl,em]⟩,?_⟩;ext;rw[c0];ext;rw[em2,c1];ext;erw[we,c0,c2,Xh];rw[e3];rw[Ox (λi=>[.val (.lst (ns.map D.int)),.val (.int a),.val (.int most),.val (.int m),.own (ws.map D.str),.val (.int (qg ns a/(most:Int)%5)),.val (.int (qg ns (a+2))),.own (((Yv n ns a most).take i).map D.int),if i=0 then .un else .val (.int ((i:Int)-1)),if i=0 then .un else .own ((j6 2 m ((i:Int)-1)).map D.int),.un]) (by simp)]
 .ext;rw[q9,Tn (by simp[Yv,<-em])]
 .intro i d hi;obtain⟨h1,rfl⟩:=Yc hi;have hz:=j3p m (0+(i:Int));have hlz:=qb 2 m (0+(i:Int));obtain⟨hb,eb⟩:=j0w (fu:=1000) (n:=n) (G:=G) jey hz nofun (kd:=qg ns a/(most:Int)%5) (c:=qg ns (a+2))
  have lt64:2^m<=64:=by omega
  have pw:=p2n (k:=(0+(i:Int)).toNat) nofun
  have al:(Yv n ns a most).length=2^m:=by simp[Yv,<-em]
  have ag:(Yv n ns a most)[i]?=a3 (if decide ((1000000000000000000:Int)<=qg ns (a+2))=a7 then qg ns (a+2)/(1*2^(0+(i:Int)).toNat)%2 else Bk 1000 G T n (j6 2 m (0+(i:Int))) (qg ns a/(most:Int)%5) (qg ns (a+2))):=by unfold Yv;rw[<-em,xx,Pb h1];rfl
  simp only[zm];ext;rw[qi (l:=(j6 2 m (0+(i:Int))).map D.int) (by rfl) (by rw[q9];omega) ?_ (.inl rfl)];rotate_left
  .have ed:j6 2 m (0+(i:Int))=(ar m).map λ(k:Nat)=>(0+(i:Int))/2^(m-1-k)%2:=by
    refine Tw λk=>?_;by_cases hk:k<m
    .rw[Qh hk,xx,Pb hk];rfl
    .rw[Xx (by rw[qb];omega),Xx (by simp;omega)]
   rw[Xh,Z7,ed,Xc];refine jy λk hk'=>z9 (by ext) ?_;have hk:=Xd.mp hk';have et:((m:Int)-(0+(k:Int))-1).toNat=m-1-k:=by omega
   have p:=p2k (k:=m-1-k) nofun
   rw[<-et]at p;ext;rw[et,df];rfl
  ext;rw[j8n,eb];ext;rw[jbb rfl];simp only[j0n];ext;have pick:∀(k:Bool)(x y:Int),atI [D.int x,.int y] (if k then 1 else 0)=a3 (.int (if k=a7 then y else x)):=λk x y=>by cases k<;>rfl
  rw[pick];ext;rw[su,ag];simp
theorem j1h{n s:Nat}{p:List Int}{ks:List (List Int)}{ns:List Int}{x y:Int}(hl:p.length<=6)(hs:s<p.length)(h2:p.getD s 0=2)(hx:zu ks (ns.map D.int) (p.set s 0)=a3 (.int x))(hy:zu ks (ns.map D.int) (p.set s 1)=a3 (.int y)) :
  evP 1000 G T (n+2) "numbers_behind" [.dct ks (ns.map D.int),jd p,.int s]=.fresh ([x,y].map D.int):=by
 have t0:=Cu (n:=n) (v:=0) hl hs h2;have t1:=Cu (n:=n) (v:=1) hl hs h2;simp only[jd]at t0 t1 ⊢;rw[jl (F:=Qy) (by rfl) rfl];simp only[Qy,Jc,enter];ext;simp only[gA];ext;rw[qi (l:=[x,y].map D.int) (by rfl) (by decide) ?_ (.inr (vp _))]
 .ext
 .rw[Jw,z9 (d':=.int x) (by ext) (by ext;rw[t0];ext;rw[Dz hx])];rw[Jw,z9 (d':=.int y) (by ext) (by ext;rw[t1];ext;rw[Dz hy])];rfl
theorem j5z{n s:Nat}{p pr:List Int}{ks:List (List Int)}{ns:List Int}{x y:Int}(hl:p.length<=6)(hs:s<p.length)(hr:s<pr.length)(h2:p.getD s 0=2)(hx:zu ks (ns.map D.int) (p.set s 0)=a3 (.int x))(hy:zu ks (ns.map D.int) (p.set s 1)=a3 (.int y)) :
  evP 1000 G T (n+3) (jq "worst_cost_of_ask") [.lst (pr.map D.int),.dct ks (ns.map D.int),jd p,.int s]=.lval (.int (pr.getD s 0+ju [x,y])):=by
 have b:=j1h (n:=n) hl hs h2 hx hy;have g:=j0e hr;rw[Dy (F:=Jq) (by rfl) rfl];simp only[Jq,vm,enter];ext;rw[g,b];ext;rw[show([D.int x,D.int y]:List D)=[x,y].map D.int from rfl,j9k (by simp)];ext
theorem j1j(l:List (List Int))(h:∀k∈l,k.length=2):∀k,k<l.length->aE (Jb l) k<=k/\∀j,j<=k->(l.getD (aE (Jb l) k) []).getD 0 0<=(l.getD j []).getD 0 0:=by
 have two:∀i,i<l.length->∃a b,l.getD i []=[a,b]:=λi hi=>by
  have e:l.getD i []=l[i]:=by rw[kj,kh hi];rfl
  have hm:=h _ (Xr hi);rw[e]
  match l[i],hm with|[a,b],_=>exact⟨a,b,rfl⟩
 intro k;induction k with
 |zero=>exact λ_=>⟨X3 _,λj hj=>by rw[Nat.le_zero.mp hj];exact Ph _⟩
 |succ k ih =>
  intro hk;obtain⟨h1,h2⟩:=ih nofun
  obtain⟨a,b,e1⟩:=two (k+1) hk;obtain⟨c,d,e2⟩:=two (aE (Jb l) k) nofun
  rw[aE];cases z:Jb l (k+1) (aE (Jb l) k) with
  |true =>
   rw[if_pos rfl];refine⟨X3 _,λj hj=>?_⟩;have z:HT.lexLt (l.getD (k+1) []) (l.getD (aE (Jb l) k) [])=a7:=z;rw[e1,e2]at z;have z:a<=c:=by
    rw[HT.lexLt]at z;by_cases q:a=c
    .omega
    .rw[if_neg q]at z;have:=of_decide_eq_true z;omega
   rcases dD j (k+1)with q|q
   .have:=h2 j nofun
    rw[e2]at this;rw[e1];exact bR z this
   .rw[show j=k+1 by omega];exact Ph _
  |false =>
   rw[if_neg xj];refine⟨by omega,λj hj=>?_⟩;have z:HT.lexLt (l.getD (k+1) []) (l.getD (aE (Jb l) k) [])=a4:=z;rw[e1,e2]at z;have z:c<=a:=by
    rw[HT.lexLt]at z;by_cases q:a=c
    .omega
    .rw[if_neg q]at z;have:=of_decide_eq_false z;omega
   rcases dD j (k+1)with q|q
   .exact h2 j nofun
   .rw[show j=k+1 by omega,e1,e2];exact z
theorem Kh{n:Nat}{p pr:List Int}{ks:List (List Int)}{ns:List Int}{V0 V1:Nat->Int}(hl:p.length<=6)(hr:pr.length=p.length)(ho:j9 p p.length≠[])
  (hx:∀s,s<p.length->p.getD s 0=2->zu ks (ns.map D.int) (p.set s 0)=a3 (.int (V0 s))/\zu ks (ns.map D.int) (p.set s 1)=a3 (.int (V1 s))) :
  ∃s:Int,evP 1000 G T (n+4) "cheapest_ask" [.dct ks (ns.map D.int),jd p,.fn "worst_cost_of_ask" [.lst (pr.map D.int)]]=.val (.tup [.int (Q0 ((j9 p p.length).map λs=>pr.getD s 0+ju [V0 s,V1 s])),.int s]):=by
 let kk:List (List Int):=(j9 p p.length).map λ(s:Nat)=>[pr.getD s 0+ju [V0 s,V1 s],(s:Int)]
 have kl:kk.length=(j9 p p.length).length:=xf ..;have kp:0<(j9 p p.length).length:=List.length_pos_iff.mpr ho;obtain⟨b1,b2⟩:=j1j kk (λk hk=>by obtain⟨s,_,e⟩:=X5.mp hk;rw[<-e];rfl) (kk.length-1) nofun
 have hi:aE (Jb kk) (kk.length-1)<kk.length:=by omega
 have hk:kk[aE (Jb kk) (kk.length-1)]?=a3 (kk.getD (aE (Jb kk) (kk.length-1)) []):=by rw[kj,kh hi];rfl
 obtain⟨s0,hs0,e0⟩:=X5.mp (Xo hk);have at':∀{t:Nat},t∈j9 p p.length->t<p.length/\p.getD t 0=2:=λ{t} ht=>by obtain⟨h1,h2⟩:=Xl.mp ht;exact⟨Xd.mp h1,of_decide_eq_true h2⟩
 have mn:Q0 ((j9 p p.length).map λs=>pr.getD s 0+ju [V0 s,V1 s])=pr.getD s0 0+ju [V0 s0,V1 s0]:=by
  refine Mi (X5.mpr ⟨s0,hs0,rfl⟩) λc hc=>?_;obtain⟨t,ht,rfl⟩:=X5.mp hc;obtain⟨j,hj,ej⟩:=Pk.mp ht;have q:=b2 j nofun
  rw[<-e0]at q;have e1:kk.getD j []=[pr.getD t 0+ju [V0 t,V1 t],(t:Int)]:=by rw[kj,xx,kh hj,ej];rfl
  rw[e1]at q;exact q
 refine⟨(s0:Int),?_⟩;rw[mn,jl (F:=Zr) (by rfl) rfl];simp only[Zr,Q6,enter,jd];ext;rw[qi (l:=kk.map λk=>D.tup (k.map D.int)) (by rfl) (by unfold Jt;rw[xf,bZ,xf];omega) ?_ (.inl rfl)];rotate_left
 .rw[Rm,Xc];refine Vw λs hs'=>?_;have hs:=Xd.mp hs';refine j6q ?_ λhb=>?_
  .ext;simp only[gN];ext;simp only[Cd];ext
  .have h2:p.getD s 0=2:=of_decide_eq_true hb;obtain⟨h0,h1⟩:=hx s hs h2;have c:=j5z (n:=n) (pr:=pr) hl hs nofun h2 h0 h1;simp only[jd]at c;ext;rw[j8p (by rw[vg,Yj,vg,Ov];rfl)];simp only[cC,bX];rw[c];ext;rfl
 ext;rw[jb9 hk,<-e0];ext
theorem j5d{n:Nat}{p pr:List Int}{ks:List (List Int)}{ns:List Int}{V0 V1:Nat->Int}(hl:p.length<=6)(hr:pr.length=p.length)(ho:j9 p p.length≠[])
  (hx:∀s,s<p.length->p.getD s 0=2->zu ks (ns.map D.int) (p.set s 0)=a3 (.int (V0 s))/\zu ks (ns.map D.int) (p.set s 1)=a3 (.int (V1 s))) :
  evP 1000 G T (n+5) (jq "least_numbers") [.fn "worst_cost_of_ask" [.lst (pr.map D.int)],.dct ks (ns.map D.int),jd p]=.lval (.int (Q0 ((j9 p p.length).map λs=>pr.getD s 0+ju [V0 s,V1 s]))):=by
 obtain⟨s,e⟩:=Kh (n:=n) hl hr ho hx;rw[Dy (F:=Za) (by rfl) rfl];simp only[Za,Jv,enter];ext;erw[e,at0]
theorem rep1(k:Nat):(ae k [D.int 1]).flatten=(ae k (1:Int)).map D.int:=by
 induction k with
 |zero=>rfl
 |succ k ih=>rw[Xz,Tf,ih];rfl
theorem j4m {n m:Nat} (hm:m<=6):evP 1000 G T (n+1) "prices_told" [.int m,.non]=.fresh ((ae m (1:Int)).map D.int):=by rw[jl (F:=V9) (by rfl) rfl];simp only[V9,Qv,enter];ext;rw[Xh,rep1]
theorem j1d {n m:Nat} {ws:List ah} {a pr:List Int} {d:D} (hw:ws.length=m) (hp:evP 1000 G T (n+1) "prices_told" [.int m,d]=.fresh (pr.map D.int)) :
  evP 1000 G T (n+2) "worst_cost_of_ask" [qD ws a,d]=.val (.fn "worst_cost_of_ask" [.lst (pr.map D.int)]):=by
 rw[jl (F:=Js) (by rfl) rfl];simp only[Js,vo,enter,qD];ext;rw[at0];ext;rw[hw,hp];ext
theorem j1z:∀m:Nat,(PK (ae m 2)).getLast?=a3 (ae m 2)
 |0=>rfl
 |m+1=>by
  have ek:PK (ae (m+1) 2)=((PK (ae m 2)).map (0 :: ·)++(PK (ae m 2)).map (1 :: ·))++(PK (ae m 2)).map (2 :: ·):=by unfold PK;rw[Xz,X4,zb];simp[J5]
  rw[ek,i7,iQ,j1z m,Xz];rfl
theorem atL{t:List Int}{x:Int}(h:t.getLast?=a3 x):atI (t.map D.int) (-1)=a3 (.int x):=by
 have hn:t≠[]:=λe=>by rw[e]at h;cases h
 have hl:0<t.length:=List.length_pos_iff.mpr hn;unfold atI ixN;rw[xf,if_neg (by decide),if_pos nofun];show(t.map D.int)[_]?=_;rw[show(-1+(t.length:Int)).toNat=t.length-1 by omega,xx,<-List.getLast?_eq_getElem?,h];rfl
theorem j4g:∀{os l:List Nat},os.foldl (rsS 1) ([]::l.map λs=>[s])=[]::(l++os).map λs=>[s]
 |[],l=>by rw[Xn];rfl
 |s::os,l=>by
  have e:rsS 1 ([]::l.map λs=>[s]) s=[]::(l++[s]).map λs=>[s]:=by
   have f:(l.map λs=>[s]).filter (λS:List Nat=>decide (S.length<1))=[]:=List.filter_eq_nil_iff.mpr λS hS=>by obtain⟨t,_,rfl⟩:=X5.mp hS;simp
   unfold rsS;rw[c9 (by simp),f,Xq];rfl
  rw[Pr,e,j4g,t6];rfl
theorem jak{os:List Nat}:rsL 1 os=os.map λs=>[s]:=by have:rsC 1 os=[]::os.map λs=>[s]:=j4g (l:=[]);unfold rsL;rw[this];rfl
theorem j96{a p:List Int}{m:Nat}(h01:∀x∈a,x=0\/x=1)(hp:p.length=m)(h3:∀t∈p,0<=t/\t<3)(h:opB a m p=a7) :
  Rp 1 a m p=Q0 ((j9 p m).map λs=>(ae m (1:Int)).getD s 0+ju [Rp 1 a m (p.set s 0),Rp 1 a m (p.set s 1)]):=by
 have ne:=Zg h01 hp h3 h;rw[Uz hp h3 h,jak,Xc];obtain⟨m1,m2⟩:=Yk (ns:=(j9 p m).map ((λS=>ju ((seL p S).map (Rp 1 a m))) ∘ λs=>[s])) (by simpa using ne);have one:∀s∈j9 p m,(ae m (1:Int)).getD s 0=1:=λs hs=>by rw[kj,gv,if_pos (V2 hs).1];rfl
 refine(Mi ?_ λc hc=>?_).symm
 .obtain⟨s,hs,e⟩:=X5.mp m1;rw[<-e];exact X5.mpr ⟨s,hs,by rw[one s hs];rfl⟩
 .obtain⟨s,hs,rfl⟩:=X5.mp hc;rw[one s hs];have:=m2 _ (X5.mpr ⟨s,hs,rfl⟩);exact Int.add_le_add_left this 1
theorem j10{n m:Nat}{ws:List ah}{a p:List Int}(hw:ws.length=m)(hm:1<=m/\m<=6)(ha:a.length=2^m)(h01:∀x∈a,x=0\/x=1)(hp:p.length=m)(hp3:∀t∈p,0<=t/\t<3) :
  evP 1000 G T (n+6) "numbers_within" [jd p,qD ws a,.fn "least_numbers" [.fn "worst_cost_of_ask" [.lst ((ae m (1:Int)).map D.int)]]]=.val (.dct (PK p) (((PK p).map (Rp 1 a m)).map D.int)):=by
 rw[jl (F:=vd) (by rfl) rfl];simp only[vd,vf,enter];have pk:evP 1000 G T (n+5) "parts_in" [jd p]=.fresh (qe (PK p)):=by rw[Wy (n:=n+3) nofun,J6];rfl
 have p3:=Es hm.2;have pl:=Eu (p:=p);rw[hp]at pl;have pok:∀q∈PK p,q.length=m/\∀t∈q,0<=t/\t<3:=λq hq=>by rw[<-hp];exact Kq hp3 hq
 have hd:=Lh (f1:=λρ=>stOf (ev (evP 1000 G T (n+5)) G (.not (.isN (.call "settled_by" (.cons (.var 1) (.cons (.var 4) .nil))))) ρ))
  (f2:=λρ=>stOf (ev (evP 1000 G T (n+5)) G (.ite (.var 5) (.lit (.int 0)) (.callV 2 (.cons (.var 3) (.cons (.var 4) .nil)))) ρ))
  (A:=jd p) (B:=qD ws a) (C:=.fn "least_numbers" [.fn "worst_cost_of_ask" [.lst ((ae m (1:Int)).map D.int)]]) (L:=PK p) (W:=Rp 1 a m) (op:=opB a m) nofun (Et hp3)
  (λq s5 hq=>by
   have sp:evP 1000 G T (n+5) "settled_by" [.tup [.tup (ws.map D.str),.tup (a.map D.int)],jd q]=.val (stD a q m):=Wu (n:=n) hm ha (pok q hq).1 (pok q hq).2
   simp only[jd]at sp
   simp only[qD]
   ext
   rw[sp]
   ext
   simp only[opB])
  (λi hi=>by
   have hq:=Xr hi
   obtain⟨q1,q2⟩:=pok _ hq
   cases z:opB a m (PK p)[i] with
   |false =>
    simp only[jS]
    ext
    rw[vq z]
   |true =>
    simp only[k7]
    have sub:∀(s:Nat)(c:Int),s<(PK p)[i].length->(PK p)[i].getD s 0=2->(c=0\/c=1)->zu ((PK p).take i) (((((PK p).take i).map (Rp 1 a m))).map D.int) ((PK p)[i].set s c)=a3 (.int (Rp 1 a m ((PK p)[i].set s c))):=λs c hs h2 hc=>by
     rw[Xc]
     refine Wc (f:=λq=>D.int (Rp 1 a m q)) (Ey hp3 hi (j4q hq h2 hc) ?_)
     rw[M4 hs,h2]
     have:(0:Int)<3^((PK p)[i].length-1-s):=bJ (by decide)
     rcases hc with e|e<;>subst e<;>omega
    have L:=j5d (n:=n) (p:=(PK p)[i]) (pr:=ae m 1) (ks:=(PK p).take i) (ns:=((PK p).take i).map (Rp 1 a m)) (V0:=λs=>Rp 1 a m ((PK p)[i].set s 0)) (V1:=λs=>Rp 1 a m ((PK p)[i].set s 1))
     nofun (by rw[Pg,q1]) (by rw[q1];exact Zg h01 q1 q2 z) (λs hs h2=>⟨sub s 0 hs h2 (.inl rfl),sub s 1 hs h2 (.inr rfl)⟩)
    have wo:=j96 h01 q1 q2 z
    rw[q1,<-wo]at L
    simp only[jd]at L
    ext
    rw[j0u (by rw[vg,Yj,vg,Ov];rfl)]
    simp only[cC,bX]
    rw[L]
    ext)
  (PK p).length 0 .un .un (Pa _)
 have hi:ev (evP 1000 G T (n+5)) G (.seq (.call "parts_in" (.cons (.var 0) .nil))) [.val (jd p),.val (qD ws a),.val (.fn "least_numbers" [.fn "worst_cost_of_ask" [.lst ((ae m (1:Int)).map D.int)]]),.un,.un,.un]=a3 (.i (qe (PK p))):=by ext;rw[pk];ext
 have ru:=Cy (fu:=1000) (Γ:=evP 1000 G T (n+5)) (G:=G) (ρ:=[.val (jd p),.val (qD ws a),.val (.fn "least_numbers" [.fn "worst_cost_of_ask" [.lst ((ae m (1:Int)).map D.int)]]),.un,.un,.un]) (x:=3) (t:=4) (y:=5) ⟨by simp,by simp,by simp,by decide,by decide,by decide⟩ hi hd;exact congrArg fin ru
theorem j2s{n m:Nat}{ws:List ah}{a:List Int}(hw:ws.length=m)(hm:1<=m/\m<=6)(ha:a.length=2^m)(h01:∀x∈a,x=0\/x=1) :
  evP 1000 G T (n+9) "worst_table" [qD ws a,.non]=.val (.tup (((PK (ae m 2)).map (Rp 1 a m)).map D.int)):=by
 have nm:evP 1000 G T (n+7) "least_numbers" [jd (ae m 2),qD ws a,.fn "worst_cost_of_ask" [.lst ((ae m (1:Int)).map D.int)]]=.val (.dct (PK (ae m 2)) (((PK (ae m 2)).map (Rp 1 a m)).map D.int)):=by rw[jl (F:=Zd) (by rfl) rfl];simp only[Zd,Jy,enter];ext;rw[j10 (n:=n) hw hm ha h01 (Pg ..) (Zi m),j1u (Yj ..)];ext
 have tb:evP 1000 G T (n+8) "least_table" [qD ws a,.fn "worst_cost_of_ask" [.lst ((ae m (1:Int)).map D.int)]]=.val (.tup (((PK (ae m 2)).map (Rp 1 a m)).map D.int)):=by rw[jl (F:=Va) (by rfl) rfl];simp only[Va,Qw,enter];ext;erw[Ry (n:=n+6) hm hw,nm]
 rw[jl (F:=V7) (by rfl) rfl];simp only[V7,Qs,enter];ext;erw[j1d (n:=n+6) hw (j4m (n:=n+6) hm.2),tb]
theorem j5u(a:List ah):D.depL (a.map D.str)<=90:=by
 induction a with
 |nil=>simp[D.depL]
 |cons x a ih=>rw[X4,D.depL];simp[D.dep];exact ih
theorem j5g:∀{ws:List ah}{p:ah},p∈ws->ixD (.str p) (ws.map D.str)=a3 (ws.idxOf p)
 |[],p,h=>by cases h
 |w::ws,p,h=>by
  unfold ixD;rw[X4];dsimp only;rw[j5s];by_cases z:w=p
  .subst z;simp
  .have z':(w==p)=a4:=by simpa using z
   rw[z',if_neg (by simp),j5g (by simpa [cz z]using h),List.idxOf_cons,z'];rfl
theorem jex{ws:List ah}{s:Nat}(nd:ws.Nodup)(h:s<ws.length):ws.idxOf ws[s]=s:=(fh nd).mp (List.getElem_idxOf (List.idxOf_lt_length_iff.mpr (Xr h)))
theorem j8k{q:List Int}{m s:Nat}(hq:q.length=m)(h3:∀t∈q,0<=t/\t<3)(hs:s<m):jh q/3^(m-1-s)%3=q.getD s 0:=by have e:=Wb h3;rw[hq]at e;have g:=Qh (b:=3) (m:=m) (z:=jh q) hs;rw[e]at g;rw[kj,g];rfl
theorem jis{ws:List ah}{p:ah}(hp:p∈ws):De (a3 (.v (.o (ws.map D.str)))) (a3 (.v (.e (.str p))))=a3 (.v (.e (.int ((ws.idxOf p:Nat):Int)))):=by
 have hdl:D.depL (ws.map D.str)<=90/\(D.str p).dep<=90:=⟨j5u ws,by simp[D.dep]⟩
 simp only[De,Rk.d,if_pos hdl,j5g hp];rfl
theorem gtw {ws:List ah} {k:Nat} (h:k<ws.length):atI (ws.map D.str) (k:Int)=a3 (.str (ws.getD k "")):=Ql (by rw[xx,kj,kh h];rfl)
theorem j9o{p:List Int}{m:Nat}(hp:p.length=m)(hp3:∀t∈p,0<=t/\t<3):(jh p).toNat<3^m/\p=j6 3 m ((jh p).toNat:Int):=by
 obtain⟨b1,b2⟩:=Jd hp3;have pc:((3^m:Nat):Int)=(3:Int)^m:=by simp
 rw[hp,<-pc]at b2;refine⟨by omega,?_⟩;rw[iD b1,<-hp];exact(Wb hp3).symm
noncomputable def plD(ws:List ah)(s:Nat):D:=.str (ws.getD s "")
theorem j92{n m k:Nat}{ws:List ah}{a p:List Int}(hk:1<=k/\k<=6)(hw:ws.length=m)(hm:1<=m/\m<=6)(ha:a.length=2^m)(h01:∀x∈a,x=0\/x=1)(hp:p.length=m)(hp3:∀t∈p,0<=t/\t<3)(ho:opB a m p=a7) :
  ∃S∈rsL k (j9 p m),Rp k a m p=1+ju ((seL p S).map (Rp k a m))/\evP 1000 G T (n+8) "round_to_ask" [qD ws a,jd p,.int k]=.fresh (S.map (plD ws)):=by
 have nm:=Wn (n:=n) hk.1 hw hm ha h01 hp hp3;obtain⟨S,hS,e0,bs⟩:=K5 (n:=n+4) (k:=k) (p:=p) (ks:=PK p) (ns:=(PK p).map (Rp k a m)) (R:=Rp k a m) hk.1 nofun (by rw[hp];exact Zg h01 hp hp3 ho) (λS hS q hb=>by
  rw[hp]at hS
  rw[Xc]
  exact Wc (f:=λq=>D.int (Rp k a m q)) (Ew j1y (J8 hp hS) hb))
 rw[hp]at hS e0;have ok:=J8 hp hS;obtain⟨so,sk,sn⟩:=Zk hS;refine⟨S,hS,by rw[e0,Uz hp hp3 ho],?_⟩;have sp:evP 1000 G T (n+7) "settled_by" [qD ws a,jd p]=.val (stD a p m):=Wu (n:=n+2) hm ha hp hp3;rw[jl (F:=Zq) (by rfl) rfl];simp only[Zq,Q5,enter];ext;erw[Ep (n:=n+6) hk,sp,show(stD a p m).isNon=a7 from ho,nm,bs];rw[at1];simp only[spD,jd];ext;rw[qi (l:=S.map (plD ws)) (by rfl) (by rw[xf,j1q];omega) ?_ (.inl rfl)]
 .ext
 .rw[spI,Xc];refine jy λs hs=>z9 (by ext) ?_;have g:=gtw (ws:=ws) (k:=s) (by have:=(ok s hs).1;omega);simp only[qD];ext;rw[at0];simp only[cu];ext;rw[g];rfl
noncomputable def seB(b:Nat->Int)(S:List Nat)(p:List Int):List Int:=S.foldl (λq s=>q.set s (b s)) p
theorem j73{b:Nat->Int}{S:List Nat}{p:List Int}{s:Nat}:seB b (S++[s]) p=(seB b S p).set s (b s):=by unfold seB;rw[iS];rfl
theorem M6{b:Nat->Int}:∀{S:List Nat}{p:List Int},(seB b S p).length=p.length
 |[],p=>rfl
 |s::S,p=>by have:=M6 (b:=b) (S:=S) (p:=p.set s (b s));rw[Xy]at this;exact this
theorem Dh{b:Nat->Int}:∀{S:List Nat}{p:List Int}{j:Nat},(∀s∈S,s<p.length)->(seB b S p).getD j 0=if j∈S then b j else p.getD j 0
 |[],p,j,_=>by rw[if_neg (by simp)];rfl
 |s::S,p,j,h=>by
  have hs:=h s xn;have:=Dh (b:=b) (S:=S) (p:=p.set s (b s)) (j:=j) (λt ht=>by rw[Xy];exact h t (km _ ht));rw[V6 hs]at this;refine Eq.trans this ?_;by_cases z:j∈S
  .rw[if_pos z,if_pos (km _ z)]
  .rw[if_neg z];by_cases e:s=j
   .rw[if_pos e,if_pos (by rw[e];exact xn),e]
   .rw[if_neg e,if_neg λq=>(xr.mp q).elim (λq=>e q.symm) z]
theorem j1s{b:Nat->Int}{S:List Nat}{p:List Int}(hb:∀s,b s=0\/b s=1)(h:∀s∈S,s<p.length):Beh p S (seB b S p) :=
 ⟨M6,λj _=>by rw[Dh h];exact⟨λz=>by rw[if_pos z];exact hb j,λz=>by rw[if_neg z]⟩⟩
noncomputable def btR(m:Nat)(r:Int)(s:Nat):Int:=r/2^(m-1-s)%2
theorem j0v(m:Nat)(r:Int)(s:Nat):btR m r s=0\/btR m r s=1:=by unfold btR;omega
theorem shut{a p q:List Int}{m:Nat}(h01:∀x∈a,x=0\/x=1)(hp:p.length=m)(h3:∀t∈p,0<=t/\t<3)(b:Beh p (j9 p m) q):opB a m q=a4:=by
 cases ho:opB a m q with
 |false=>rfl
 |true =>
  obtain⟨j,hj⟩:=Td _ (Zg h01 (by rw[b.1,hp]) (Y8 b h3) ho);obtain⟨j1,j2⟩:=V2 hj;by_cases z:j∈j9 p m
  .have:=(b.2 j nofun).1 z;omega
  .have e:=(b.2 j nofun).2 z;exact absurd (Xl.mpr ⟨Xd.mpr j1,decide_eq_true (by rw[<-e];exact j2)⟩) z
theorem Bm{a p:List Int}{m:Nat}(h01:∀x∈a,x=0\/x=1)(hp:p.length=m)(h3:∀t∈p,0<=t/\t<3):∀k:Nat,1<=k->Rp k a m p<=m
 |0,h=>by omega
 |1,_=>by have:=Rz (a:=a) 0 (Ph _) (j9 p m) p hp h3 (List.filter_sublist.nodup dq) (λs hs=>hs) (λq hb=>by rw[vq (shut h01 hp h3 hb)];exact Ph _);have:=Yi p m;omega
 |k+2,_=>bR (j2p (k:=k+1) nofun h01 p hp h3) (Bm h01 hp h3 (k+1) nofun)
theorem Ij:∀m:Nat,jh (ae m 2)=((3^m:Nat):Int)-1
 |0=>rfl
 |m+1=>by
  rw[Xz];show 2*3^(ae m (2:Int)).length+jh (ae m 2)=_;have pc:((3^m:Nat):Int)=(3:Int)^m:=by simp
  rw[Pg,Ij m,<-pc,T9];omega
theorem j34{f:D->En->So}{ds:List D}{ρ:En}{g g2:En->So}{Q:En->Prop}(W:Nat->En->Prop)(h0:W 0 ρ)(hs:∀i d ρ,ds[i]?=a3 d->W i ρ->∃ρ',f d ρ=.next ρ'/\W (i+1) ρ')
  (hk:∀ρ',W ds.length ρ'->∃ρ2,W0 (g ρ') g2=.next ρ2/\Q ρ2):∃ρ2,W0 (W0 (Ja f ds ρ) g) g2=.next ρ2/\Q ρ2:=by
 obtain⟨ρ',e,w⟩:=Qd (f:=f) W (k:=0) (ds:=ds) (ρ:=ρ) h0 λi d ρ hi w=>by rw[Pa]at w ⊢;exact hs i d ρ hi w
 rw[e];rw[Pa]at w;exact hk ρ' w
theorem j18{n m k:Nat}{ws:List ah}{a:List Int}{r:Int}(nd:ws.Nodup)(hk:1<=k/\k<=6)(hw:ws.length=m)(hm:1<=m/\m<=6)(ha:a.length=2^m)(h01:∀x∈a,x=0\/x=1) :
  evP 1000 G T (n+9) "_law_played" [qD ws a,.lst ((ar (3^m)).map (onD a m)),.int k,.int r,.int (Rp k a m (ae m 2))]=.val (.bl a7):=by
 have p3:=Es hm.2;have th:=Ve (n:=n+7) (k:=m) hm.2;have L0:=Ia (k:=k) (a:=a) (m:=m) (p:=ae m 2);have L1:=Bm h01 (Pg ..) (Zi m) k hk.1;have v0:=Ij m;generalize hL:Rp k a m (ae m 2)=L at *;rw[jl (F:=Rh) (by rfl) rfl];simp only[Rh,Uc,enter,qD];ext;rw[at0];ext;rw[hw,th];ext;refine Qa (λt ρ=>∃p s7 s8 s9 s10,(p.length=m/\∀t∈p,0<=t/\t<3)/\(Rp k a m p<=L-t\/opB a m p=a4)/\ρ=[.val (.tup [.tup (ws.map D.str),.tup (a.map D.int)]),.val (.lst ((ar (3^m)).map (onD a m))),.val (.int k),.val (.int r),.val (.int L),.val (.int m),.val (.int (jh p)),s7,s8,s9,s10])
  ⟨ae m 2,.un,.un,.un,.un,⟨Pg ..,Zi m⟩,.inl nofun,by rw[v0]⟩ ?_ ?_
 .rintro t d ρ ht ⟨p,s7,s8,s9,s10,⟨hp,hp3⟩,hv,rfl⟩;obtain⟨j1,e⟩:=j9o hp hp3;obtain⟨b1,_⟩:=Jd hp3;obtain⟨q,hq'⟩:∃q:Nat,q=(jh p).toNat:=⟨_,rfl⟩
  have ej:jh p=(q:Int):=by omega
  rw[<-hq']at j1 e;have g:=Nt (a:=a) (m:=m) j1;have io:=O9 (n:=n+7) (m:=m) (i:=q) h01;rw[<-e]at io;simp only[zm];ext;rw[ej,g];ext;rw[io];cases z:opB a m p with
  |false =>ext;exact⟨_,rfl,p,_,_,_,_,⟨hp,hp3⟩,.inr z,by rw[ej]⟩
  |true =>
   have dg:=Uk (n:=n+7) (m:=m) (z:=(q:Int)) hm.2;rw[<-e]at dg;obtain⟨S,hS,eR,as⟩:=j92 (n:=n) hk hw hm ha h01 hp hp3 z;simp only[qD,jd]at as;ext;erw[dg,as];have ok:=J8 hp hS;obtain⟨so,sk,sn⟩:=Zk hS;have sd:S.Nodup:=so.nodup (List.filter_sublist.nodup dq);refine j34 (λj ρ=>∃s8 s9 s10,ρ=[.val (.tup [.tup (ws.map D.str),.tup (a.map D.int)]),.val (.lst ((ar (3^m)).map (onD a m))),.val (.int k),.val (.int r),.val (.int L),.val (.int m),.val (.int (jh (seB (btR m r) (S.take j) p))),.val d,s8,s9,s10])
    ⟨s8,s9,s10,by rw[<-ej];rfl⟩ ?_ ?_
   .rintro j d' ρ hj ⟨s8,s9,s10,rfl⟩;have hj':j<S.length:=by have:=(X7.mp hj).1;rw[xf]at this;exact this
    rw[xx,kh hj']at hj;cases hj;have tk:S.take (j+1)=S.take j++[S[j]]:=by rw[su,kh hj'];rfl
    obtain⟨s1,s2⟩:=ok _ (Xr hj');have ns:S[j]∉S.take j:=λz=>by obtain⟨x,hx,ex⟩:=Pk.mp z;rw[Xp]at hx;rw[iR]at ex;have:=(fh sd).mp ex;omega
    have tl:∀s∈S.take j,s<p.length:=λs hs=>(ok s (i6 hs)).1;rw[tk,j73];generalize S[j]=s at *;have gB:=Dh (b:=btR m r) (j:=s) tl;rw[if_neg ns,s2]at gB;have bh:=j1s (b:=btR m r) (S:=S.take j) (p:=p) (j0v m r) tl;have u1:(seB (btR m r) (S.take j) p).length=m:=by rw[M6,hp]
    have u3:=Y8 bh hp3;generalize seB (btR m r) (S.take j) p=u at *;have gs:ws.getD s "" = ws[s]'nofun:=by rw[kj,kh nofun];rfl
    have ix:ws.idxOf (ws.getD s "")=s:=by rw[gs];exact jex nd nofun
    have tx:=jis (ws:=ws) (p:=ws.getD s "") (by rw[gs];exact Xr _);rw[ix]at tx;have th2:=Ve (n:=n+7) (k:=m-1-s) nofun
    have dg:=j8k u1 u3 (by omega:s<m);have pc3:((3^(m-1-s):Nat):Int)=(3:Int)^(m-1-s):=by simp
    have vs:=M4 (p:=u) (s:=s) (c:=btR m r s) nofun
    rw[u1,gB,<-pc3]at vs;rw[gB,<-pc3]at dg;have p3':=Es (m:=m-1-s) nofun
    have et:((m:Int)-(s:Int)-1).toNat=m-1-s:=by omega
    have pk:=p2n (k:=m-1-s) nofun
    have be:r/(1*2^((m:Int)-(s:Int)-1).toNat)%2=btR m r s:=by rw[et,df];rfl
    have bb:=j0v m r s;simp only[zm,plD];ext;erw[at0,tx];rw[show((m:Int)-1-(s:Int))=((m-1-s:Nat):Int)by omega,th2];have pk':(0:Int)<1*2^((m:Int)-(s:Int)-1).toNat/\(1:Int)*2^((m:Int)-(s:Int)-1).toNat<18446744073709551616:=by rw[et,df];exact pk
    ext;rw[be];ext;refine⟨_,rfl,.val (.str (ws.getD s "")),.val (.int (s:Int)),.val (.int ((3^(m-1-s):Nat):Int)),?_⟩;rw[vs,show jh u+(btR m r s-2)*((3^(m-1-s):Nat):Int)=jh u-(2-btR m r s)*((3^(m-1-s):Nat):Int)by rcases bb with b|b<;>rw[b]<;>omega]
   .rintro ρ ⟨s8,s9,s10,rfl⟩;rw[xf,bM];have bh:=j1s (b:=btR m r) (S:=S) (p:=p) (j0v m r) (λs hs=>(ok s hs).1);have le:=Y6 (f:=Rp k a m) ((V3 λs hs=>(ok s hs).1).mpr bh);ext;refine⟨_,rfl,seB (btR m r) S p,.val d,s8,s9,s10,⟨by rw[M6,hp],Y8 bh hp3⟩,?_,rfl⟩;rcases hv with h|h
    .exact .inl nofun
    .rw[z]at h;cases h
 .rintro ρ ⟨p,s7,s8,s9,s10,⟨hp,hp3⟩,hv,rfl⟩;obtain⟨j1,e⟩:=j9o hp hp3;obtain⟨b1,_⟩:=Jd hp3;obtain⟨q,hq'⟩:∃q:Nat,q=(jh p).toNat:=⟨_,rfl⟩
  have ej:jh p=(q:Int):=by omega
  rw[<-hq']at j1 e;have g:=Nt (a:=a) (m:=m) j1;have io:=O9 (n:=n+7) (m:=m) (i:=q) h01;rw[<-e]at io;ext;rw[ej,g];ext;rw[io];have z:opB a m p=a4:=by
   rcases hv with h|h
   .cases z:opB a m p with
    |false=>rfl
    |true =>
     obtain⟨S,hS,eR⟩:=j3y hk.1 h01 hp hp3 z;obtain⟨x,hx⟩:=Td _ (Ur (p:=p) (S:=S));have:=bR Ia (Y6 (f:=Rp k a m) hx);have ul:(upto 0 L.toNat).length=L.toNat:=by simp[upto]
     rw[ul]at h;exfalso;omega
   .exact h
  rw[z];ext
theorem last_spec{m k:Nat}{a:List Int}:atI (((PK (ae m 2)).map (Rp k a m)).map D.int) (-1)=a3 (.int (Rp k a m (ae m 2))):=atL (by rw[iQ,j1z];rfl)
noncomputable def depth:Nat:=12
theorem lawTrue:∀ns:List Int,ns.length<=63->evP 1000 G T (depth+1) "law" [.lst (ns.map D.int)]=.val (.bl a7):=by
 intro ns hns;rw[jl (F:=j3l) (by rfl) rfl];simp only[j3l,j3v,enter,depth];have hm:=Do (ns:=ns) (a:=0) (most:=4) (by decide);obtain⟨ws,⟨nd,wl⟩,qs⟩:=j17 (n:=10) (ns:=ns) (a:=0) (most:=4) (by decide) (by decide);have a01:=jcb (n:=10) (ns:=ns) (a:=0) (most:=4) (by decide);obtain⟨m,em⟩:∃m:Nat,m=Zm ns 0 4:=⟨_,rfl⟩
 have al:(Yv 10 ns 0 4).length=2^m:=by simp[Yv,<-em]
 rw[<-em]at hm wl;generalize Yv 10 ns 0 4=a at *;have hm6:1<=m/\m<=6:=by omega
 have c3:evP 1000 G T 12 "_law_cell" [.lst (ns.map D.int),.int 3]=.val (.int (qg ns 3)):=Vo Nr (k:=3) nofun
 have c40:evP 1000 G T 12 "_law_cell" [.lst (ns.map D.int),.int 40]=.val (.int (qg ns 40)):=Vo Nr (k:=40) nofun
 generalize qg ns 3=c at *;have rt:=λ(k:Nat) (hk:1<=k/\k<=6)=>j14 (n:=4) (k:=k) hk wl hm6 al a01;have wt:=j2s (n:=3) wl hm6 al a01;have pl:=λ(k:Nat) (hk:1<=k/\k<=6) (r:Int)=>j18 (n:=3) (k:=k) (r:=r) nd hk wl hm6 al a01;have on:=j51 (n:=9) wl hm6 al a01;have la:=λk:Nat=>last_spec (m:=m) (k:=k) (a:=a);have R2:=Pg (n:=m) (a:=(2:Int));have nn:=λk:Nat=>Ia (k:=k) (a:=a) (m:=m) (p:=ae m 2);have sm:=λ(k:Nat) (hk:1<=k)=>Bm a01 R2 (Zi m) k hk;have mo:=λ(k:Nat) (hk:1<=k)=>j2p (k:=k) hk a01 _ R2 (Zi m);have mu:=λ(k:Nat) (hk:1<=k)=>jg2 (k:=k) hk a01 _ R2 (Zi m);have six:=jg1 hm6.2 a01 R2 (Zi m);have qs:evP 1000 G T 12 "_law_question" [.lst (ns.map D.int),.int 0,.int 4]=_:=qs;simp only[qD]at rt wt pl on;ext;erw[qs,at0];rw[wl];rw[qi (l:=((ar 6).map λ(j:Nat)=>Rp (j+1) a m (ae m 2)).map D.int) (by rfl) (by simp[upto]) ?_ (.inl rfl)];rotate_left
 .rw[Xc];refine jy (h:=λ(j:Nat)=>D.int (1+(j:Int))) λj hj=>z9 (by ext) ?_;have hj:=Xd.mp hj;ext;rw[show(1+(j:Int))=((j+1:Nat):Int)by omega,rt (j+1) nofun];ext;rw[la];rfl
 obtain⟨X,hX⟩:∃X,X=((ar 6).map λ(j:Nat)=>Rp (j+1) a m (ae m 2)).map D.int:=⟨_,rfl⟩
 have gX:∀j:Nat,j<6->atI X (j:Int)=a3 (.int (Rp (j+1) a m (ae m 2))):=λj hj=>by rw[hX];exact Ql (by rw[xx,xx,Pb hj];rfl)
 rw[<-hX];clear hX;have g0:atI X 0=a3 (.int (Rp 1 a m (ae m 2))):=gX 0 (by decide);have g5:atI X 5=a3 (.int (Rp 6 a m (ae m 2))):=gX 5 (by decide);ext;rw[g0,wt];ext;erw[la,g5];refine Qa (λt ρ=>∃s4,ρ=[.val (.lst (ns.map D.int)),.val (.tup [.tup (ws.map D.str),.tup (a.map D.int)]),.val (.int m),.own X,s4,.un,.un,.un]) ⟨_,rfl⟩ ?_ ?_
 .rintro t d ρ ht ⟨s4,rfl⟩;have ht':t<5:=by have:=(X7.mp ht).1;simpa [upto]using this
  have ed:d=.int (1+(t:Int)):=by rw[upto,xx,Pb (by simpa using ht')]at ht;exact(av ht).symm
  subst ed;have g1:=gX (t+1) nofun
  have g2:=gX t nofun
  have m1:=mo (t+1) nofun
  have m2:=mu (t+2) nofun
  rw[show((t+1:Nat):Int)=1+(t:Int)by omega]at g1;simp only[zm];ext;rw[g1];ext;rw[show(1+(t:Int)-1)=(t:Int)by omega,g2];ext;rw[g1];ext;rw[g0];have mm:Rp 1 a m (ae m 2)<=(1+(t:Int)+1)*Rp (t+1+1) a m (ae m 2):=by rw[show 1+(t:Int)+1=((t+2:Nat):Int)by omega];exact m2
  ext;exact⟨_,rfl,_,rfl⟩
 .rintro ρ ⟨s4,rfl⟩;have cl:(cutD (ns.map D.int) (a3 41) (a3 43)).length<=63:=by unfold cutD;rw[Xp,T4,xf];omega
  ext;erw[on,c3,c40];obtain⟨sl,cutE⟩:∃sl:List Int,D.int (qg ns 40)::cutD (ns.map D.int) (a3 41) (a3 43)=sl.map D.int:=by unfold cutD;rw[<-k5,<-List.map_take];exact⟨_::_,rfl⟩
  rw[cutE];have p2:=j7f (m:=m) nofun
  refine Qa (λt ρ=>∃s7,ρ=[.val (.lst (ns.map D.int)),.val (.tup [.tup (ws.map D.str),.tup (a.map D.int)]),.val (.int m),.own X,s4,.own ((ar (3^m)).map (onD a m)),.val (.int (1+c%4)),s7]) ⟨_,rfl⟩ ?_ ?_
  .rintro t d ρ ht ⟨s7,rfl⟩;rw[xx]at ht;obtain⟨z,_,rfl⟩:=Xv.mp ht;have h1:=Te c (show(4:Int)≠0 by decide);have h2:=cb c (show(0:Int)<4 by decide);obtain⟨k,ek⟩:∃k:Nat,(k:Int)=c%4:=⟨(c%4).toNat,by omega⟩
   have gk:=gX k nofun
   have pk:=pl (k+1) nofun (z%(1*2^((m:Int)).toNat))
   rw[<-ek];rw[show((k+1:Nat):Int)=1+(k:Int)by omega]at pk;simp only[zm];have pm:(0:Int)<1*2^((m:Int)).toNat/\(1:Int)*2^((m:Int)).toNat<18446744073709551616:=by rw[Xh,df];omega
   ext;rw[show(1+(k:Int)-1)=(k:Int)by omega,gk];ext;rw[j2m rfl];simp only[X4,cM,Rk.d];rw[pk];ext;exact⟨_,rfl,_,rfl⟩
  .rintro ρ ⟨s7,rfl⟩;ext
end K42
end
open PySem PySem.W PyProof.Rows
local macro_rules | `(tactic| walk_at "lf") => `(tactic| (refine' L2.lf_mk ?a ?l ?c ?k; (case a => k_is); (case l => k_is); (case c => k_is); (case k => k_is)))
local macro_rules | `(tactic| walk_at "ld") => `(tactic| (refine' L2.lfd_mk ?a ?l ?c ?k ?t; (case a => k_is); (case l => k_is); (case c => k_is); (case k => k_is); (case t => k_is)))
set_option Elab.async false
namespace PySem.W.Fast
def tw8039316836078738083:=0
def tw12595181848016355110:=0
def tw1585218168744624931:=0
def tw16109251846463036300:=0
def tw1660295147875905671:=0
def tw4070219538765853922:=0
def tw14881046879388006411:=0
def tw415204953199496457:=0
def tw735710619080412436:=0
def tw12893162542444279217:=0
def tw6821347532004823305:=0
def tw12212638073582036760:=0
def tw14128436419559895550:=0
def tw3434895085700149169:=0
def tw4767823064722995097:=0
def tw15740418448447658971:=0
def tw16898018507857517707:=0
def tw14325655992195698598:=0
def tw124414316619133766:=0
def tw12361347483992339448:=0
def tw1456245420580563641:=0
def tw8843885994026898295:=0
def tw4144772680675328046:=0
def tw15780500212955992581:=0
def tw11636535232338356799:=0
def tw15718567347838649145:=0
def tw855025077835369759:=0
def tw9783684623559428528:=0
def tw18171546542174499223:=0
def tw3374591131771229388:=0
def tw9023742661219021272:=0
def tw18119893266149007513:=0
def tw1921097404486279446:=0
def tw15487377355697051488:=0
def tw6978676748534745763:=0
def tw1863501613091858932:=0
def tw16523617880323396109:=0
def tw347380361653340613:=0
def tw5537118821233882320:=0
def tw2269602551687816493:=0
def tw5297254166458096525:=0
def tw6507376137289716569:=0
def tw5786127046112078353:=0
def tw16738818547529804163:=0
def tw12956489243426955979:=0
def tw8893244155552565456:=0
def tw2795563569714496270:=0
def tw2071080095922485606:=0
def tw16350658678051149483:=0
def tw11240795317740529159:=0
def tw11825175008981727655:=0
def tw9793048975052668825:=0
def tw17392931977997722946:=0
def tw7083527679188306433:=0
def tw8683405848502160503:=0
def tw11770611916762131267:=0
def tw13874643987142457676:=0
def tw6877582948957979282:=0
def tw9428653290776294546:=0
def tw11633955034306205249:=0
def tw1346130991208199148:=0
def tw15739842868097171456:=0
def tw15812227551219011147:=0
def tw8765241228594747331:=0
def tw16181576818478276326:=0
def tw13806751793898193503:=0
def tw12651370229300184752:=0
def tw9995348375321195901:=0
def tw8568026860306228613:=0
def tw16943573537535058961:=0
def tw15679020952521068565:=0
def tw9196039609504018681:=0
def tw18392357974463562758:=0
def tw13704745624779196733:=0
def tw13193150194235963887:=0
def tw993095510241980881:=0
def tw8087867434099141323:=0
def tw13880288581818840833:=0
def tw8130903470522181097:=0
def tw5706762806964160999:=0
def tw13198778236226691718:=0
def tw6645025951034407305:=0
def tw3970287815019173448:=0
def tw6308950937078761397:=0
def tw18306652956022337193:=0
def tw16153940180582127709:=0
def tw1761660029107380222:=0
def tw5406499433975658342:=0
def tw6047765943907550226:=0
def tw15193984646027342736:=0
def tw1894750719066852108:=0
def tw1207040185154444826:=0
def tw8883237362933766359:=0
end PySem.W.Fast
set_option maxRecDepth 100000 in
set_option maxHeartbeats 0 in
theorem PySem.Challenge.cw_leastasks_k42_whole_rounds_against_asks_holds : PySem.Challenge.rw_leastasks_k42_whole_rounds_against_asks.Holds := by
  w_on; o_law; k_head; (case hw => w_witness2)
  k_fill
  refine L2.walkL (l := PySem.Challenge.rw_leastasks_k42_whole_rounds_against_asks) (k := L2.lv (K42.depth + 1)) (x := "_law_script") (by decide) rfl rfl (fun w h Y => ⟨PySem.W.km_in_of Y, PySem.W.km_tabs_of Y⟩) ?tz ?F
  case tz => intro w; kernel_rfl
  case F =>
    intro w mg fa h KX Gn hmg tz
    refine' K42.head KX Gn hmg ?h0 ?h1 ?h2 ?h3 ?h4 ?h5 ?h6 ?h7 ?h8 ?h9 ?h10 ?h11 ?h12 ?h13 ?h14 ?h15 ?h16 ?h17 ?h18 ?h19 ?h20 ?h21 ?h22 ?h23 ?h24 ?h25 ?h26 ?h27 ?h28 ?h29 ?h30 ?h31 ?h32 ?h33 ?h34 ?h35 ?h36 ?bz tz ?ga0l ?gn0 ?gn1 ?ga4l ?gn2 ?gn3 ?gn4 ?gn5 ?gn6 ?exa K42.lawTrue
    (case h0 => walk_at "lf")
    (case h1 => walk_at "lf")
    (case h2 => walk_at "lf")
    (case h3 => walk_at "lf")
    (case h4 => walk_at "lf")
    (case h5 => walk_at "lf")
    (case h6 => walk_at "lf")
    (case h7 => walk_at "lf")
    (case h8 => walk_at "lf")
    (case h9 => walk_at "lf")
    (case h10 => walk_at "lf")
    (case h11 => walk_at "lf")
    (case h12 => walk_at "ld")
    (case h13 => walk_at "lf")
    (case h14 => walk_at "lf")
    (case h15 => walk_at "lf")
    (case h16 => walk_at "lf")
    (case h17 => walk_at "lf")
    (case h18 => walk_at "lf")
    (case h19 => walk_at "lf")
    (case h20 => walk_at "lf")
    (case h21 => walk_at "lf")
    (case h22 => walk_at "lf")
    (case h23 => walk_at "lf")
    (case h24 => walk_at "lf")
    (case h25 => walk_at "lf")
    (case h26 => walk_at "lf")
    (case h27 => walk_at "lf")
    (case h28 => walk_at "lf")
    (case h29 => walk_at "lf")
    (case h30 => walk_at "lf")
    (case h31 => walk_at "lf")
    (case h32 => walk_at "lf")
    (case h33 => walk_at "lf")
    (case h34 => walk_at "lf")
    (case h35 => walk_at "lf")
    (case h36 => walk_at "lf")
    (case gn0 => k_is)
    (case gn1 => k_is)
    (case gn2 => k_is)
    (case gn3 => k_is)
    (case gn4 => k_is)
    (case gn5 => k_is)
    (case gn6 => k_is)
    (case ga4l => k_is)
    (case ga0l => k_is)
    (case bz => kernel_rfl)
    (case exa => kernel_rfl)
#print axioms PySem.Challenge.cw_leastasks_k42_whole_rounds_against_asks_holds