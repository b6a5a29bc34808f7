import PyProof.Rows.All
import Wide.All
import OpenK.AllK
import Wide.FinOn
import Lean
import PyProof.EqAt
import PyProof.EqKinds
import PyProof.TupleCall
import PyProof.Rows.SetFrom
import KE.KDictList
import KE.KMinKey
import PyProof.ListRange
import KE.KRevIter
import PyProof.TupleOfGen
import PyProof.StrBlockL
import PyProof.Rows.StrSplitCount
import PySem.Challenge.RW_leastasks_k14_whole_shown_and_read
set_option Elab.async false
set_option linter.all false
set_option maxRecDepth 100000
set_option maxHeartbeats 4000000
set_option genSizeOf false
set_option genInjectivity false
open Option renaming some→aa,none→ah,getD_some→dQ,isSome_some→eZ,bind→fJ,join_some→iG,getD_none→iH
open Bool renaming false→ae,true→af,or_eq_true→cM,eq_iff_iff→d9,not_eq_true'→dN,and_false→gq,or_false→gJ,and_self→gN,true_and→k8,false_or→k9,and_true→ka
open PySem renaming wpAny_bind→ai,starEach→aj,Value→ak,Addr→ao,Str→aq,Shared→ar,Expr→au,sizeLine→av,wpAny_pure→aw,mainGlobals→ax,wpAny→ay,Program→az,model→aC,eval→aD,World→aF,Heap→aH,Around→aI,swapsWith→aM,FuncData→aN,behindInMarks→aP,backTo→aQ,Pos→aR,Stmt→aS,wpAny_field→aT,foldedSetIterable→aV,attributeBase→aW,wpAny_Call_Name_kw→aX,cellsFrom→aY,Keyword→b7,keywordEach→b8,wpAny_callSpecial?_slot→be,wpAny_seqItems→bg,bootBuiltins→bh,binaryOp→bj,compareOp→bo,IsPair→bx,Scope→bC,wpAny_setField_rec→bE,call_meets→bF,cLine→bG,NameKind→bH,wpAny_truthy_bool→bM,wpAny_newObj_type→bN,codeAny_mono→bO,backToKw→bP,wpAny_mono→bS,wpAny_holding→bU,assignEach→bV,Builtin→bX,wpAny_call_entry→bY,reprText→bZ,wpAny_passesOwn→cj,sizeLine_eq→cn,boot_len→cq,JoinOk→cu,wpAny_pyIter_list→cy,codeAny→cK,bindArgs→cY,typeIs_str→df,sliceBounds→dj,ZipApart→dk,codeAny_builtin→dw,Obj→dy,Env→dz,strKind→dG,Tok→dH,pyNext→dS,builtinsNs→dU,holding→eC,IsZip→eD,draw→eN,isTrue→eU,assign→eV,wpAny_execs_nil→eX,letOwnedTupleGo→eY,wpAny_updateSeq_pair→fg,recursionLimit→fh,rawInt→fj,intItems→fk,Result→fm,IsPart→fq,GenState→ft,PassesOwn→fD,wpAny_onRaise→fO,wpAny_attempt→fP,field→fQ,wpAny_pyIter_tuple→fW,wpAny_call→fX,typeIs_int→fY,sysModules→fZ,standAt→gc,spliced→gd,concat_meets→gf,callerA→gh,call→gj,BindsTo→gk,wpAny_pyIter_zip→gv,scanBound→gw,noFill_tuple_add→gx,numAt→gG,CmpOp→gH,Within→gO,wpAny_rule→hZ,newFunctionEnv→i0,wpAny_binaryOp_repeat_ref→i7,wpAny_standAt→ie,wpAny_comprehension_free→ig,swapsWithSole→ij,swappedStores→ik,seq_tuple_add→ip,plainId_quiet→iq,pushCells→iz,getMethod→iA,bindL→iB,bindC→iC,Arguments→iD,wpAny_typeOf→iO,seqSlot_of→iP,pyIter→iQ,getItem→iR,callType_new→iS,Fin→iT,wpAny_isTrue_Compare1→iY,builtinLookup_eq_fast→iZ,wpAny_letGo→jE,lookup_relabel_local→jF,intItems_at→jG,Operator→jH,Model→jI,wpAny_Name→jX,typeLookup→jY,truthy→jZ,getattributeRaised→k6,wpAny_pyIter_enum→kq,wpAny_assign_Name→kr,call_sum_walkAnyS→ku,argBest→kx,again→ky,Meets→kz,wpAny_isInstance→kN,wpAny_execs_cons→kO,seqIndex?→kP,DictEntry→kQ,typeLookup_type→lE,pushCells_keeps→lF,Sem→lG,wpAny_setField→lR,wpAny_newTuple→lS,wpAny_Compare1→lT,isSubtype_stop→lU,fitsIndex_both→lV,firstArgMember→lW,Params→lX,intBits_le_64→m9,evalPart_none→ma,call_list_seq→md
open List renaming replicate→aA,range→aB,not_mem_nil→cz,map_nil→cA,filterMap_cons→cH,of_mem_zip→cL,set_cons_zero→cN,range_succ_eq_map→cP,drop_zero→cQ,take_length→cU,foldl→cV,mem_append_left→cZ,lookup→d4,forIn_cons→d7,find?_cons→d8,getElem_of_mem→dh,drop_succ_cons→di,set_cons_succ→dq,getElem?_append_right→dr,filter_append→dt,pairwise_map→dJ,getElem?_set→dM,range_succ→eJ,singleton_append→eK,length_replicate→eM,mem_of_mem_take→eP,getElem?_set_ne→eQ,forIn_nil→eR,getD_cons_succ→f6,zip_cons_cons→fc,length_zipIdx→fe,any_eq_false→fE,map_id→g4,eq_nil_of_length_eq_zero→g6,Nodup→gp,getElem?_zip_eq_some→gz,all_cons→gI,getElem?_cons_zero→gR,filter_cons_of_pos→gS,filter_cons_of_neg→gT,eraseIdx_cons_succ→gU,getElem?_set_self→gY,all_map→gZ,length_singleton→i5,mem_of_mem_drop→i8,length→i9,getElem?_mapIdx→ia,mem_map_of_mem→ir,map_replicate→iJ,forIn_toArray→iK,foldl_toArray→iL,reverse_cons→iV,nodup_append→iW,zipIdx_cons→j3,nodup_range→ja,getElem_zip→jv,getElem_inj→jA,filter_cons→jB,any_toArray→jC,zipIdx_nil→jL,sum_append→jM,mem_zipIdx→jN,nodup_nil→jS,sum→mh
open Option.some renaming inj→aE
open PySem.Builtin.SmallTypes renaming nextOf→aG,ownedTupleIsFree→aL,ownedTupleHandOut→dn
open PySem.Value renaming ref→aJ,none→b0,str→b9,bool→bp,int→bu,type→cI,isStrOf→jO,float→kg,bytes→ki
open PySem.Txt renaming split→aK,join→br,slice→cb,mul→iM
open PySem.Builtin.Str renaming strSliceIndices→aO,tooLong→ba,occurrences→bD,strKind→cS,glued→gD,partsBetween→lQ
open False renaming elim→aU
open Or renaming inl→aZ,inr→cg
open PySem.W renaming nsIn→bc,OpenLaw→dO,WalkO→ic,Frag→lN
open PySem.NameKind renaming free→bq,cell→bW
open PyProof.Rows renaming envOfC→bB,AllBare→eE,IntsAre→gX,cnt_cons→i3,IsTup→iE,Call_→iF,subscriptTail_builtinR→iU,FormattedValue_plain→jJ,slot_tuple_getitem→k7,formatField_str→lH,boot_isinstance→lI,tail_any→lY,slicePart_none→lZ,boot_zip→m8,subscriptTail→mf
open PySem.Str renaming empty→bJ,ofString→cD,cps→iX,join→jT,length→lO
open PySem.F renaming slot_list_append→bK,type_list_append→cE,slot_tuple_iterator_next→cF,args_tuple_add_2→du,slot_str_split→dE,entry_tuple_add→dF,slot_tuple_add→dR,args_zip_next_1→dX,entry_zip_next→eF,slot_int_rmul→eO,args_str_split_2→fG,excBase_ValueError→fU,entry_str_split→fV,plainAttrs_str→gr,args_tuple_iterator_next_1→gu,entry_tuple_iterator_next→gC,slot_list_extend→hR,slot_str_join→iu,slot_list_pop→iy,args_object_init_3→iN,args_tuple_mul_2→jD,entry_tuple_mul→jP,args_int_rmul_2→jQ,typeCall_zip_2→jU,slot_tuple_mul→jV,entry_int_rmul→jW,newCall_zip_2→kl,fills_int_mul→kn,entry_zip_new→ko,called_zip→lP
open Sum renaming inr→bQ,inl→fF
open PySem.PassesOwn renaming never→bR,leaving→eS
open PySem.Builtin.Slice renaming slicePlaces→c7,sliceAdjust→cX,sliceApplied→f9,slicePartIndex→kL,sliceFields→kM
open PyProof.Rows.F renaming plain_set_update_loop→c8,entry_set_update_loop→dP
open PySem.Builtin.Tuple renaming tupleExact→c9,tupleTooMany→f7,tupleItemsOf→kK
open PySem.Builtin.List renaming listTooLong→cf
open PySem.Heap renaming SameBut→cw,ExtBut→fS
open PySem.AutoSeq1 renaming wpAny_loadPart'→cx
open Function renaming comp→cB
open ForInStep renaming yield→cC
open Array renaming toList_append→cG,length_toList→de,append_inj_right→eB,getElem?_toList→hJ,toList→ke
open PySem.Calls renaming spliced_cons→cJ,evalArgs_plain→cW,spliced_nil→dD,callWith_builtin→dZ,Name_function_global→gb
open Int renaming emod_lt_of_pos→cO,ediv_eq_zero_of_lt→cR,pow_pos→d6,one_mul→eW,toNat_of_nonneg→fb,natCast_nonneg→fB,pow_succ→fM,mul_comm→fN,fdiv_eq_ediv_of_nonneg→gB,add_comm→i6,add_mul_ediv_left→ib,mul_assoc→kA,ne_of_gt→kU,mul_one→lL,le_refl→lM
open PySem.Around renaming under_plainId→cT,under→gE,frames_deeper→gW
open Nat renaming zero_le→d5,lt_of_le_of_lt→dB,le_of_lt→eG,mul_comm→fK,pow_succ→i4,mul_le_mul_left→iI,le_add_right→jK,not_lt_zero→jR,succ_mul→kR,min_self→kS,le_of_eq→kT,mul_add→lJ,log2_lt→lK
open List.cons renaming inj→dm
open Classical renaming propDecidable→dC
open Ne renaming symm→dW
open PySem.SeqAt renaming EqAt→dY,RcAt→g9
open List.Pairwise renaming imp_of_mem→fw,nil→gm,imp→gn
open Sum.inr renaming inj→fC
open PySem.Builtin.Dict renaming updateFrom→fH,selfAndRest→lC,pairItems→lD
open Pure renaming pure→fR
open PySem.EqMixed renaming ne_str_int→kB,ne_str_bool→kC,ne_int_str→kD,ne_bool_str→kE,eq_str_int→kF,eq_str_bool→kH,eq_int_str→kI,eq_bool_str→kJ
open PySem.EqNone renaming ne_str_none→kW,ne_none_str→kX,ne_none_none→kY,ne_none_int→kZ,ne_none_bool→l0,ne_int_none→l9,ne_bool_none→lh,eq_str_none→lj,eq_none_str→lq,eq_none_none→lr,eq_none_int→ly,eq_none_bool→lz,eq_int_none→lA,eq_bool_none→lB
def kh:=@List.getElem?_eq_getElem
def kj:=@List.getD_eq_getElem?_getD
def km:=@PySem.Heap.get?_push_of_some
def xf:=@List.mem_cons_of_mem
def xg:=@List.length_map
def xj:=@List.mem_cons_self
def xm:=@Bool.false_ne_true
def xn:=@List.mem_cons
def xq:=@List.length_cons
def xr:=@PySem.Heap.lt_size
def xu:=@List.getElem?_map
def xx:=@List.map_cons
def X3:=@PySem.Heap.get?_push_size
def X4:=@List.mem_singleton
def X5:=@List.size_toArray
def X6:=@List.map_map
def X7:=@Nat.le_refl
def X8:=@Bool.and_eq_true
def Xa:=@List.mem_map
def Xb:=@Int.toNat_natCast
def Xc:=@List.mem_range
def Xd:=@Nat.ne_of_lt
def Xe:=@List.length_append
def Xf:=@List.getElem?_eq_some_iff
def Xg:=@Nat.le_trans
def Xh:=@List.length_range
def Xi:=@List.lookup_cons
def Xj:=@List.getElem?_eq_none
def Xk:=@PySem.Heap.size_push
def Xl:=@List.nodup_cons
def Xm:=@List.mem_append_right
def Xn:=@Nat.lt_of_lt_of_le
def Xo:=@List.append_nil
def Xp:=@List.all_eq_true
def Xq:=@List.sum_cons
def Xr:=@Option.isSome_iff_exists
def Xu:=@List.length_take
def Xv:=@List.mem_of_getElem?
def Xw:=@List.map_append
def Xx:=@Bool.false_eq_true
def Xy:=@List.getElem_mem
def Xz:=@Nat.lt_trans
def ph:=@Nat.le_succ
def pq:=@List.append_assoc
def P0:=@PySem.W.mg_of
def Pa:=@PySem.mem_of_lookup
def Pb:=@List.replicate_succ
def Pg:=@Nat.ne_of_gt
def Ph:=@Int.zero_add
def Pj:=@Nat.lt_irrefl
def Pk:=@Nat.zero_add
def Pn:=@List.mem_append
def Pq:=@List.getElem?_append_left
def Pr:=@Nat.pow_le_pow_right
def Pu:=@PySem.F.plainAttrs_list
def Py:=@List.ext_getElem?
def Pz:=@List.foldl_cons
def tu:=@List.nil_append
def T3:=@Option.map_some
def T4:=@List.getElem?_range
def T5:=@List.map_congr_left
def T6:=@List.length_drop
def T7:=@List.cons_append
def T8:=@List.mem_filterMap
def T9:=@List.mem_filter
def Tc:=@PySem.F.slot_zip_next
def Td:=@Int.emod_nonneg
def Te:=@List.flatten_cons
def Tf:=@List.flatMap_cons
def Tg:=@List.getElem?_cons_succ
def Th:=@Nat.lt_succ_self
def Ti:=@Option.map_eq_some_iff
def Tj:=@List.take_of_length_le
def Tp:=@List.length_nil
def Tq:=@List.length_filter_le
def Tt:=@List.length_zip
def Tw:=@List.any_cons
def su:=@Nat.lt_succ_of_lt
def S5:=@Nat.lt_of_succ_le
def S6:=@List.take_add_one
def k7s:=@And.intro
abbrev k7t:=lN
abbrev k7u:=ak→ar→Prop
abbrev k7v:=List (ao×dy)
abbrev k7w:=aq→Option ak
abbrev k7x:=("__debug__":aq)
abbrev k7y:=("__classdict__":aq)
local macro_rules | `(tactic| omega)=>`(tactic| first | with_reducible assumption | with_reducible exact Nat.le_of_lt (by assumption) | with_reducible exact Nat.le_refl _ | lia)
local macro_rules | `(nofun)=>`(by omega)
section
namespace L2
open PySem PySem.Spec PyProof.Rows
noncomputable abbrev Key:=Sum Int aq
noncomputable def Ef:Key->ak->Bool
 |.inl k,v=>Value.isInt k v
 |.inr x,v=>jO x v
noncomputable def jn1(w:aF):Key->Int
 |.inl k=>hashInt k
 |.inr x=>hashStr w x
theorem J2:∀{k:Key}{v:ak},Ef k v=af->(∃i t,k=fF i/\v=bu i t)\/(∃x t,k=bQ x/\v=b9 x t)
 |.inl i,v,h=>by obtain⟨t,e⟩:=Value.isInt_shape (k:=i) (v:=v) h;exact .inl ⟨i,t,rfl,e⟩
 |.inr x,v,h=>by obtain⟨t,e⟩:=Value.isStrOf_shape (x:=x) (v:=v) h;exact .inr ⟨x,t,rfl,e⟩
theorem j66(x:aq)(t:dH):Ef (.inr x) (.str x t)=af:=by simp[Ef,jO]
theorem jhh(a b:Int):decide ((fF a:Key)=fF b)=(a==b):=by
 by_cases e:a=b
 .subst e;simp
 .have h:¬(fF a:Key)=fF b:=λq=>e (Sum.inl.inj q);rw[decide_eq_false h];exact(beq_eq_false_iff_ne.mpr e).symm
theorem jhe(a b:aq):decide ((bQ a:Key)=bQ b)=decide (a=b):=by
 by_cases e:a=b
 .subst e;simp
 .have h:¬(bQ a:Key)=bQ b:=λq=>e (fC q);rw[decide_eq_false h,decide_eq_false e]
theorem jhg(a:Int)(b:aq):decide ((fF a:Key)=bQ b)=ae:=decide_eq_false (λq=>nomatch q)
theorem jhf(a:aq)(b:Int):decide ((bQ a:Key)=fF b)=ae:=decide_eq_false (λq=>nomatch q)
noncomputable def W7(prog:az)(w:aF):PySem.KeyKind prog w Key where
 is:=Ef
 hash:=jn1 w
 inj:=λv a b ha hb=>by
  rcases J2 ha with ⟨i,t,rfl,rfl⟩|⟨x,t,rfl,rfl⟩
  .rcases J2 hb with ⟨j,u,rfl,e⟩|⟨y,u,rfl,e⟩
   .injection e with e1 _;rw[e1]
   .exact nomatch e
  .rcases J2 hb with ⟨j,u,rfl,e⟩|⟨y,u,rfl,e⟩
   .exact nomatch e
   .injection e with e1 _;rw[e1]
 byValue:=λk v h=>by rcases J2 h with ⟨i,t,rfl,rfl⟩|⟨x,t,rfl,rfl⟩<;>rfl
 pyHash:=λhv h=>by
  rcases J2 hv with ⟨i,t,rfl,rfl⟩|⟨x,t,rfl,rfl⟩
  .exact wpAny_pyHash_int h
  .exact wpAny_pyHash_str h
 eqBool:=λhu hv h=>by
  rcases J2 hu with ⟨i,t,rfl,rfl⟩|⟨x,t,rfl,rfl⟩
  .rcases J2 hv with ⟨j,u,rfl,rfl⟩|⟨y,u,rfl,rfl⟩
   .rw[jhh]at h;exact wpAny_eqBool_int h
   .rw[jhg]at h;exact SeqAt.EqAt.int_str i t y u _ _ _ _ h
  .rcases J2 hv with ⟨j,u,rfl,rfl⟩|⟨y,u,rfl,rfl⟩
   .rw[jhf]at h;exact SeqAt.EqAt.str_int x t j u _ _ _ _ h
   .rw[jhe]at h;exact wpAny_eqBool_str h
 «strs»:=λk x t v h=>by
  rcases J2 h with ⟨i,u,rfl,e⟩|⟨y,u,rfl,e⟩
  .exact nomatch e
  .injection e with e1 _;subst e1;cases v<;>rfl
theorem Bd(prog:az)(w:aF)(x:aq)(t:dH):(W7 prog w).is (.inr x) (.str x t)=af:=j66 x t
set_option genInjectivity true in
inductive V where
 |non|bl (b:Bool)|int (i:Int)|str (x:aq)|byt (b:Array UInt8)|flt (b:UInt64)|ref (a:ao)|ty (n:String)
 deriving DecidableEq
def RelV:V->ak->Prop
 |.non,u=>u=b0
 |.bl b,u=>u=bp b
 |.int i,u=>∃t,u=bu i t
 |.str x,u=>∃t,u=b9 x t
 |.byt b,u=>∃t,u=ki b t
 |.flt b,u=>∃t,u=kg b t
 |.ref a,u=>u=aJ a
 |.ty n,u=>u=cI n
abbrev Vals:List V->List ak->Prop:=Paired RelV
theorem Vals.length{xs:List V}{us:List ak}(r:Vals xs us):xs.length=us.length:=Paired.length r
theorem Vals.get:∀{xs:List V}{us:List ak}{i:Nat}{x:V},Vals xs us->xs[i]?=aa x->∃u,us[i]?=aa u/\RelV x u
 |_,_,_,_,.nil,e=>by simp at e
 |_,_,0,_,.cons r _,e=>by simp at e;subst e;exact⟨_,rfl,r⟩
 |_,_,i+1,x,.cons _ t,e=>by obtain⟨u,h1,h2⟩:=Vals.get (i:=i) (x:=x) t (by simpa using e);exact⟨u,by simpa using h1,h2⟩
theorem Vals.set{x:V}{u:ak}(r:RelV x u):∀{xs:List V}{us:List ak}(i:Nat),Vals xs us->Vals (xs.set i x) (us.set i u)
 |_,_,_,.nil=>.nil
 |_,_,0,.cons _ t=>.cons r t
 |_,_,i+1,.cons q t=>.cons q (Vals.set r i t)
theorem Vals.append:∀{xs ys:List V}{us ws:List ak},Vals xs us->Vals ys ws->Vals (xs++ys) (us++ws)
 |_,_,_,_,.nil,s=>s
 |_,_,_,_,.cons r t,s=>.cons r (Vals.append t s)
theorem Vals.take:∀{xs:List V}{us:List ak}(n:Nat),Vals xs us->Vals (xs.take n) (us.take n)
 |_,_,0,_=>.nil
 |_,_,_+1,.nil=>.nil
 |_,_,n+1,.cons r t=>.cons r (Vals.take n t)
theorem Vals.drop:∀{xs:List V}{us:List ak}(n:Nat),Vals xs us->Vals (xs.drop n) (us.drop n)
 |_,_,0,r=>r
 |_,_,_+1,.nil=>.nil
 |_,_,n+1,.cons _ t=>Vals.drop n t
def Uv:Option V->Option ak->Prop
 |some v,aa u=>RelV v u
 |none,ah=>True
 |_,_=>False
def KV{κ:Type}:List (κ×V)->List (κ×ak)->Prop:=Paired λ(p:κ×V) (q:κ×ak)=>p.1=q.1/\RelV p.2 q.2
noncomputable def kV:Key->V
 |.inl i=>.int i
 |.inr x=>.str x
inductive HO where
 |lst (xs:List V)
 |tup (xs:List V)
 |dK (kvs:List (Key×V))|dT (kvs:List (List Key×V))
 |dI (xs:List (List Int×ao×ak)) (ep:Nat)
 |set (S:Int->Bool) (n:Nat)
 |ins (C dx:ao) (fs:List (aq×V))
 |own (x:ao)
 |xd (fs:List (aq×V))
 |met (f x:ao)
 |rng (lo hi:Int)
 |frz (o:dy) (u:HO)
 |tbl (ps:Array ak)
 |cod (q:aq)
 |ext (φ:aH->Prop)
noncomputable abbrev Hp:=ao->Option HO
noncomputable def upd(H:Hp)(a:ao)(o:HO):Hp:=λb=>if b=a then aa o else H b
theorem jx{H:Hp}{a:ao}{o:HO}:upd H a o a=aa o:=by unfold upd;rw[if_pos rfl]
theorem jj{H:Hp}{a b:ao}{o:HO}(h:b≠a):upd H a o b=H b:=by unfold upd;rw[if_neg h]
theorem jc9{H:Hp}{a:ao}{o u:HO}:upd (upd H a o) a u=upd H a u:=by funext b;unfold upd;split<;>rfl
theorem zq{H:Hp}{a b:ao}{o:HO}(h:H a=aa o)(h':H b=ah):a≠b:=by intro e;subst e;rw[h]at h';cases h'
def V5(h:aH)(a:ao):Prop:=∀o,h.get? a=aa o->o.dict=ah
theorem V5.new(h:aH)(xs:Array ak):V5 (h.push { cls:=.type "tuple",data:=.seq xs }) h.objs.size:=λo e=>by have z:(h.push { cls:=.type "tuple",data:=.seq xs }).get? h.objs.size=aa { cls:=.type "tuple",data:=.seq xs }:=X3 _ rfl;rw[z]at e;cases e;rfl
theorem V5.of{h:aH}{a:ao}{d:Data}{c:ak}(e:h.get? a=aa { cls:=c,data:=d }):V5 h a:=λo e'=>by rw[e]at e';cases e';rfl
def j4m(o:dy)(q:aq):Prop:=∃(vs:Array ak)(t:dH),o.data=.fields vs/\vs[1]?=aa (.str q t)
section
variable(P:az)(w:aF)
def jz(H:Hp)(h:aH)(a:ao):HO->Prop
 |.lst xs=>xs.length<=av/\∃(its:List ak)(n:Nat),Vals xs its/\h.get? a=aa { cls:=.type "list",data:=.seq its.toArray n }
 |.tup xs=>xs.length<=av/\∃its:List ak,Vals xs its/\iE h a its.toArray/\V5 h a
 |.dK kvs=>kvs.length<=av/\(a==fZ)=ae/\∃vs,KV kvs vs/\h.DictOf (W7 P w) a vs
 |.dT kvs=>kvs.length<=av/\(a==fZ)=ae/\∃xs:List (List Key×ao×ak),
   Paired (λ(p:List Key×V) (q:List Key×ao×ak)=>p.1=q.1/\H q.2.1=aa (.tup (p.1.map kV))/\RelV p.2 q.2.2) kvs xs /\
   ∃o es ep,h.get? a=aa o/\o.ExactDict/\o.data=.dict es ep/\es.toList=xs.map (entryOfKey (tupleKind (W7 P w)))/\(xs.map (·.1)).Nodup
 |.dI xs ep=>xs.length<=av/\(a==fZ)=ae/\(xs.map λx=>x.1).Nodup/\∃(o:dy)(es:Array kQ),h.get? a=aa o/\o.ExactDict/\o.data=.dict es ep/\es.toList=xs.map (entryOfKey (tupleKind (intKind P w)))
 |.set S n=>h.SetOf (intKind P w) a S n
 |.ins C dx fs=>H dx=aa (.own a)/\fs.length<=1000/\dx≠a/\h.get? a=aa (W.instObj C dx) /\
   ∃mA,h.Ns1 dx mA/\(∀f,Uv (fs.lookup f) (mA f))/\gO mA (fs.map (·.1))
 |.own _=>∃o,h.get? a=aa o
 |.xd fs=>∃mA,h.Ns1 a mA/\∀f,Uv (fs.lookup f) (mA f)
 |.rng lo hi=>∃t u v,h.get? a=aa { cls:=.type "range",data:=.fields #[.int lo t,.int hi u,.int 1 v] }
 |.frz o u=>h.get? a=aa o/\jz H h a u
 |.tbl ps=>h.get? a=aa { cls:=.none,data:=.fields ps }
 |.cod q=>∃ps:Array ak,h.get? a=aa (W.tabObj ps)/\TriplesOk ps.toList/\∀pos cv,codeAmong pos ps.toList=aa cv->∃(c:ao)(oc:dy),cv=.ref c/\H c=aa (.frz oc (.own 0))/\j4m oc q
 |.met f x=>h.get? a=aa (W.methodObj (.ref f) (.ref x))
 |.ext φ=>φ h/\(∃o,h.get? a=aa o)/\∀h1 h2:aH,φ h1->(∀o,h1.get? a=aa o->h2.get? a=aa o)->φ h2
def HOk(H:Hp)(h:aH):Prop:=∀a o,H a=aa o->jz P w H h a o
end
section
variable{P:az}{w:aF}{H H':Hp}{h h':aH}{a:ao}{o:HO}
theorem jz.lt(x:jz P w H h a o):a<h.objs.size:=by
 cases o with
 |lst xs=>obtain⟨_,_,_,_,e⟩:=x;exact xr e
 |tup xs=>obtain⟨_,_,_,p,_⟩:=x;exact p.lt
 |dK kvs=>obtain⟨_,_,_,_,o,_,_,e,_⟩:=x;exact xr e
 |dT kvs=>obtain⟨_,_,_,_,o,_,_,e,_⟩:=x;exact xr e
 |dI xs ep=>obtain⟨_,_,_,o,_,e,_⟩:=x;exact xr e
 |set S n=>obtain⟨o,_,_,_,e,_⟩:=x;exact xr e
 |ins C dx fs=>obtain⟨_,_,_,e,_⟩:=x;exact xr e
 |own y=>obtain⟨_,e⟩:=x;exact xr e
 |xd fs=>obtain⟨_,⟨_,_,_,e,_⟩,_⟩:=x;exact xr e
 |rng lo hi=>obtain⟨_,_,_,e⟩:=x;exact xr e
 |frz ob u=>obtain⟨e,_⟩:=x;exact xr e
 |tbl ps=>exact xr (show h.get? a=aa _ from x)
 |cod q=>obtain⟨_,e,_⟩:=x;exact xr e
 |met f y=>exact xr (show h.get? a=aa _ from x)
 |ext φ=>obtain⟨_,⟨_,e⟩,_⟩:=x;exact xr e
theorem Paired.mapP{α β:Type}{F G:α->β->Prop}:∀{l₁:List α}{l₂:List β},Paired F l₁ l₂->(∀a b,F a b->G a b)->Paired G l₁ l₂
 |_,_,.nil,_=>.nil
 |_,_,.cons r t,f=>.cons (f _ _ r) (Paired.mapP t f)
theorem jz.stay(x:jz P w H h a o)(k:∀b u,(b=a\/H b=aa (.own a))->h.get? b=aa u->h'.get? b=aa u)
  (ho:∀b,H b=aa (.own a)->H' b=aa (.own a)) (ht:∀b xs,H b=aa (.tup xs)->H' b=aa (.tup xs)) (hz:∀b o,(∃vs,o.data=.fields vs)->H b=aa (.frz o (.own 0))->H' b=aa (.frz o (.own 0))):jz P w H' h' a o:=by
 induction o with
 |lst xs=>obtain⟨z,its,n,r,e⟩:=x;exact⟨z,its,n,r,k _ _ (.inl rfl) e⟩
 |tup xs =>obtain⟨z,its,r,⟨ob,e,c⟩,nd⟩:=x;refine⟨z,its,r,⟨ob,k _ _ (.inl rfl) e,c⟩,λo q=>?_⟩;rw[k _ _ (.inl rfl) e]at q;cases q;exact nd _ e
 |dK kvs=>obtain⟨z,y,vs,r,ob,es,ep,e,c⟩:=x;exact⟨z,y,vs,r,ob,es,ep,k _ _ (.inl rfl) e,c⟩
 |dT kvs =>obtain⟨z,y,xs,r,ob,es,ep,e,c⟩:=x;exact⟨z,y,xs,Paired.mapP r λp q z=>⟨z.1,ht _ _ z.2.1,z.2.2⟩,ob,es,ep,k _ _ (.inl rfl) e,c⟩
 |dI xs ep=>obtain⟨z,y,nd,ob,es,e,c⟩:=x;exact⟨z,y,nd,ob,es,k _ _ (.inl rfl) e,c⟩
 |set S n=>obtain⟨ob,es,ep,t,e,c⟩:=x;exact⟨ob,es,ep,t,k _ _ (.inl rfl) e,c⟩
 |ins C dx fs =>obtain⟨d,z,ne,e,mA,⟨od,es,ep,e2,c⟩,r⟩:=x;exact⟨ho _ d,z,ne,k _ _ (.inl rfl) e,mA,⟨od,es,ep,k _ _ (.inr d) e2,c⟩,r⟩
 |own y=>obtain⟨ob,e⟩:=x;exact⟨ob,k _ _ (.inl rfl) e⟩
 |xd fs=>obtain⟨mA,⟨od,es,ep,e,c⟩,r⟩:=x;exact⟨mA,⟨od,es,ep,k _ _ (.inl rfl) e,c⟩,r⟩
 |rng lo hi=>obtain⟨t,u,v,e⟩:=x;exact⟨t,u,v,k _ _ (.inl rfl) e⟩
 |frz ob u ih=>obtain⟨e,q⟩:=x;exact⟨k _ _ (.inl rfl) e,ih q⟩
 |tbl ps =>have e:h.get? a=aa { cls:=.none,data:=.fields ps }:=x;show h'.get? a=aa { cls:=.none,data:=.fields ps };exact k a _ (.inl rfl) e
 |cod q=>obtain⟨ps,e,t,c⟩:=x;exact⟨ps,k _ _ (.inl rfl) e,t,λpos cv z=>let ⟨c,oc,e1,e2,e3⟩:=c pos cv z;⟨c,oc,e1,hz _ _ (let ⟨vs,_,z,_⟩:=e3;⟨vs,z⟩) e2,e3⟩⟩
 |met f y =>have e:h.get? a=aa (W.methodObj (.ref f) (.ref y)):=x;show h'.get? a=aa (W.methodObj (.ref f) (.ref y));exact k a _ (.inl rfl) e
 |ext φ=>obtain⟨p,⟨o,e⟩,st⟩:=x;exact⟨st _ _ p λo q=>k _ _ (.inl rfl) q,⟨o,k _ _ (.inl rfl) e⟩,st⟩
theorem HOk.lt(x:HOk P w H h)(e:H a=aa o):a<h.objs.size:=(x a o e).lt
theorem HOk.fresh(x:HOk P w H h)(e:h.objs.size<=a):H a=ah:=by
 cases q:H a with
 |none=>rfl
 |some u=>exact absurd (Xn (x.lt q) e) (Pj _)
theorem HOk.kept(x:HOk P w H h)(k:∀b u,h.get? b=aa u->h'.get? b=aa u):HOk P w H h':=λa o e =>(x a o e).stay (λb u _ q=>k b u q) (λ_ q=>q) (λ_ _ q=>q) λ_ _ _ q=>q
theorem HOk.laid(x:HOk P w H h)(k:∀b u,h.get? b=aa u->h'.get? b=aa u)(hp:h.objs.size<=a)(new:jz P w (upd H a o) h' a o):HOk P w (upd H a o) h':=λb u e=>by
 have hn:=x.fresh hp;by_cases hb:b=a
 .subst hb;rw[jx]at e;cases e;exact new
 .rw[jj hb]at e;exact(x b u e).stay (λc v _ q=>k c v q) (λc q=>by rw[jj (zq q hn)];exact q) (λc xs q=>by rw[jj (zq q hn)];exact q) λc _ _ q=>by rw[jj (zq q hn)];exact q
end
def Rd(H:Hp)(a:ao)(u:HO):Prop:=H a=aa u\/∃o,H a=aa (.frz o u)
theorem Rd.ok{P:az}{w:aF}{H:Hp}{h:aH}{a:ao}{u:HO}(r:Rd H a u)(x:HOk P w H h):jz P w H h a u:=by
 rcases r with r|⟨o,r⟩
 .exact x a u r
 .obtain⟨_,q⟩:=x a _ r;exact q
def Mut:Option HO->Prop
 |some (.lst _)=>True
 |some (.dK _)=>True
 |some (.dT _)=>True
 |some (.dI _ _)=>True
 |some (.set _ _)=>True
 |some (.ins _ _ _)=>True
 |some (.ext _)=>True
 |some (.cod _)=>True
 |_=>False
section
variable{P:az}{w:aF}{H:Hp}{h h':aH}{x e:ao}{o':HO}
theorem HOk.write(ok:HOk P w H h)(mu:Mut (H x))(he:e=x\/H e=aa (.own x))(k:∀b u,b≠e->h.get? b=aa u->h'.get? b=aa u)(heo:∃u,h'.get? e=aa u)
  (new:jz P w (upd H x o') h' x o'):HOk P w (upd H x o') h':=λb u q=>by
 have nown:∀c y,H c=aa (.own y)->c≠x:=λc y r z=>by subst z;rw[r]at mu;exact mu
 have ntup:∀c xs,H c=aa (.tup xs)->c≠x:=λc xs r z=>by subst z;rw[r]at mu;exact mu
 have nfrz:∀c o u,H c=aa (.frz o u)->c≠x:=λc o u r z=>by subst z;rw[r]at mu;exact mu
 by_cases hb:b=x
 .subst hb;rw[jx]at q;cases q;exact new
 .rw[jj hb]at q;by_cases hbe:b=e
  .have q':H b=aa (.own x):=by
    rcases he with z|z
    .exact absurd (hbe.trans z) hb
    .rw[hbe];exact z
   rw[q]at q';cases q';obtain⟨v,hv⟩:=heo;exact⟨v,by rw[hbe];exact hv⟩
  .refine(ok b u q).stay (λc v hc r=>k c v ?_ r) (λc r=>by rw[jj (nown c b r)];exact r) (λc xs r=>by rw[jj (ntup c xs r)];exact r) λc o _ r=>by rw[jj (nfrz c o _ r)];exact r
   rcases hc with rfl|hc
   .exact hbe
   .rintro rfl;rcases he with z|z
    .exact nown c b hc z
    .rw[hc]at z;cases z;exact hb rfl
end
structure Un(fs ex:List ao)(H H':Hp)(h h':aH):Prop where
 keep:∀b o,h.get? b=aa o->H b=ah->b∉fs->b∉ex->h'.get? b=aa o
 slot:∀b o,h.get? b=aa o->H b=ah->b∈fs->b∉ex->∃sl,h'.get? b=aa { o with slots:=sl }
 free:∀b o,h.get? b=aa o->H b=ah->b∉ex->H' b=ah
 there:∀b o,h.get? b=aa o->b∉ex->∃o',h'.get? b=aa o'
 tups:∀b xs,H b=aa (.tup xs)->H' b=aa (.tup xs)
 frzs:∀b o u,H b=aa (.frz o u)->H' b=aa (.frz o u)
 tbls:∀b ps,H b=aa (.tbl ps)->∃more,H' b=aa (.tbl (ps++more))
section
variable{fs fs' ex ex':List ao}{H H1 H2:Hp}{h h1 h2 h':aH}{a x e:ao}{o:HO}
theorem Un.any(u:Un fs ex H H1 h h1){b:ao}{ob:dy}(q:h.get? b=aa ob)(n:H b=ah)(hx:b∉ex):∃sl,h1.get? b=aa { ob with slots:=sl }:=by
 by_cases hb:b∈fs
 .exact u.slot b ob q n hb hx
 .exact⟨ob.slots,u.keep b ob q n hb hx⟩
theorem Un.kept(k:∀b u,h.get? b=aa u->h'.get? b=aa u):Un fs ex H H h h' :=
 ⟨λb ob q _ _ _=>k b ob q,λb ob q _ _ _=>⟨ob.slots,k b ob q⟩,λ_ _ _ n _=>n,λb ob q _=>⟨ob,k b ob q⟩,λ_ _ q=>q,λ_ _ _ q=>q,λ_ ps q=>⟨#[],by rw[q];simp⟩⟩
theorem Un.refl:Un fs ex H H h h:=Un.kept λ_ _ q=>q
theorem Un.laid(k:∀b u,h.get? b=aa u->h'.get? b=aa u)(hp:h.objs.size<=a)(hn:H a=ah):Un fs ex H (upd H a o) h h' where
 keep:=λb u q _ _ _=>k b u q
 slot:=λb u q _ _ _=>⟨u.slots,k b u q⟩
 free:=λb u q n _=>by rw[jj (Xd (Xn (xr q) hp))];exact n
 there:=λb u q _=>⟨u,k b u q⟩
 tups:=λb xs q=>by rw[jj (zq q hn)];exact q
 frzs:=λb u xs q=>by rw[jj (zq q hn)];exact q
 tbls:=λb ps q=>⟨#[],by rw[jj (zq q hn),q];simp⟩
theorem Un.write(mu:Mut (H x))(he:e=x\/H e=aa (.own x))(k:∀b u,b≠e->h.get? b=aa u->h'.get? b=aa u)(heo:∃u,h'.get? e=aa u):Un fs ex H (upd H x o) h h':=by
 have hx:∀b,H b=ah->b≠x:=λb n z=>by subst z;rw[n]at mu;exact mu
 have hb:∀b,H b=ah->b≠e:=λb n z=>by
  subst z;rcases he with r|r
  .exact hx b n r
  .rw[n]at r;cases r
 have hm:∀b u,H b=aa u->¬Mut (aa u)->b≠x:=λb u q nm z=>by subst z;rw[q]at mu;exact nm mu
 refine⟨λb u q n _ _=>k b u (hb b n) q,λb u q n _ _=>⟨u.slots,k b u (hb b n) q⟩,λb u q n _=>by rw[jj (hx b n)];exact n,λb u q _=>?_,
  λb xs q=>by rw[jj (hm b _ q λz=>z)];exact q,λb u xs q=>by rw[jj (hm b _ q λz=>z)];exact q,λb ps q=>⟨#[],by rw[jj (hm b _ q λz=>z),q];simp⟩⟩
 by_cases hbe:b=e
 .subst hbe;exact heo
 .exact⟨u,k b u hbe q⟩
end
noncomputable def trk(h:aH)(H:Hp):List ao:=(aB h.objs.size).filter λa=>(H a).isSome
noncomputable def Wv(h:aH)(H:Hp):aH:=W.hideAll h (trk h H)
theorem j6d(h:aH)(H:Hp):(Wv h H).objs.size=h.objs.size:=W.hideAll_size _ _
theorem j9u{h:aH}{H:Hp}{b:ao}{o:dy}(e:h.get? b=aa o)(n:H b=ah):(Wv h H).get? b=aa o :=
 W.hideAll_get _ e λhm=>by have q:(H b).isSome=af:=(T9.mp hm).2;rw[n]at q;simp at q
theorem jdh{h:aH}{H:Hp}{b:ao}{o:dy}(e:(Wv h H).get? b=aa o):h.get? b=aa o/\H b=ah:=by
 have e':h.get? b=aa o:=W.of_hideAll (trk h H) e;refine⟨e',?_⟩;cases q:H b with
 |none=>rfl
 |some x =>have hm:b∈trk h H:=T9.mpr ⟨Xc.mpr (xr e'),by simp[q]⟩;have z:(Wv h H).get? b=ah:=W.hideAll_none (trk h H) hm;rw[z]at e;cases e
noncomputable def jf1(g h:aH)(L:ao):List (ao×dy):=(aB h.objs.size).filterMap λa=>if a=L\/(g.get? a).isSome=af then ah else(h.get? a).map λo=>(a,o)
noncomputable def rest(g h:aH)(L d:ao):List (ao×dy):=(jf1 g h L).filter λp=>decide (p.1≠d)
structure Mod(K:k7t)(mg:k7w)(base:aH):Prop where
 kin:K.In base
 glob:base.Ns ax mg
 blt:∃mb,base.Ns dU mb/\∀x:aq,x ≠ "__name__"->mb x=bh x
 nolimit:base.NoLimit
 bm:∃bm ob,mg "__builtins__" = aa (.ref bm)/\bm≠dU/\base.get? bm=aa ob/\ob.cls=.type "module"/\ob.dict=aa dU/\ob.data=.plain
structure Cx where
 prog:az
 w:aF
 K:k7t
 mg:aq->Option ak
 base:aH
 A:aI
 N:List aq
 s₀:ar
 H₀:Hp
 env:dz
 outer:List dz
 stack:List dz
 ex:List ao
 fn:aq->Bool
 calm:Bool
 pn:List (ao×dy)
 xe:ak->ar->Prop
noncomputable def frs(l:List dz):List ao:=l.filterMap (·.frame)
noncomputable abbrev Cx.fs(X:Cx):List ao:=frs X.outer
def Vis(sc:bC)(x:aq):Prop:=sc.names.lookup x=aa .local\/sc.names.lookup x=aa .cell\/sc.names.lookup x=aa .free
def Loc(sc:bC)(x:aq):Prop:=sc.names.lookup x=aa .local\/sc.names.lookup x=aa .cell
def Look(env:dz)(h:aH)(m:k7w)(x:aq)(u:ak):Prop :=
 (env.kindOf x=aa .local/\m x=aa u)\/((env.kindOf x=aa .cell\/env.kindOf x=aa .free)/\∃c,env.cells.lookup x=aa c/\h.IsCell c (aa u))
structure Cx.Ok(X:Cx):Prop where
 mod:Mod X.K X.mg X.base
 kind:X.env.scope.kind=.function
 glob:X.env.globals=ax
 blt:X.env.builtins=dU
 above:X.s₀.heap.objs.size<=X.env.locals
 inj:∀x y c,X.env.cells.lookup x=aa c->X.env.cells.lookup y=aa c->x=y
 has:∀x,(X.env.kindOf x=aa .cell\/X.env.kindOf x=aa .free)->∃c,X.env.cells.lookup x=aa c
 cab:∀x c,X.fn x=af->X.env.cells.lookup x=aa c->X.s₀.heap.objs.size<=c
 hd:X.calm=af->X.A.handled=ah
 frames:X.A.frames=aa X.stack
 stk:X.stack=X.outer\/(X.stack=X.env::X.outer/\X.env.frame=aa X.env.locals)
 exf:∀b∈X.ex,b≠X.env.locals/\∀x c,X.env.cells.lookup x=aa c->c≠b
 bs:∀b o,X.base.get? b=aa o->X.s₀.heap.get? b=aa o/\X.H₀ b=ah
 bsz:X.base.objs.size<=X.s₀.heap.objs.size
 noex:∀b o,X.base.get? b=aa o->b∉X.ex
 exfs:∀b∈X.ex,b∉X.fs
 funs:X.s₀.heap.FunFrames X.base X.outer
 frf:∀b∈X.fs,X.H₀ b=ah
structure Inv(X:Cx)(pins:k7v)(σ:List (Option V))(H:Hp)(s:ar):Prop where
 ok:X.Ok
 os:s.os=X.s₀.os
 bare:eE s.gens
 base:Un X.fs X.ex X.H₀ H X.s₀.heap s.heap
 loc:∃m,s.heap.Ns X.env.locals m/\∀(i:Nat)(x:aq)(v:V),X.N[i]?=aa x->σ[i]?=aa (aa v)->Vis X.env.scope x->∃u,RelV v u/\Look X.env s.heap m x u
 cell:∀x c,X.env.cells.lookup x=aa c->∃v,s.heap.IsCell c v
 free:H X.env.locals=ah
 freeC:∀x c,X.env.cells.lookup x=aa c->H c=ah
 pin:∀p∈X.pn++pins,s.heap.get? p.1=aa p.2/\H p.1=ah/\p.1≠X.env.locals/\p.1∉X.fs/\∀v,p.2.data≠.cell v
 hok:HOk X.prog X.w H s.heap
 len:σ.length=X.N.length
section
variable{X:Cx}{pins:k7v}{σ:List (Option V)}{H H':Hp}{s:ar}{h':aH}
theorem Cx.Ok.nofr(ok:X.Ok){b:ao}{o:dy}(e:X.base.get? b=aa o):b∉X.fs:=λhb=>by have:=(ok.funs.mem hb).1;rw[e]at this;cases this
theorem Inv.bs(I:Inv X pins σ H s):∀b o,X.base.get? b=aa o->s.heap.get? b=aa o/\H b=ah:=λb o e =>⟨I.base.keep b o (I.ok.bs b o e).1 (I.ok.bs b o e).2 (I.ok.nofr e) (I.ok.noex b o e),I.base.free b o (I.ok.bs b o e).1 (I.ok.bs b o e).2 (I.ok.noex b o e)⟩
theorem Inv.bk(I:Inv X pins σ H s):∀b o,X.base.get? b=aa o->s.heap.get? b=aa o:=λb o e=>(I.bs b o e).1
theorem Inv.mod(I:Inv X pins σ H s):Mod X.K X.mg X.base:=I.ok.mod
theorem Inv.kIn(I:Inv X pins σ H s):X.K.In s.heap:=I.ok.mod.kin.keeps I.bk
theorem Inv.lt(I:Inv X pins σ H s):X.env.locals<s.heap.objs.size:=let ⟨_,hn,_⟩:=I.loc;hn.lt
theorem Inv.sz(I:Inv X pins σ H s):X.s₀.heap.objs.size<=s.heap.objs.size:=Xg I.ok.above (eG I.lt)
theorem Inv.nofs(I:Inv X pins σ H s){a:ao}(h:s.heap.objs.size<=a):a∉X.fs:=λhb=>by obtain⟨_,o,ho,_⟩:=I.ok.funs.mem hb;exact absurd (Xn (xr ho) (Xg I.sz h)) (Pj _)
theorem Inv.cne(I:Inv X pins σ H s):∀x c,X.env.cells.lookup x=aa c->c≠X.env.locals:=λx c e z=>by obtain⟨v,o,ho,hd⟩:=I.cell x c e;obtain⟨m,⟨o',es,ep,ho',hd',_⟩,_⟩:=I.loc;rw[z,ho']at ho;cases ho;rw[hd']at hd;cases hd
theorem Inv.funs(I:Inv X pins σ H s):s.heap.FunFrames X.base X.outer:=by
 have all:∀(l:List dz),(∀b∈frs l,b∈X.fs)->X.s₀.heap.FunFrames X.base l->s.heap.FunFrames X.base l:=by
  intro l;induction l with
  |nil=>intro _ _;trivial
  |cons env r ih =>intro hs hl;obtain⟨hk,⟨L,o,hf,hn,ho,hd⟩,hr⟩:=hl;have hL:L∈X.fs:=hs L (by unfold frs;rw[cH,hf];exact xj);obtain⟨sl,e⟩:=I.base.slot L o ho (I.ok.frf L hL) hL λz=>I.ok.exfs L z hL;exact⟨hk,⟨L,_,hf,hn,e,hd⟩,ih (λb hb=>hs b (by unfold frs;rw[cH,hf];exact xf _ hb)) hr⟩
 exact all X.outer (λ_ hb=>hb) I.ok.funs
theorem Inv.stack(I:Inv X pins σ H s):s.heap.FunFrames X.base X.stack:=by
 rcases I.ok.stk with e|⟨e,hf⟩
 .rw[e];exact I.funs
 .rw[e];obtain⟨m,hn,_⟩:=I.loc;refine .cons (by rw[I.ok.kind];decide) hf hn ?_ I.funs;exact Heap.get?_none_of_le (Xg I.ok.bsz I.ok.above)
theorem Inv.stkSub(I:Inv X pins σ H s):∀b∈frs X.stack,b∈X.env.locals::X.fs:=λb hb=>by
 rcases I.ok.stk with e|⟨e,hf⟩
 .rw[e]at hb;exact xf _ hb
 .rw[e]at hb;unfold frs at hb;rw[cH,hf]at hb;exact hb
theorem Inv.stkFree(I:Inv X pins σ H s):∀b∈frs X.stack,H b=ah:=λb hb=>by
 rcases xn.mp (I.stkSub b hb)with e|hb
 .rw[e];exact I.free
 .obtain⟨_,o,ho,_⟩:=I.ok.funs.mem hb;exact I.base.free b o ho (I.ok.frf b hb) λz=>I.ok.exfs b z hb
theorem Inv.step{g':Array ft}{t':Nat}{d':Drawn}{ch:List ao}(I:Inv X pins σ H s)
  (hch:∀b∈ch,(b∈X.ex\/X.s₀.heap.objs.size<=b)/\b≠X.env.locals/\(∀x c,X.env.cells.lookup x=aa c->c≠b)/\∀p∈X.pn++pins,p.1≠b)
  (keep:∀b o,b≠X.env.locals->b∉X.fs->b∉ch->s.heap.get? b=aa o->H b=ah->h'.get? b=aa o)
  (slot:∀b o,b≠X.env.locals->b∈X.fs->b∉ch->s.heap.get? b=aa o->H b=ah->∃sl,h'.get? b=aa { o with slots:=sl }) (free:∀b o,b∉ch->s.heap.get? b=aa o->H b=ah->H' b=ah)
  (there:∀b o,b∉ch->s.heap.get? b=aa o->∃o',h'.get? b=aa o')
  (tups:∀b xs,H b=aa (.tup xs)->H' b=aa (.tup xs)) (frzs:∀b o u,H b=aa (.frz o u)->H' b=aa (.frz o u)) (tbls:∀b ps,H b=aa (.tbl ps)->∃more,H' b=aa (.tbl (ps++more)))
  (ns:∀m,s.heap.Ns X.env.locals m->h'.Ns X.env.locals m) (hok:HOk X.prog X.w H' h') (hg:eE g') :
  Inv X pins σ H' { s with heap:=h',gens:=g',drawn:=d',toks:=t' }:=by
 have neL:∀b o,X.s₀.heap.get? b=aa o->b≠X.env.locals:=λb o e=>Xd (Xn (xr e) I.ok.above);have neC:∀b o,X.s₀.heap.get? b=aa o->b∉X.ex->b∉ch:=λb o e hx hb=>by
  rcases(hch b hb).1 with z|z
  .exact hx z
  .exact absurd (Xn (xr e) z) (Pj _)
 have cellK:∀x c,X.env.cells.lookup x=aa c->∀v,s.heap.IsCell c v->h'.IsCell c v:=λx c e v ⟨o,ho,hd⟩=>by
  have nch:c∉ch:=λz=>(hch c z).2.2.1 x c e rfl;by_cases hc:c∈X.fs
  .obtain⟨sl,q⟩:=slot c o (I.cne x c e) hc nch ho (I.freeC x c e);exact⟨_,q,hd⟩
  .exact⟨o,keep c o (I.cne x c e) hc nch ho (I.freeC x c e),hd⟩
 refine⟨I.ok,I.os,hg,⟨λb o e n hb hx=>?_,λb o e n hb hx=>?_,λb o e n hx=>?_,λb o e hx=>?_,λb xs e=>tups b xs (I.base.tups b xs e),λb o xs e=>frzs b o xs (I.base.frzs b o xs e),λb ps e=>?_⟩,?_,λx c e=>?_,?_,λx c e=>?_,λp hp=>?_,hok,I.len⟩
 .exact keep b o (neL b o e) hb (neC b o e hx) (I.base.keep b o e n hb hx) (I.base.free b o e n hx)
 .obtain⟨sl,e1⟩:=I.base.slot b o e n hb hx;obtain⟨sl',e2⟩:=slot b _ (neL b o e) hb (neC b o e hx) e1 (I.base.free b o e n hx);exact⟨sl',e2⟩
 .obtain⟨o',e1⟩:=I.base.there b o e hx;exact free b o' (neC b o e hx) e1 (I.base.free b o e n hx)
 .obtain⟨o',e1⟩:=I.base.there b o e hx;exact there b o' (neC b o e hx) e1
 .obtain⟨m1,e1⟩:=I.base.tbls b ps e;obtain⟨m2,e2⟩:=tbls b _ e1;exact⟨m1++m2,by rw[e2,Array.append_assoc]⟩
 .obtain⟨m,hn,hl⟩:=I.loc;refine⟨m,ns m hn,λi x v e1 e2 e3=>?_⟩;obtain⟨u,r,l⟩:=hl i x v e1 e2 e3;refine⟨u,r,?_⟩;rcases l with l|⟨k,c,e,z⟩
  .exact .inl l
  .exact .inr ⟨k,c,e,cellK x c e _ z⟩
 .obtain⟨v,z⟩:=I.cell x c e;exact⟨v,cellK x c e v z⟩
 .obtain⟨m,⟨o,_,_,ho,_⟩,_⟩:=I.loc;exact free _ o (λz=>(hch _ z).2.1 rfl) ho I.free
 .obtain⟨v,o,ho,hd⟩:=I.cell x c e;exact free c o (λz=>(hch c z).2.2.1 x c e rfl) ho (I.freeC x c e)
 .obtain⟨e,n,ne,nf,d⟩:=I.pin p hp;have nch:p.1∉ch:=λz=>(hch p.1 z).2.2.2 p hp rfl;exact⟨keep p.1 p.2 ne nf nch e n,free p.1 p.2 nch e n,ne,nf,d⟩
theorem Inv.un{t':Nat}(I:Inv X pins σ H s)(u:Un X.fs [] H H' s.heap h')(hok:HOk X.prog X.w H' h'):Inv X pins σ H' { s with heap:=h',toks:=t' }:=by
 obtain⟨m,⟨o,es,ep,ho,r⟩,_⟩:=id I.loc;obtain⟨sl,hL⟩:=u.any ho I.free (by simp);exact I.step (g':=s.gens) (d':=s.drawn) (ch:=[]) (λ_ z=>nomatch z) (λb o _ hb _ e n=>u.keep b o e n hb (by simp)) (λb o _ hb _ e n=>u.slot b o e n hb (by simp)) (λb o _ e n=>u.free b o e n (by simp)) (λb o _ e=>u.there b o e (by simp)) u.tups u.frzs u.tbls (λm' hm=>by
  obtain⟨o',es',ep',ho',r'⟩:=hm
  rw[ho]at ho';cases ho'
  exact⟨_,es',ep',hL,r'⟩) hok I.bare
theorem Inv.call{g':Array ft}{t':Nat}{d':Drawn}{ch:List ao}(I:Inv X pins σ H s)(u:Un (frs X.stack) ch H H' s.heap h')(hok:HOk X.prog X.w H' h')(hg:eE g')
  (hch:∀b∈ch,(b∈X.ex\/X.s₀.heap.objs.size<=b)/\b≠X.env.locals/\(∀x c,X.env.cells.lookup x=aa c->c≠b)/\∀p∈X.pn++pins,p.1≠b) :
  Inv X pins σ H' { s with heap:=h',gens:=g',drawn:=d',toks:=t' }:=by
 obtain⟨m,⟨o,es,ep,ho,r⟩,_⟩:=id I.loc;obtain⟨sl,hL⟩:=u.any ho I.free λz=>(hch _ z).2.1 rfl;exact I.step (ch:=ch) hch (λb o hL hb hc e n=>u.keep b o e n (λz=>(xn.mp (I.stkSub b z)).elim hL hb) hc) (λb o _ _ hc e n=>u.any e n hc) (λb o hc e n=>u.free b o e n hc) (λb o hc e=>u.there b o e hc) u.tups u.frzs u.tbls (λm' hm=>by
  obtain⟨o',es',ep',ho',r'⟩:=hm
  rw[ho]at ho';cases ho'
  exact⟨_,es',ep',hL,r'⟩) hok hg
theorem Inv.turned{t':Nat}{it:ao}(I:Inv X pins σ H s)(k:∀b o,b≠it->s.heap.get? b=aa o->h'.get? b=aa o)(hn:H it=ah)(hL:it≠X.env.locals)
  (h1:it∈X.ex\/X.s₀.heap.objs.size<=it) (h2:∀x c,X.env.cells.lookup x=aa c->c≠it) (h3:∀p∈X.pn++pins,p.1≠it):Inv X pins σ H { s with heap:=h',toks:=t' }:=by
 have nit:∀b u,H b=aa u->b≠it:=λb u e z=>by rw[z,hn]at e;cases e
 refine I.step (g':=s.gens) (d':=s.drawn) (ch:=[it]) (λb hb=>?_) (λb o _ _ hc e _=>k b o (λz=>hc (by simp[z])) e) (λb o _ _ hc e _=>⟨o.slots,k b o (λz=>hc (by simp[z])) e⟩) (λ_ _ _ _ n=>n)
  (λb o hc e=>⟨o,k b o (λz=>hc (by simp[z])) e⟩) (λ_ _ e=>e) (λ_ _ _ e=>e) (λb ps e=>⟨#[],by rw[e];simp⟩) (λm hm=>?_) (λb u e=>?_) I.bare
 .have e:b=it:=by simpa using hb
  subst e;exact⟨h1,hL,h2,h3⟩
 .obtain⟨o,es,ep,ho,r⟩:=hm;exact⟨o,es,ep,k _ o (dW hL) ho,r⟩
 .refine(I.hok b u e).stay (λc v hc q=>k c v ?_ q) (λ_ q=>q) (λ_ _ q=>q) λ_ _ _ q=>q;rcases hc with z|z
  .rw[z];exact nit b u e
  .exact nit c _ z
theorem Inv.tok(I:Inv X pins σ H s)(t:Nat):Inv X pins σ H { s with toks:=t }:=I.un (h':=s.heap) (t':=t) Un.refl I.hok
theorem Inv.kept{t':Nat}(I:Inv X pins σ H s)(k:∀b u,s.heap.get? b=aa u->h'.get? b=aa u):Inv X pins σ H { s with heap:=h',toks:=t' }:=I.un (Un.kept k) (I.hok.kept k)
theorem Inv.laid{a:ao}{o:HO}{t':Nat}(I:Inv X pins σ H s)(k:∀b u,s.heap.get? b=aa u->h'.get? b=aa u)(hp:s.heap.objs.size<=a)(new:jz X.prog X.w (upd H a o) h' a o) :
  Inv X pins σ (upd H a o) { s with heap:=h',toks:=t' }:=I.un (Un.laid k hp (I.hok.fresh hp)) (I.hok.laid k hp new)
theorem Inv.write{x e:ao}{o:HO}{t':Nat}(I:Inv X pins σ H s)(mu:Mut (H x))(he:e=x\/H e=aa (.own x))(k:∀b u,b≠e->s.heap.get? b=aa u->h'.get? b=aa u)(heo:∃u,h'.get? e=aa u)
  (new:jz X.prog X.w (upd H x o) h' x o):Inv X pins σ (upd H x o) { s with heap:=h',toks:=t' }:=I.un (Un.write mu he k heo) (I.hok.write mu he k heo new)
theorem Inv.pins_of{pins':k7v}(I:Inv X pins σ H s)(h:∀p∈pins',s.heap.get? p.1=aa p.2/\H p.1=ah/\p.1≠X.env.locals/\p.1∉X.fs/\∀v,p.2.data≠.cell v):Inv X pins' σ H s :=
 ⟨I.ok,I.os,I.bare,I.base,I.loc,I.cell,I.free,I.freeC,λp hp=>(Pn.mp hp).elim (λz=>I.pin p (cZ _ z)) (h p),I.hok,I.len⟩
theorem j0j{N:List aq}(hN:N.Nodup){i j:Nat}{x:aq}(a:N[i]?=aa x)(b:N[j]?=aa x):i=j:=by obtain⟨h1,e1⟩:=Xf.mp a;obtain⟨h2,e2⟩:=Xf.mp b;exact(jA hN).mp (e1.trans e2.symm)
theorem Ka{M:jI}{A:aI}{E:k7u}{i:Nat}{x:aq}{v:V}{u:ak}{Q:Unit->ar->Prop}(I:Inv X pins σ H s)(hN:X.N.Nodup)(hi:X.N[i]?=aa x)(hx:Loc X.env.scope x)(r:RelV v u)
  (h:∀s',Inv X pins (σ.set i (aa v)) H s'->(∃a,cw a s.heap s'.heap/\(a=X.env.locals\/X.env.cells.lookup x=aa a))->Q () s') (hf:X.fn x=af\/X.env.scope.names.lookup x=aa .local:=by first|exact .inl rfl|exact .inr rfl|assumption):ay M A (storeName X.env x u) Q E s:=by
 obtain⟨m,hn,hl⟩:=id I.loc;have hcls:(X.env.scope.kind==.class || (X.env.scope.kind==.module&&X.env.locals != X.env.globals))=ae:=by rw[I.ok.kind];rfl
 have hiσ:i<σ.length:=by rw[I.len];exact(Xf.mp hi).1
 have cne:=I.cne;have tracked:∀{a:ao}{h':aH},(∃o,s.heap.get? a=aa o/\H a=ah)->cw a s.heap h'->HOk X.prog X.w H h':=λ{a h'} ha hs b ob e=>by
  obtain⟨_,_,hfree⟩:=ha;refine(I.hok b ob e).stay (λc w' hc q=>(hs.2 c ?_).trans q) (λ_ q=>q) (λ_ _ q=>q) λ_ _ _ q=>q;rintro rfl;rcases hc with rfl|hc
  .rw[hfree]at e;cases e
  .rw[hfree]at hc;cases hc
 rcases hx with hk|hk
 .refine wpAny_storeName_local hk hn (λh' hn' hs=>?_) hcls;obtain⟨oL,_,_,hoL,_⟩:=id hn;refine h _ ⟨I.ok,I.os,I.bare,⟨λb o e n hb hx=>?_,λb o e n hb hx=>?_,I.base.free,λb o e hx=>?_,I.base.tups,I.base.frzs,I.base.tbls⟩,⟨_,hn',λj y v' e1 e2 e3=>?_⟩,λy c e=>?_,I.free,I.freeC,λp hp=>?_,tracked ⟨oL,hoL,I.free⟩ hs,by simpa using I.len⟩ ⟨_,hs,.inl rfl⟩
  .exact(hs.2 b (Xd (Xn (xr e) I.ok.above))).trans (I.base.keep b o e n hb hx)
  .obtain⟨sl,e1⟩:=I.base.slot b o e n hb hx;exact⟨sl,(hs.2 b (Xd (Xn (xr e) I.ok.above))).trans e1⟩
  .obtain⟨o',e1⟩:=I.base.there b o e hx;exact⟨o',(hs.2 b (Xd (Xn (xr e) I.ok.above))).trans e1⟩
  .by_cases hj:j=i
   .subst hj;rw[hi]at e1;cases e1;rw[gY hiσ]at e2;cases e2;exact⟨u,r,.inl ⟨hk,by simp⟩⟩
   .rw[eQ (dW hj)]at e2;obtain⟨u',r',q⟩:=hl j y v' e1 e2 e3;refine⟨u',r',?_⟩;rcases q with ⟨k,e⟩|⟨k,c,e,z⟩
    .refine .inl ⟨k,?_⟩;have:y≠x:=λe=>hj (j0j hN e1 (e▸hi));simp[this,e]
    .exact .inr ⟨k,c,e,z.sameBut hs (cne y c e)⟩
  .obtain⟨w',z⟩:=I.cell y c e;exact⟨w',z.sameBut hs (cne y c e)⟩
  .obtain⟨e,n,ne,nf,d⟩:=I.pin p hp;exact⟨(hs.2 p.1 ne).trans e,n,ne,nf,d⟩
 .have hfn:X.fn x=af:=by
   rcases hf with z|z
   .exact z
   .rw[z]at hk;cases hk
  obtain⟨c,hc⟩:=I.ok.has x (.inl hk);obtain⟨w',z⟩:=I.cell x c hc;refine wpAny_storeName_cell I.ok.kind hk hc z (λh' hc' hs=>?_);obtain⟨oc,hoc,hocd⟩:=id z;refine h { s with heap:=h' } ⟨I.ok,I.os,I.bare,⟨λb o e n hb hx=>?_,λb o e n hb hx=>?_,I.base.free,λb o e hx=>?_,I.base.tups,I.base.frzs,I.base.tbls⟩,⟨m,hn.sameBut hs (dW (cne x c hc)),λj y v' e1 e2 e3=>?_⟩,λy c' e=>?_,I.free,I.freeC,λp hp=>?_,tracked ⟨oc,hoc,I.freeC x c hc⟩ hs,by simpa using I.len⟩ ⟨c,hs,.inr hc⟩
  .exact(hs.2 b (Xd (Xn (xr e) (I.ok.cab x c hfn hc)))).trans (I.base.keep b o e n hb hx)
  .obtain⟨sl,e1⟩:=I.base.slot b o e n hb hx;exact⟨sl,(hs.2 b (Xd (Xn (xr e) (I.ok.cab x c hfn hc)))).trans e1⟩
  .obtain⟨o',e1⟩:=I.base.there b o e hx;exact⟨o',(hs.2 b (Xd (Xn (xr e) (I.ok.cab x c hfn hc)))).trans e1⟩
  .by_cases hj:j=i
   .subst hj;rw[hi]at e1;cases e1;rw[gY hiσ]at e2;cases e2;exact⟨u,r,.inr ⟨.inl hk,c,hc,hc'⟩⟩
   .rw[eQ (dW hj)]at e2;obtain⟨u',r',q⟩:=hl j y v' e1 e2 e3;refine⟨u',r',?_⟩;rcases q with q|⟨k,c',e,z'⟩
    .exact .inl q
    .refine .inr ⟨k,c',e,z'.sameBut hs ?_⟩;rintro rfl;exact hj (j0j hN e1 (I.ok.inj _ _ _ e hc▸hi))
  .by_cases hcc:c'=c
   .subst hcc;exact⟨_,hc'⟩
   .obtain⟨w2,z2⟩:=I.cell y c' e;exact⟨w2,z2.sameBut hs hcc⟩
  .obtain⟨e,n,ne,nf,d⟩:=I.pin p hp;refine⟨(hs.2 p.1 ?_).trans e,n,ne,nf,d⟩;intro q;rw[q,hoc]at e;have q':oc=p.2:=aE e;exact d w' (by rw[<-q'];exact hocd)
theorem j01{M:jI}{A:aI}{E:k7u}{i:Nat}{x:aq}{v:V}{u:ak}{Q:Unit->ar->Prop}(I:Inv X pins σ H s)(hN:X.N.Nodup)(hi:X.N[i]?=aa x)(hx:Loc X.env.scope x)(r:RelV v u)
  (h:∀s',Inv X pins (σ.set i (aa v)) H s'->Q () s') (hf:X.fn x=af\/X.env.scope.names.lookup x=aa .local:=by first|exact .inl rfl|exact .inr rfl|assumption):ay M A (storeName X.env x u) Q E s :=
 Ka I hN hi hx r (λs' I' _=>h s' I') hf
theorem Inv.call'{s':ar}{ch:List ao}(I:Inv X pins σ H s)(ho:s'.os=s.os)(u:Un (frs X.stack) ch H H' s.heap s'.heap)(hok:HOk X.prog X.w H' s'.heap)(hg:eE s'.gens)
  (hch:∀b∈ch,(b∈X.ex\/X.s₀.heap.objs.size<=b)/\b≠X.env.locals/\(∀x c,X.env.cells.lookup x=aa c->c≠b)/\∀p∈X.pn++pins,p.1≠b):Inv X pins σ H' s':=by
 obtain⟨h',g',d',t',o'⟩:=s';have e:o'=s.os:=ho;subst e;exact I.call (g':=g') (t':=t') (d':=d') u hok hg hch
end
abbrev XK:=ak->Option ao->Hp->Prop
noncomputable abbrev St:=List (Option V)
abbrev VK:=V->Hp->Prop
abbrev TE:=St->Hp->VK->Prop
abbrev TT:=St->Hp->(Bool->Hp->Prop)->Prop
abbrev TA:=St->Hp->(List V->Hp->Prop)->Prop
structure Ends where
 nx:St->Hp->Prop
 rt:VK
 bk:St->Hp->Prop:=λ_ _=>False
 ct:St->Hp->Prop:=λ_ _=>False
abbrev TS:=Ends->St->Hp->Prop
def EP(X:Cx)(pins:k7v)(σ:St)(Q:VK)(u:ak)(s':ar):Prop:=∃v H',Inv X pins σ H' s'/\RelV v u/\Q v H'
def TP(X:Cx)(pins:k7v)(σ:St)(Q:Bool->Hp->Prop)(b:Bool)(s':ar):Prop:=∃H',Inv X pins σ H' s'/\Q b H'
def AP(X:Cx)(pins:k7v)(σ:St)(Q:List V->Hp->Prop)(us:List ak)(s':ar):Prop:=∃vs H',Inv X pins σ H' s'/\Vals vs us/\Q vs H'
def Ext(X:Cx)(H1 H2:Hp)(s':ar):Prop:=∀b,H2 b=H1 b\/∃x o v,X.env.cells.lookup x=aa b/\X.fn x=af/\H2 b=aa (.frz o (.own 0))/\s'.heap.get? b=aa o/\o.data=.cell v
theorem Ext.refl{X:Cx}{H:Hp}{s':ar}:Ext X H H s':=λ_=>.inl rfl
def SP(X:Cx)(pins:k7v)(D:Ends)(f:Flow)(s':ar):Prop :=
 match f with
 |.next=>∃σ' H',Inv X pins σ' H' s'/\D.nx σ' H'
 |.brk=>∃σ' H',Inv X pins σ' H' s'/\D.bk σ' H'
 |.cont=>∃σ' H',Inv X pins σ' H' s'/\D.ct σ' H'
 |.ret u=>∃v σ' H' H2,Inv X pins σ' H' s'/\RelV v u/\Ext X H' H2 s'/\D.rt v H2
def PE(X:Cx)(e:au)(t:TE):Prop :=
 ∀(pins:k7v) (s:ar) (σ:St) (H:Hp) (Q:VK),Inv X pins σ H s->t σ H Q->ay (aC X.prog X.w) X.A (aD e X.env) (EP X pins σ Q) X.xe s
def PT(X:Cx)(e:au)(t:TT):Prop :=
 ∀(pins:k7v) (s:ar) (σ:St) (H:Hp) (Q:Bool->Hp->Prop),Inv X pins σ H s->t σ H Q->ay (aC X.prog X.w) X.A (eU e X.env (aD e X.env)) (TP X pins σ Q) X.xe s
def PW(X:Cx)(e:au)(t:TT):Prop :=
 ∀(whole:lG ak)(pins:k7v) (s:ar) (σ:St) (H:Hp) (Q:Bool->Hp->Prop),Inv X pins σ H s->t σ H Q->ay (aC X.prog X.w) X.A (eU e X.env whole) (TP X pins σ Q) X.xe s
def PA(X:Cx)(es:List au)(t:TA):Prop :=
 ∀(pos:aR)(pins:k7v) (s:ar) (σ:St) (H:Hp) (Q:List V->Hp->Prop),Inv X pins σ H s->t σ H Q->ay (aC X.prog X.w) X.A (gd (aQ pos (aj es X.env))) (AP X pins σ Q) X.xe s
def PS(X:Cx)(st:aS)(t:TS):Prop :=
 ∀(pins:k7v) (s:ar) (σ:St) (H:Hp) (D:Ends),Inv X pins σ H s->t D σ H->ay (aC X.prog X.w) X.A (exec st X.env) (SP X pins D) X.xe s
def PSs(X:Cx)(st:List aS)(t:TS):Prop :=
 ∀(pins:k7v) (s:ar) (σ:St) (H:Hp) (D:Ends),Inv X pins σ H s->t D σ H->ay (aC X.prog X.w) X.A (execs st X.env) (SP X pins D) X.xe s
theorem thn{α:Type}{t:lG α}{Q Q':α->ar->Prop}{M:jI}{A:aI}{E:k7u}{s:ar}(h:ay M A t Q E s)(hQ:∀a s,Q a s->Q' a s):ay M A t Q' E s:=bS h hQ λ_ _ x=>x
section
variable{X:Cx}
theorem bin{a b:au}{ta tb:TE}(ha:PE X a ta)(hb:PE X b tb){pins:k7v}{s:ar}{σ:St}{H:Hp}{R:V->V->Hp->Prop}(I:Inv X pins σ H s)(h:ta σ H λx H1=>tb σ H1 λy H2=>R x y H2)
  {α:Type} {Q:α->ar->Prop} {f:ak->ak->lG α}
  (hf:∀v u s2 x y H2,Inv X pins σ H2 s2->RelV x v->RelV y u->R x y H2->ay (aC X.prog X.w) X.A (f v u) Q X.xe s2) :
  ay (aC X.prog X.w) X.A (aD a X.env) (λv s₁=>ay (aC X.prog X.w) X.A (aD b X.env) (λu s₂=>ay (aC X.prog X.w) X.A (f v u) Q X.xe s₂) X.xe s₁) X.xe s:=by
 refine thn (ha pins s σ H _ I h) λv s1 ⟨x,H1,I1,r1,q1⟩=>?_;refine thn (hb pins s1 σ H1 _ I1 q1) λu s2 ⟨y,H2,I2,r2,q2⟩=>?_;exact hf v u s2 x y H2 I2 r1 r2 q2
def jmc(i:Nat):TE:=λσ H Q=>∃v,σ[i]?=aa (aa v)/\Q v H
def tC(v:V):TE:=λ_ H Q=>Q v H
theorem qz {i:Nat} {x:aq} {pos:aR} (hN:X.N[i]?=aa x) (hv:Vis X.env.scope x) (hd:(x==k7x)=ae:=by decide) (hcd:(x==k7y)=ae:=by decide):PE X (.Name x pos) (jmc i):=by
 intro pins s σ H Q I h;obtain⟨v,e,h⟩:=h;obtain⟨m,hn,hl⟩:=I.loc;obtain⟨u,r,l⟩:=hl i x v hN e hv;have fin:EP X pins σ Q u s:=⟨v,H,I,r,h⟩
 rcases l with ⟨hk,hm⟩|⟨hk,c,hc,hcell⟩
 .exact jX (wpAny_loadName_local I.ok.kind hk hn hm fin) hd
 .rcases hk with hk|hk
  .exact jX (wpAny_loadName_cell I.ok.kind hk hc hcell fin) hd
  .exact jX (wpAny_loadName_free I.ok.kind hk hc hcell fin hcd) hd
theorem j0d{i j pos}:PE X (.Constant (.int i) j pos) (tC (.int i)):=λ_ _ _ H _ I h=>wpAny_Constant_int ⟨.int i,H,I.tok _,⟨_,rfl⟩,h⟩
theorem jkk{b j pos}:PE X (.Constant (.bool b) j pos) (tC (.bl b)):=λ_ _ _ H _ I h=>Constant_bool ⟨.bl b,H,I,rfl,h⟩
theorem Mg{x j pos}:PE X (.Constant (.str x) j pos) (tC (.str x)):=λ_ _ _ H _ I h=>Calls.Constant_str ⟨.str x,H,I.tok _,⟨_,rfl⟩,h⟩
def Gl(X:Cx)(x:aq):Prop:=X.env.kindOf x=aa .globalImplicit
theorem Vc{E:k7u}{pins:k7v}{s:ar}{σ:St}{H:Hp}{x:aq}{u:ak}{pos:aR}{Q:k7u}(I:Inv X pins σ H s)(hg:Gl X x)(hm:X.mg x=aa u)(h:Q u s)
  (hd:(x==k7x)=ae:=by decide):ay (aC X.prog X.w) X.A (aD (.Name x pos) X.env) Q E s :=
 gb I.ok.kind hg (Calls.loadGlobal_global (by rw[I.ok.glob];exact I.mod.glob.keeps I.bk) hm h) hd
theorem Jb{E:k7u}{pins:k7v}{s:ar}{σ:St}{H:Hp}{x:aq}{u:ak}{pos:aR}{Q:k7u}(I:Inv X pins σ H s)(hg:Gl X x)(hm:X.mg x=ah)(hv:bh x=aa u)(h:Q u s)
  (hn:x ≠ "__name__":=by decide) (hd:(x==k7x)=ae:=by decide):ay (aC X.prog X.w) X.A (aD (.Name x pos) X.env) Q E s:=by
 obtain⟨mb,h1,h2⟩:=I.mod.blt;exact gb I.ok.kind hg (Calls.loadGlobal_builtin (by rw[I.ok.glob];exact I.mod.glob.keeps I.bk) hm (by rw[I.ok.blt];exact h1.keeps I.bk) ((h2 x hn).trans hv) h) hd
theorem jd9 {x:aq} {v:V} {u:ak} {pos:aR} (hg:Gl X x) (hm:X.mg x=aa u) (r:RelV v u) (hd:(x==k7x)=ae:=by decide):PE X (.Name x pos) (tC v) :=
 λ_ _ _ H _ I h=>Vc I hg hm ⟨v,H,I,r,h⟩ hd
theorem jda {x:aq} {v:V} {u:ak} {pos:aR} (hg:Gl X x) (hm:X.mg x=ah) (hv:bh x=aa u) (r:RelV v u) (hn:x ≠ "__name__":=by decide) (hd:(x==k7x)=ae:=by decide):PE X (.Name x pos) (tC v) :=
 λ_ _ _ H _ I h=>Jb I hg hm hv ⟨v,H,I,r,h⟩ hn hd
variable{a b:au}{ta tb:TE}{pos:aR}
def PC(X:Cx)(op:gH)(a b:au)(t:TE):Prop :=
 ∀(pins:k7v) (s:ar) (σ:St) (H:Hp) (Q:VK),Inv X pins σ H s->t σ H Q ->
  ay (aC X.prog X.w) X.A (aD a X.env) (λv s₁=>ay (aC X.prog X.w) X.A (aD b X.env) (λu s₂=>ay (aC X.prog X.w) X.A (bo op v u) (EP X pins σ Q) X.xe s₂) X.xe s₁) X.xe s
theorem Bv(b:au){op:gH}(h:op≠.In)(h2:op≠.NotIn):aP op b=ae:=by
 have e1:(op==CmpOp.In)=ae:=by cases op<;>first|rfl|exact absurd rfl h
 have e2:(op==CmpOp.NotIn)=ae:=by cases op<;>first|rfl|exact absurd rfl h2
 cases b<;>simp[aP,e1,e2]
def jmj(ta:TE):TE:=λσ H Q=>ta σ H λx H1=>Q (.bl (decide (x=.non))) H1
theorem RelV.none_iff{x:V}{v:ak}(r:RelV x v):(v==b0)=decide (x=.non):=by
 cases x with
 |non=>cases r;rfl
 |bl _=>cases r;rfl
 |int _=>obtain⟨t,rfl⟩:=r;rfl
 |str _=>obtain⟨t,rfl⟩:=r;rfl
 |byt _=>obtain⟨t,rfl⟩:=r;rfl
 |flt _=>obtain⟨t,rfl⟩:=r;rfl
 |ref _=>cases r;rfl
 |ty _=>cases r;rfl
theorem j5o{j pos'}(ha:PE X a ta):PC X .Is a (.Constant .none j pos') (jmj ta):=by intro pins s σ H Q I h;refine thn (ha pins s σ H _ I h) λv s1 ⟨x,H1,I1,r1,q1⟩=>?_;exact Constant_none (is_none_gen ⟨.bl _,H1,I1,by rw[r1.none_iff];rfl,q1⟩)
def tB(t:TE):TT:=λσ H Q=>t σ H λx H1=>∃c,x=.bl c/\Q c H1
theorem jgj{op:gH}{t:TE}(h:PC X op a b t)(h1:aP op b=ae:=by first|exact Bv _ (by decide) (by decide)|rfl):PE X (.Compare a [op] [b] pos) t:=λpins s σ H Q I hw=>lT (h pins s σ H Q I hw) h1
theorem jgc{op:gH}{t:TE}(h:PC X op a b t)(h1:aP op b=ae:=by first|exact Bv _ (by decide) (by decide)|rfl):PT X (.Compare a [op] [b] pos) (tB t):=by intro pins s σ H Q I hw;refine iY (thn (h pins s σ H _ I hw) λv s1 h1=>thn h1 λu s2 h2=>thn h2 λc s3 ⟨x,H1,I1,r1,q1⟩=>?_) h1;obtain⟨d,rfl,q⟩:=q1;cases r1;exact bM ⟨H1,I1,q⟩
theorem j5g{e:au}{t:TE}(h:PE X e t)(he:∀whole,eU e X.env whole=(do let v <-whole;gc e.pos;eC [v] (jZ v)):=by intro _;rfl):PT X e (tB t):=by intro pins s σ H Q I hw;refine isTrue_plain (thn (h pins s σ H _ I hw) λv s1 ⟨x,H1,I1,r1,q1⟩=>?_) (he _);obtain⟨d,rfl,q⟩:=q1;cases r1;exact bM ⟨H1,I1,q⟩
variable{tA tB':TT}{rest:List au}
def tOr(t u:TT):TT:=λσ H Q=>t σ H λc H1=>if c=af then Q af H1 else u σ H1 Q
def jmh(t:TT):TT:=λσ H Q=>t σ H λc H1=>Q (!c) H1
theorem jgb(ha:PT X a tA):PW X (.BoolOp .Or [a] pos) tA:=by
 intro wh pins s σ H Q I h;refine isTrue_or (thn (ha pins s σ H Q I h) λc s1 e=>?_);cases c with
 |false=>exact isTrue_or_nil e
 |true=>exact e
theorem jki(ha:PT X a tA)(hb:PW X (.BoolOp .Or (b::rest) pos) tB'):PW X (.BoolOp .Or (a::b::rest) pos) (tOr tA tB'):=by
 intro wh pins s σ H Q I h;refine isTrue_or (thn (ha pins s σ H _ I h) λc s1 ⟨H1,I1,q1⟩=>?_);cases c with
 |true=>exact⟨H1,I1,q1⟩
 |false=>exact hb wh pins s1 σ H1 Q I1 q1
theorem j5h(ha:PT X a tA):PT X (.UnaryOp .Not a pos) (jmh tA):=by intro pins s σ H Q I h;exact isTrue_not (ha pins s σ H (λc H1=>Q (!c) H1) I h)
def jk3(ta tb:TE):TE:=λσ H Q=>ta σ H λx H1=>∃c,x=.bl c/\if c=af then tb σ H1 Q else Q (.bl ae) H1
def jmg(ta tb:TE):TE:=λσ H Q=>ta σ H λx H1=>∃c,x=.bl c/\if c=af then Q (.bl af) H1 else tb σ H1 Q
theorem j5n{op}{t:TE}(h:PE X a t):PE X (.BoolOp op [a] pos) t:=λpins s σ H Q I hw=>BoolOp_one (h pins s σ H Q I hw)
theorem jgk(ha:PE X a ta)(hb:PE X (.BoolOp .And (b::rest) pos) tb):PE X (.BoolOp .And (a::b::rest) pos) (jk3 ta tb):=by
 intro pins s σ H Q I h;refine BoolOp_and (thn (ha pins s σ H _ I h) λv s1 ⟨x,H1,I1,r1,q1⟩=>?_);obtain⟨c,rfl,q1⟩:=q1;cases r1;refine bM ?_;cases c with
 |true=>exact hb pins s1 σ H1 Q I1 q1
 |false=>exact⟨.bl ae,H1,I1,rfl,q1⟩
theorem jkj(ha:PE X a ta)(hb:PE X (.BoolOp .Or (b::rest) pos) tb):PE X (.BoolOp .Or (a::b::rest) pos) (jmg ta tb):=by
 intro pins s σ H Q I h;refine BoolOp_or (thn (ha pins s σ H _ I h) λv s1 ⟨x,H1,I1,r1,q1⟩=>?_);obtain⟨c,rfl,q1⟩:=q1;cases r1;refine bM ?_;cases c with
 |false=>exact hb pins s1 σ H1 Q I1 q1
 |true=>exact⟨.bl af,H1,I1,rfl,q1⟩
def tIf(t:TT)(ta tb:TE):TE:=λσ H Q=>t σ H λc H1=>if c=af then ta σ H1 Q else tb σ H1 Q
theorem j0e{c:au}(hc:PT X c tA)(ha:PE X a ta)(hb:PE X b tb):PE X (.IfExp c a b pos) (tIf tA ta tb):=by
 intro pins s σ H Q I h;refine wpAny_IfExp (thn (hc pins s σ H _ I h) λd s1 ⟨H1,I1,q1⟩=>?_);cases d with
 |true=>exact ha pins s1 σ H1 Q I1 q1
 |false=>exact hb pins s1 σ H1 Q I1 q1
end
def SqL(K:k7t)(H:Hp)(a:ao)(xs:List V):Prop :=
 Rd H a (.lst xs) \/
  ∃(o:dy)(its:Array ak)(n:Nat),K.lookup a=aa o/\o.cls=.type "list"/\o.dict=ah/\o.data=.seq its n/\its.size<=av/\Vals xs its.toList
def SqT(K:k7t)(H:Hp)(a:ao)(xs:List V):Prop :=
 Rd H a (.tup xs) \/
  ∃(o:dy)(its:Array ak)(n:Nat),K.lookup a=aa o/\o.cls=.type "tuple"/\o.dict=ah/\o.data=.seq its n/\its.size<=av/\Vals xs its.toList
noncomputable def jnh:ak->Option V
 |.none=>aa .non
 |.bool b=>aa (.bl b)
 |.int i _=>aa (.int i)
 |.str x _=>aa (.str x)
 |.bytes b _=>aa (.byt b)
 |.float b _=>aa (.flt b)
 |.ref a=>aa (.ref a)
 |.type n=>aa (.ty n)
 |_=>ah
theorem RelV.abs{x:V}{u:ak}(r:RelV x u):jnh u=aa x:=by
 cases x with
 |non=>cases r;rfl
 |bl _=>cases r;rfl
 |int _=>obtain⟨t,rfl⟩:=r;rfl
 |str _=>obtain⟨t,rfl⟩:=r;rfl
 |byt _=>obtain⟨t,rfl⟩:=r;rfl
 |flt _=>obtain⟨t,rfl⟩:=r;rfl
 |ref _=>cases r;rfl
 |ty _=>cases r;rfl
theorem RelV.inj{x y:V}{u:ak}(r:RelV x u)(q:RelV y u):x=y:=aE (r.abs.symm.trans q.abs)
theorem Vals.inj:∀{xs ys:List V}{us:List ak},Vals xs us->Vals ys us->xs=ys
 |_,_,_,.nil,.nil=>rfl
 |_,_,_,.cons r t,.cons r' t'=>by rw[r.inj r',Vals.inj t t']
section
variable{X:Cx}{pins:k7v}{σ:St}{H:Hp}{s:ar}{a:ao}{xs ys:List V}
theorem SqL.of{K:k7t}(h:H a=aa (.lst xs)):SqL K H a xs:=.inl (.inl h)
theorem Inv.list(I:Inv X pins σ H s)(h:SqL X.K H a xs):∃its:List ak,Vals xs its/\PlainL s.heap a its.toArray/\xs.length<=av:=by
 rcases h with h|⟨o,its,n,hk,hc,hd,hs,hz,r⟩
 .obtain⟨z,its,n,r,e⟩:=h.ok I.hok;exact⟨its,r,⟨_,n,e,rfl,rfl,rfl⟩,z⟩
 .refine⟨its.toList,r,⟨o,n,I.kIn a o hk,hc,hd,by simpa using hs⟩,?_⟩;have e:=r.length;simp only[de]at e;omega
theorem Inv.tuple(I:Inv X pins σ H s)(h:SqT X.K H a xs):∃its:List ak,Vals xs its/\iE s.heap a its.toArray/\xs.length<=av:=by
 rcases h with h|⟨o,its,n,hk,hc,hnd,hs,hz,r⟩
 .obtain⟨z,its,r,p,_⟩:=h.ok I.hok;exact⟨its,r,p,z⟩
 .refine⟨its.toList,r,⟨o,I.kIn a o hk,hc,n,by simpa using hs⟩,?_⟩;have e:=r.length;simp only[de]at e;omega
theorem Inv.tupD(I:Inv X pins σ H s)(h:SqT X.K H a xs):V5 s.heap a:=by
 rcases h with h|⟨o,its,n,hk,hc,hnd,hs,hz,r⟩
 .obtain⟨z,its,r,p,q⟩:=h.ok I.hok;exact q
 .intro o' e;rw[I.kIn a o hk]at e;cases e;exact hnd
theorem Inv.list_inj(I:Inv X pins σ H s)(h:SqL X.K H a xs)(h':SqL X.K H a ys):xs=ys:=by
 obtain⟨its,r,⟨o,n,e,_,_,d⟩,_⟩:=I.list h;obtain⟨its',r',⟨o',n',e',_,_,d'⟩,_⟩:=I.list h';rw[e]at e';cases e';rw[d]at d';injection d' with d1 _;have:its=its':=by simpa using congrArg ke d1
 subst this;exact r.inj r'
theorem Inv.tuple_inj(I:Inv X pins σ H s)(h:SqT X.K H a xs)(h':SqT X.K H a ys):xs=ys:=by
 obtain⟨its,r,⟨o,e,_,n,d⟩,_⟩:=I.tuple h;obtain⟨its',r',⟨o',e',_,n',d'⟩,_⟩:=I.tuple h';rw[e]at e';cases e';rw[d]at d';injection d' with d1 _;have:its=its':=by simpa using congrArg ke d1
 subst this;exact r.inj r'
end
noncomputable abbrev Cx.wish(X:Cx)(E:k7u):Cx:={ X with xe:=E }
noncomputable abbrev Cx.nox(X:Cx):Cx:=X.wish λ_ _=>False
theorem Cx.Ok.wish{X:Cx}(ok:X.Ok)(E:k7u):(X.wish E).Ok :=
 ⟨ok.mod,ok.kind,ok.glob,ok.blt,ok.above,ok.inj,ok.has,ok.cab,ok.hd,ok.frames,ok.stk,ok.exf,ok.bs,ok.bsz,ok.noex,ok.exfs,ok.funs,ok.frf⟩
theorem Cx.Ok.unwish{X:Cx}{E:k7u}(ok:(X.wish E).Ok):X.Ok :=
 ⟨ok.mod,ok.kind,ok.glob,ok.blt,ok.above,ok.inj,ok.has,ok.cab,ok.hd,ok.frames,ok.stk,ok.exf,ok.bs,ok.bsz,ok.noex,ok.exfs,ok.funs,ok.frf⟩
section
variable{X:Cx}{pins:k7v}{σ:St}{H:Hp}{s:ar}{E:k7u}
theorem Inv.wish(I:Inv X pins σ H s)(E:k7u):Inv (X.wish E) pins σ H s:=⟨I.ok.wish E,I.os,I.bare,I.base,I.loc,I.cell,I.free,I.freeC,I.pin,I.hok,I.len⟩
theorem Inv.unwish(I:Inv (X.wish E) pins σ H s):Inv X pins σ H s:=⟨I.ok.unwish,I.os,I.bare,I.base,I.loc,I.cell,I.free,I.freeC,I.pin,I.hok,I.len⟩
theorem SP.unwish{D:Ends}{f:Flow}{s':ar}(h:SP (X.wish E) pins D f s'):SP X pins D f s':=by
 cases f with
 |next=>obtain⟨σ',H',I,q⟩:=h;exact⟨σ',H',I.unwish,q⟩
 |brk=>obtain⟨σ',H',I,q⟩:=h;exact⟨σ',H',I.unwish,q⟩
 |cont=>obtain⟨σ',H',I,q⟩:=h;exact⟨σ',H',I.unwish,q⟩
 |ret u=>obtain⟨v,σ',H',H2,I,r,x,q⟩:=h;exact⟨v,σ',H',H2,I.unwish,r,x,q⟩
theorem PSs.nox{st:List aS}{t:TS}(h:PSs X.nox st t):PSs X st t:=λpins s σ H D I hw =>bS (h pins s σ H D (I.wish _) hw) (λ_ _ q=>q.unwish) λ_ _ z=>aU z
end
section
variable{X:Cx}{st:aS}{rest:List aS}{t u:TS}{e:au}{te:TE}{pos:aR}
def jjx:TS:=λD σ H=>D.nx σ H
def jme(t u:TS):TS:=λD σ H=>t { D with nx:=u D } σ H
theorem W5:PSs X [] jjx:=λ_ _ σ H _ I h=>eX ⟨σ,H,I,h⟩
theorem zb(h1:PS X st t)(h2:PSs X rest u):PSs X (st::rest) (jme t u):=by
 intro pins s σ H D I h;refine kO (thn (h1 pins s σ H { D with nx:=u D } I h) λf s1 q=>?_);cases f with
 |next =>obtain⟨σ',H',I',q⟩:=q;exact h2 pins s1 σ' H' D I' q
 |ret v=>exact q
 |brk=>exact q
 |cont=>exact q
theorem W4(h1:PS X st t):PSs X [st] t:=by
 intro pins s σ H D I h;refine kO (thn (h1 pins s σ H D I h) λf s1 q=>?_);cases f with
 |next=>exact eX q
 |ret v=>exact q
 |brk=>exact q
 |cont=>exact q
theorem Inv.quiet{pins:k7v}{σ:St}{H:Hp}{s:ar}(I:Inv X pins σ H s):interactive X.env=ae:=by simp[interactive,I.ok.kind]
def jk0(te:TE):TS:=λD σ H=>te σ H λ_ H1=>D.nx σ H1
theorem Zg(he:PE X e te)(hs:aM e ah pos.line X.env=pure ae:=by rfl):PS X (.Expr e pos) (jk0 te):=by intro pins s σ H D I h;exact wpAny_Expr_any (thn (he pins s σ H _ I h) λv s1 ⟨x,H1,I1,r1,q1⟩=>⟨σ,H1,I1,q1⟩) I.quiet hs
def jmf(te:TE):TS:=λD σ H=>te σ H D.rt
theorem Z3(he:PE X e te):PS X (.Return (aa e) pos) (jmf te):=by intro pins s σ H D I h;exact wpAny_Return_some (thn (he pins s σ H _ I h) λv s1 ⟨x,H1,I1,r1,q1⟩=>⟨x,σ,H1,H1,I1,r1,.refl,q1⟩)
def jmk(c:TT)(t u:TS):TS:=λD σ H=>c σ H λb H1=>if b=af then t D σ H1 else u D σ H1
theorem Ec{c:au}{a b:List aS}{tc:TT}(hc:PT X c tc)(ha:PSs X a t)(hb:PSs X b u):PS X (.If c a b pos) (jmk tc t u):=by
 intro pins s σ H D I h;refine wpAny_If (thn (hc pins s σ H _ I h) λd s1 ⟨H1,I1,q1⟩=>?_);cases d with
 |true=>exact ha pins s1 σ H1 D I1 q1
 |false=>exact hb pins s1 σ H1 D I1 q1
end
abbrev TG:=V->St->Hp->(St->Hp->Prop)->Prop
abbrev TGs:=List V->St->Hp->(St->Hp->Prop)->Prop
def PG(X:Cx)(target:au)(t:TG):Prop :=
 ∀(pins:k7v) (s:ar) (σ:St) (H:Hp) (v:V) (u:ak) (Q:St->Hp->Prop),Inv X pins σ H s->RelV v u->t v σ H Q ->
  ay (aC X.prog X.w) X.A (eV target X.env u) (λ_ s'=>∃σ' H',Inv X pins σ' H' s'/\Q σ' H') X.xe s
def PGs(X:Cx)(ts:List au)(t:TGs):Prop :=
 ∀(pins:k7v) (s:ar) (σ:St) (H:Hp) (vs:List V) (us:List ak) (Q:St->Hp->Prop),Inv X pins σ H s->Vals vs us->t vs σ H Q ->
  ay (aC X.prog X.w) X.A (assignInOrder ((bV ts X.env).map (·.2)) us) (λ_ s'=>∃σ' H',Inv X pins σ' H' s'/\Q σ' H') X.xe s
section
variable{X:Cx}{pos:aR}
def jbl(i:Nat):TG:=λv σ H Q=>Q (σ.set i (aa v)) H
theorem Cy{i:Nat}{x:aq}(hN:X.N.Nodup)(hi:X.N[i]?=aa x)(hx:Loc X.env.scope x)(hf:X.fn x=af\/X.env.scope.names.lookup x=aa .local:=by first|exact .inl rfl|exact .inr rfl|assumption):PG X (.Name x pos) (jbl i):=by intro pins s σ H v u Q I r h;exact kr (j01 I hN hi hx r (λs' I'=>⟨_,H,I',h⟩) hf)
def jna:TGs:=λvs σ H Q=>vs=[]/\Q σ H
def jlf(t:TG)(u:TGs):TGs:=λvs σ H Q=>∃v r,vs=v::r/\t v σ H λσ' H'=>u r σ' H' Q
theorem jd7:PGs X [] jna:=by intro pins s σ H vs us Q I r h;obtain⟨e,h⟩:=h;subst e;cases r;exact assignInOrder_nil ⟨σ,H,I,h⟩
theorem j0c{e:au}{es:List au}{t:TG}{u:TGs}(h1:PG X e t)(h2:PGs X es u)
  (hs:(bV (e::es) X.env).map (·.2)=eV e X.env::(bV es X.env).map (·.2):=by rfl):PGs X (e::es) (jlf t u):=by
 intro pins s σ H vs us Q I r h;obtain⟨v,vr,e1,h⟩:=h;subst e1;cases r with
 |cons r rr =>rw[hs];refine assignInOrder_cons (thn (h1 pins s σ H _ _ _ I r h) λ_ s1 ⟨σ1,H1,I1,q1⟩=>?_);exact h2 pins s1 σ1 H1 _ _ Q I1 rr q1
def jn9(K:k7t)(n:Nat)(t:TGs):TG:=λv σ H Q=>∃a xs,v=.ref a/\SqT K H a xs/\xs.length=n/\t xs σ H Q
theorem jgh{es:List au}{k:Nat}{t:TGs}{n:Nat}(hc:X.calm=af)(h:PGs X es t)
  (hn:(bV es X.env).length=n:=by rfl) (hst:(bV es X.env).findIdx? (·.1)=ah:=by rfl):PG X (.Tuple es k pos) (jn9 X.K n t):=by
 intro pins s σ H v u Q I r hw;obtain⟨a,xs,e1,hq,hl,hw⟩:=hw;subst e1;cases r;obtain⟨its,rv,ht,hz⟩:=I.tuple hq;refine assign_Tuple_tuple (I.ok.hd hc) ht (by simp[hn,<-hl,rv.length]) hst λh' hx=>?_;have I1:Inv X pins σ H { s with heap:=h' }:=I.kept (t':=s.toks) λb o e=>hx b o (Xd (xr e)) e;exact h pins _ σ H xs _ Q I1 (by simpa using rv) hw
def jfj(te:TE)(g:TG):TS:=λD σ H=>te σ H λx H1=>g x σ H1 D.nx
theorem jge{tg e:au}{te:TE}{g:TG}(he:PE X e te)(hg:PG X tg g)(hs:ij [tg] e pos.line X.env=pure ae:=by rfl)(hw:ik [tg] e X.env=pure ah:=by rfl)
  (h1:(bV [tg] X.env).map (·.2)=[eV tg X.env]:=by rfl):PS X (.Assign [tg] e pos) (jfj te g):=by
 intro pins s σ H D I h;refine wpAny_Assign_stores (thn (he pins s σ H _ I h) λv s1 ⟨x,H1,I1,r1,q1⟩=>?_) hs hw;rw[h1];exact thn (hg pins s1 σ H1 x v _ I1 r1 q1) λ_ s2 q=>q
theorem Z2{i:Nat}{x:aq}{e:au}{te:TE}{pos':aR}(hN:X.N.Nodup)(hi:X.N[i]?=aa x)(hx:Loc X.env.scope x)(he:PE X e te)(hs:aM e (aa (.Name x pos')) pos.line X.env=pure ae:=by rfl)(hf:X.fn x=af\/X.env.scope.names.lookup x=aa .local:=by first|exact .inl rfl|exact .inr rfl|assumption) :
  PS X (.Assign [.Name x pos'] e pos) (jfj te (jbl i)):=by
 intro pins s σ H D I h;refine wpAny_Assign_Name (thn (he pins s σ H _ I h) λv s1 ⟨y,H1,I1,r1,q1⟩=>?_) hs;exact j01 I1 hN hi hx r1 (λs2 I2=>⟨_,H1,I2,q1⟩) hf
end
section
variable{X:Cx}{pos:aR}
def jfh(c:TT)(tb:TS):TS:=λD σ H=>∃W:Nat->St->Hp->Prop,(∃m,W m σ H)/\∀m σ H,W m σ H ->
 c σ H λb H1=>if b=af then ∃N:St->Hp->Prop,(∀σ' H',N σ' H'->∃m',m'<m/\W m' σ' H')/\tb { D with nx:=N,ct:=N,bk:=D.nx } σ H1 else D.nx σ H1
theorem j8n{c:au}{body:List aS}{tc:TT}{tb:TS}(hp:fD (aC X.prog X.w) X.A X.env X.xe)(hc:PT X c tc)(hb:PSs X body tb):PS X (.While c body [] pos) (jfh tc tb):=by
 intro pins s σ H D I h;obtain⟨W,⟨m0,w0⟩,turn⟩:=h;refine wpAny_While (codeAny_whileLoop (λn s'=>∃σ' H',Inv X pins σ' H' s'/\W n σ' H') ?_ m0 ⟨σ,H,I,w0⟩);rintro n s1 ⟨σ1,H1,I1,w1⟩;refine cj hp (thn (hc pins s1 σ1 H1 _ I1 (turn n σ1 H1 w1)) λb s2 ⟨H2,I2,q2⟩=>?_);cases b with
 |true =>
  obtain⟨N,hN,q2⟩:=q2;rw[if_pos rfl];refine cj hp (thn (hb pins s2 σ1 H2 _ I2 q2) λf s3 q3=>?_);cases f with
  |next =>obtain⟨σ3,H3,I3,n3⟩:=q3;obtain⟨m',hm,w3⟩:=hN σ3 H3 n3;exact⟨m',hm,σ3,H3,I3,w3⟩
  |cont =>obtain⟨σ3,H3,I3,n3⟩:=q3;obtain⟨m',hm,w3⟩:=hN σ3 H3 n3;exact⟨m',hm,σ3,H3,I3,w3⟩
  |brk=>exact q3
  |ret v=>exact q3
 |false =>rw[if_neg xm];exact eX ⟨σ1,H2,I2,q2⟩
end
structure It where
 go:Nat->Hp->Prop
 yld:Nat->Hp->V->Hp->Prop
 stop:Nat->Hp->Prop
def Z1(X:Cx)(pins:k7v)(H:Hp)(b:ao):Prop :=
 H b=ah/\b≠X.env.locals/\b∉X.fs/\(b∈X.ex\/X.s₀.heap.objs.size<=b)/\(∀x c,X.env.cells.lookup x=aa c->c≠b)/\∀p∈X.pn++pins,p.1≠b
theorem Inv.fpOk{X:Cx}{pins:k7v}{σ:St}{H H':Hp}{s:ar}{b:ao}(I:Inv X pins σ H s)(hb:s.heap.objs.size<=b)(hn:H' b=ah):Z1 X pins H' b:=by
 refine⟨hn,Pg (Xn I.lt hb),I.nofs hb,.inr (Xg I.sz hb),λx c e z=>?_,λp hp z=>?_⟩
 .obtain⟨v,q⟩:=I.cell x c e;exact absurd (Xn q.lt (by rw[z];exact hb)) (Pj _)
 .exact absurd (Xn (xr (I.pin p hp).1) (by rw[z];exact hb)) (Pj _)
structure Turn(P:az)(w:aF)(K:k7t)(tg:au)(J:It)(fp:List ao)(it:ao)(tn:Nat->aH->Prop):Prop where
 mem:it∈fp
 obj:∀i h,tn i h->∀b∈fp,∃o,h.get? b=aa o/\∀v,o.data≠.cell v
 keep:∀i h h',tn i h->(∀b∈fp,∀o,h.get? b=aa o->h'.get? b=aa o)->tn i h'
 item:∀(X:Cx),X.prog=P->X.w=w->X.K=K->X.calm=af->∀(i:Nat)(pins:k7v) (s:ar) (σ:St) (H:Hp) (E:k7u),Inv X pins σ H s->(∀b∈fp,Z1 X pins H b)->tn i s.heap->J.go i H ->
  ay (aC P w) X.A (dS (.ref it)) (λr s1=>∃u,r=aa u /\
   ay (aC P w) X.A (eY tg (.ref it) u) (λ_ s2=>∃x H',Inv X pins σ H' s2/\RelV x u/\J.yld i H x H'/\tn (i+1) s2.heap/\∀b∈fp,H' b=ah) E s1) E s
 done:∀(X:Cx),X.prog=P->X.w=w->X.K=K->X.calm=af->∀(i:Nat)(pins:k7v) (s:ar) (σ:St) (H:Hp) (E:k7u),Inv X pins σ H s->(∀b∈fp,Z1 X pins H b)->tn i s.heap->J.stop i H ->
  ay (aC P w) X.A (dS (.ref it)) (λr s1=>r=ah/\Inv X pins σ H s1) E s
 self:∀(A:aI)(i:Nat)(s:ar)(Q:k7u)(E:k7u),tn i s.heap->Q (.ref it) s->ay (aC P w) A (iQ (.ref it)) Q E s
abbrev TI:=St->Hp->(It->Hp->Prop)->Prop
def PIE(X:Cx)(pins:k7v)(σ:St)(tg:au)(R:It->Hp->Prop)(itv:ak)(s2:ar):Prop :=
 ∃(it:ao)(fp:List ao)(tn:Nat->aH->Prop)(J:It)(H':Hp),itv=.ref it/\Inv X pins σ H' s2/\Turn X.prog X.w X.K tg J fp it tn/\tn 0 s2.heap/\(∀b∈fp,Z1 X pins H' b)/\R J H'
def PI(X:Cx)(tg iter:au)(wi:TI):Prop :=
 ∀(pins:k7v) (s:ar) (σ:St) (H:Hp) (R:It->Hp->Prop),Inv X pins σ H s->wi σ H R ->
  ay (aC X.prog X.w) X.A (aD iter X.env) (λv s1=>ay (aC X.prog X.w) X.A (iQ v) (PIE X pins σ tg R) X.xe s1) X.xe s
theorem Eh{M:jI}{A:aI}{E:k7u}{s:ar}{tg:au}{it:ao}{u:ak}{o:dy}{n:String}{vs:Array ak}{Q:Unit->ar->Prop}(ho:s.heap.get? it=aa o)(hc:o.cls=.type n)(hd:o.data=.fields vs)
  (hn:["enumerate","zip","dict_itemiterator","dict_reverseitemiterator","odict_iterator","itertools.zip_longest","itertools.pairwise"].contains n=ae) (hQ:Q () s):ay M A (eY tg (.ref it) u) Q E s:=by
 unfold eY;cases tg<;>first
  |exact aw hQ
  |(cases u<;>first
    |exact aw hQ
    |(refine ai (wpAny_load ho ?_);rw[hc,hd];show ay M A (if (["enumerate","zip","dict_itemiterator","dict_reverseitemiterator","odict_iterator","itertools.zip_longest","itertools.pairwise"].contains n&&vs[0]?==aa (fj _))=af then _ else _) Q E s;rw[if_neg (by intro h;rw[hn,Bool.false_and]at h;cases h)];exact aw hQ))
noncomputable def Itl(K:k7t)(a:ao):It :=
 ⟨λi H=>∃xs x,SqL K H a xs/\xs[i]?=aa x,λi H x H'=>H'=H/\∀xs,SqL K H a xs->xs[i]?=aa x,λi H=>∃xs,SqL K H a xs/\xs.length<=i⟩
noncomputable def Itt(K:k7t)(a:ao):It :=
 ⟨λi H=>∃xs x,SqT K H a xs/\xs[i]?=aa x,λi H x H'=>H'=H/\∀xs,SqT K H a xs->xs[i]?=aa x,λi H=>∃xs,SqT K H a xs/\xs.length<=i⟩
noncomputable def Itr(lo:Int)(n:Nat):It:=⟨λi _=>i<n,λi H x H'=>H'=H/\x=.int (lo+i),λi _=>n<=i⟩
theorem j4u{P:az}{w:aF}{K:k7t}{tg:au}(a it:ao):Turn P w K tg (Itl K a) [it] it (λi h=>h.IsListIter it a i) where
 mem:=by simp
 obj:=λi h st b hb=>by
  have e:b=it:=by simpa using hb
  subst e;obtain⟨o,e,c,d⟩:=st;exact⟨o,e,λv z=>by rw[d]at z;cases z⟩
 keep:=λi h h' st k=>st.at λo e=>k it (by simp) o e
 item:=by intro X hP hw hK hc i pins s σ H E I hf st hg;subst hP hw hK;obtain⟨xs,x,hq,hx⟩:=hg;obtain⟨its,rv,p,hz⟩:=I.list hq;obtain⟨u,hu,ru⟩:=rv.get hx;obtain⟨f0,f1,f2,f3,f4,f5⟩:=hf it (by simp);refine wpAny_pyNext_list_item st p.isList (x:=u) (by simpa using hu) λh' st' sb=>?_;have I1:Inv X pins σ H { s with heap:=h' }:=I.turned (t':=s.toks) (λb o hb e=>(sb.2 b hb).trans e) f0 f1 f3 f4 f5;obtain⟨o,e,c,d⟩:=id st';exact⟨u,rfl,Eh (s:={ s with heap:=h' }) e c d (by decide) ⟨x,H,I1,ru,⟨rfl,λys hy=>by rw[I.list_inj hy hq];exact hx⟩,st',λb hb=>(hf b hb).1⟩⟩
 done:=by intro X hP hw hK hc i pins s σ H E I hf st hg;subst hP hw hK;obtain⟨xs,hq,hx⟩:=hg;obtain⟨its,rv,p,hz⟩:=I.list hq;obtain⟨f0,f1,f2,f3,f4,f5⟩:=hf it (by simp);have hl:=rv.length;exact wpAny_pyNext_list_end (I.ok.hd hc) st p.isList (by simp;omega) λh' eb=>⟨rfl,I.turned (t':=s.toks) (λb o hb e=>eb b o hb e) f0 f1 f3 f4 f5⟩
 self:=λ_ _ _ _ _ st h=>wpAny_pyIter_listiter st h
theorem j35{P:az}{w:aF}{K:k7t}{tg:au}(a it:ao):Turn P w K tg (Itt K a) [it] it (λi h=>h.IsTupleIter it a i) where
 mem:=by simp
 obj:=λi h st b hb=>by
  have e:b=it:=by simpa using hb
  subst e;obtain⟨o,e,c,d⟩:=st;exact⟨o,e,λv z=>by rw[d]at z;cases z⟩
 keep:=λi h h' st k=>st.at λo e=>k it (by simp) o e
 item:=by intro X hP hw hK hc i pins s σ H E I hf st hg;subst hP hw hK;obtain⟨xs,x,hq,hx⟩:=hg;obtain⟨its,rv,p,hz⟩:=I.tuple hq;obtain⟨u,hu,ru⟩:=rv.get hx;obtain⟨f0,f1,f2,f3,f4,f5⟩:=hf it (by simp);refine wpAny_pyNext_tuple_item st (show s.heap.IsTuple a its.toArray from p) (x:=u) (by simpa using hu) λh' st' sb=>?_;have I1:Inv X pins σ H { s with heap:=h' }:=I.turned (t':=s.toks) (λb o hb e=>(sb.2 b hb).trans e) f0 f1 f3 f4 f5;obtain⟨o,e,c,d⟩:=id st';exact⟨u,rfl,Eh (s:={ s with heap:=h' }) e c d (by decide) ⟨x,H,I1,ru,⟨rfl,λys hy=>by rw[I.tuple_inj hy hq];exact hx⟩,st',λb hb=>(hf b hb).1⟩⟩
 done:=by intro X hP hw hK hc i pins s σ H E I hf st hg;subst hP hw hK;obtain⟨xs,hq,hx⟩:=hg;obtain⟨its,rv,p,hz⟩:=I.tuple hq;obtain⟨f0,f1,f2,f3,f4,f5⟩:=hf it (by simp);have hl:=rv.length;exact wpAny_pyNext_tuple_end (I.ok.hd hc) st (show s.heap.IsTuple a its.toArray from p) (by simp;omega) λh' eb=>⟨rfl,I.turned (t':=s.toks) (λb o hb e=>eb b o hb e) f0 f1 f3 f4 f5⟩
 self:=λ_ _ _ _ _ st h=>wpAny_pyIter_tupleiter st h
theorem j36{P:az}{w:aF}{K:k7t}{tg:au}(it:ao)(lo:Int)(n:Nat):Turn P w K tg (Itr lo n) [it] it (λi h=>IsRangeIter h it (lo+(i:Nat)*1) ((n:Int)-(i:Nat)) 1) where
 mem:=by simp
 obj:=λi h st b hb=>by
  have e:b=it:=by simpa using hb
  subst e;exact⟨_,st,λv z=>by
   have z':Data.fields _=Data.cell v:=z
   cases z'⟩
 keep:=λi h h' st k=>k it (by simp) _ st
 item:=by intro X hP hw hK hc i pins s σ H E I hf st hg;subst hP hw hK;obtain⟨f0,f1,f2,f3,f4,f5⟩:=hf it (by simp);have W:=Walks.range (prog:=X.prog) (w:=X.w) (I.ok.hd hc) it lo 1 n;refine W.item i s _ _ hg st λv h' tk hv st' kk=>?_;obtain⟨t,rfl⟩:=hv;have I1:Inv X pins σ H { s with heap:=h',toks:=tk }:=I.turned (λb o hb e=>kk b o (by simpa using hb) e) f0 f1 f3 f4 f5;refine⟨_,rfl,Eh (s:={ s with heap:=h',toks:=tk }) (n:="range_iterator") st' rfl rfl (by decide) ⟨.int (lo+i),H,I1,⟨t,?_⟩,⟨rfl,rfl⟩,st',λb hb=>(hf b hb).1⟩⟩;rw[lL]
 done:=by intro X hP hw hK hc i pins s σ H E I hf st hg;subst hP hw hK;obtain⟨f0,f1,f2,f3,f4,f5⟩:=hf it (by simp);exact wpAny_pyNext_range_end (I.ok.hd hc) st (by have:n<=i:=hg;omega) λh' eb=>⟨rfl,I.turned (t':=s.toks) (λb o hb e=>eb b o hb e) f0 f1 f3 f4 f5⟩
 self:=λ_ _ _ _ _ st h=>wpAny_pyIter_rangeiter st h
section
variable{X:Cx}{tg:au}
def jld(K:k7t)(tl:TE):TI:=λσ H R=>tl σ H λx H1=>∃a,x=.ref a/\(∃xs,SqL K H1 a xs)/\R (Itl K a) H1
def jn7(K:k7t)(tl:TE):TI:=λσ H R=>tl σ H λx H1=>∃a,x=.ref a/\(∃xs,SqT K H1 a xs)/\R (Itt K a) H1
theorem jd6{l:au}{tl:TE}(hl:PE X l tl):PI X tg l (jld X.K tl):=by
 intro pins s σ H R I h;refine thn (hl pins s σ H _ I h) λv s1 ⟨x,H1,I1,r1,q1⟩=>?_;obtain⟨a,e,⟨xs,hq⟩,q⟩:=q1;subst e;cases r1;obtain⟨its,rv,p,hz⟩:=I1.list hq;refine cy p.isList ?_;refine⟨s1.heap.objs.size,[s1.heap.objs.size],_,_,H1,rfl,I1.kept (t':=s1.toks) λb o e=>km _ e,j4u a _,⟨_,X3 _ rfl,rfl,rfl⟩,λb hb=>?_,q⟩;have e:b=s1.heap.objs.size:=by simpa using hb
 subst e;exact I1.fpOk (X7 _) (I1.hok.fresh (X7 _))
theorem jgg{l:au}{tl:TE}(hl:PE X l tl):PI X tg l (jn7 X.K tl):=by
 intro pins s σ H R I h;refine thn (hl pins s σ H _ I h) λv s1 ⟨x,H1,I1,r1,q1⟩=>?_;obtain⟨a,e,⟨xs,hq⟩,q⟩:=q1;subst e;cases r1;obtain⟨its,rv,p,hz⟩:=I1.tuple hq;refine fW (show s1.heap.IsTuple a its.toArray from p) ?_;refine⟨s1.heap.objs.size,[s1.heap.objs.size],_,_,H1,rfl,I1.kept (t':=s1.toks) λb o e=>km _ e,j35 a _,⟨_,X3 _ rfl,rfl,rfl⟩,λb hb=>?_,q⟩;have e:b=s1.heap.objs.size:=by simpa using hb
 subst e;exact I1.fpOk (X7 _) (I1.hok.fresh (X7 _))
theorem j0a{pins:k7v}{σ:St}{H:Hp}{s:ar}{R:It->Hp->Prop}{E:k7u}{lo hi:Int}{t u v:dH}{tk:Nat}(I:Inv X pins σ H s)(h1:-(2^62)<=lo)(h2:lo<2^62)(h3:-(2^62)<=hi)(h4:hi<2^62)
  (q:R (Itr lo (hi-lo).toNat) H):ay (aC X.prog X.w) X.A (iQ (.ref s.heap.objs.size)) (PIE X pins σ tg R) E { s with heap:=s.heap.push { cls:=.type "range",data:=.fields #[.int lo t,.int hi u,.int 1 v] },toks:=tk }:=by
 refine wpAny_pyIter_range (IsRange.new ..) (small_one h1 h2 h3 h4) ?_;have I1:Inv X pins σ H { s with heap:=s.heap.push { cls:=.type "range",data:=.fields #[.int lo t,.int hi u,.int 1 v] },toks:=tk }:=I.kept λb o e=>km _ e;refine⟨(s.heap.push { cls:=.type "range",data:=.fields #[.int lo t,.int hi u,.int 1 v] }).objs.size,[(s.heap.push { cls:=.type "range",data:=.fields #[.int lo t,.int hi u,.int 1 v] }).objs.size],_,_,H,rfl,
  I1.kept (t':=tk) λb o e=>km _ e,j36 _ lo (hi-lo).toNat,?_,λb hb=>?_,q⟩
 .have e1:lo+((0:Nat):Int)*1=lo:=by simp
  have e2:(((hi-lo).toNat:Nat):Int)-((0:Nat):Int)=Builtin.Range.rangeSize lo hi 1:=by rw[rangeSize_one];split<;>omega
  show IsRangeIter _ _ (lo+((0:Nat):Int)*1) ((((hi-lo).toNat:Nat):Int)-((0:Nat):Int)) 1;rw[e1,e2];exact X3 _ rfl
 .have e:b=(s.heap.push { cls:=.type "range",data:=.fields #[.int lo t,.int hi u,.int 1 v] }).objs.size:=by simpa using hb
  subst e;exact I1.fpOk (X7 _) (I1.hok.fresh (X7 _))
def jlc(ta:TA):TI:=λσ H R=>ta σ H λvs H1=>∃j:Int,vs=[.int j]/\-(2^62)<=j/\j<2^62/\R (Itr 0 j.toNat) H1
def jlb(ta:TA):TI:=λσ H R=>ta σ H λvs H1=>∃i j:Int,vs=[.int i,.int j]/\(-(2^62)<=i/\i<2^62/\-(2^62)<=j/\j<2^62)/\R (Itr i (j-i).toNat) H1
theorem j5l {a:au} {ta:TA} {p pos:aR} (hg:Gl X "range") (hm:X.mg "range" = ah) (ha:PA X [a] ta) (hs:aj [a] X.env=[(ae,aD a X.env)]:=by rfl):PI X tg (.Call (.Name "range" p) [a] [] pos) (jlc ta):=by
 intro pins s σ H R I h;refine iF (Jb I hg hm boot_range (callWith_type1 (thn (ha pos pins s σ H _ I h) λus s1 ⟨vs,H1,I1,r1,q1⟩=>?_) hs rfl));obtain⟨j,e,q1,q2,q⟩:=q1;subst e;cases r1 with
 |cons r rr =>cases rr;obtain⟨t,rfl⟩:=r;exact call_range_1 (j0a I1 nofun nofun q1 q2 (by simpa using q))
theorem j5k {a b:au} {ta:TA} {p pos:aR} (hg:Gl X "range") (hm:X.mg "range" = ah) (ha:PA X [a,b] ta) (hs:aj [a,b] X.env=[(ae,aD a X.env),(ae,aD b X.env)]:=by rfl) (hs2:aj [b] X.env=[(ae,aD b X.env)]:=by rfl) :
  PI X tg (.Call (.Name "range" p) [a,b] [] pos) (jlb ta):=by
 intro pins s σ H R I h;refine iF (Jb I hg hm boot_range (callWith_type1 (thn (ha pos pins s σ H _ I h) λus s1 ⟨vs,H1,I1,r1,q1⟩=>?_) (by rw[hs,hs2]) (by rw[hs2];rfl)));obtain⟨i,j,e,⟨q1,q2,q3,q4⟩,q⟩:=q1;subst e;cases r1 with
 |cons r rr =>
  cases rr with
  |cons r' rr =>cases rr;obtain⟨t,rfl⟩:=r;obtain⟨t',rfl⟩:=r';exact call_range_2 (j0a I1 q1 q2 q3 q4 q)
def jml(wi:TI)(g:TG)(tb:TS):TS:=λD σ H=>wi σ H λJ H1=>∃W:Nat->Nat->St->Hp->Prop,(∃m,W 0 m σ H1)/\∀i m σ H,W i m σ H ->
 (J.stop i H/\D.nx σ H)\/(J.go i H/\∃N:St->Hp->Prop,(∀σ' H',N σ' H'->∃m',m'<m/\W (i+1) m' σ' H')/\∀x H',J.yld i H x H'->g x σ H' λσ2 H2=>tb { D with nx:=N,ct:=N,bk:=D.nx } σ2 H2)
noncomputable def Yt(fp:List ao)(h:aH):List (ao×dy):=fp.filterMap λb=>(h.get? b).map λo=>(b,o)
theorem Zq{fp:List ao}{h:aH}{b:ao}{o:dy}(hb:b∈fp)(e:h.get? b=aa o):(b,o)∈Yt fp h:=T8.mpr ⟨b,hb,by rw[e];rfl⟩
theorem Km{fp:List ao}{h:aH}{p:ao×dy}(hp:p∈Yt fp h):p.1∈fp/\h.get? p.1=aa p.2:=by
 obtain⟨b,hb,e⟩:=T8.mp hp;cases q:h.get? b with
 |none=>rw[q]at e;cases e
 |some o =>rw[q]at e;have e':(b,o)=p:=aE e;subst e';exact⟨hb,q⟩
theorem Inv.pinned{pins:k7v}{σ:St}{H:Hp}{s:ar}{fp:List ao}(I:Inv X pins σ H s)(hf:∀b∈fp,Z1 X pins H b)(ho:∀b∈fp,∃o,s.heap.get? b=aa o/\∀v,o.data≠.cell v):Inv X (pins++Yt fp s.heap) σ H s :=
 I.pins_of λp hp=>(Pn.mp hp).elim (λz=>I.pin p (Xm _ z)) λz=>by obtain⟨hb,e⟩:=Km z;obtain⟨f0,f1,f2,_⟩:=hf p.1 hb;obtain⟨o,e',d⟩:=ho p.1 hb;rw[e]at e';cases e';exact⟨e,f0,f1,f2,d⟩
theorem Inv.unpinned{pins pl:k7v}{σ:St}{H:Hp}{s:ar}(I:Inv X (pins++pl) σ H s):Inv X pins σ H s:=I.pins_of λp hp=>I.pin p (Xm _ (cZ _ hp))
theorem jgd{iter:au}{body:List aS}{wi:TI}{g:TG}{tb:TS}{pos:aR}(hp:fD (aC X.prog X.w) X.A X.env X.xe)(hc:X.calm=af)(hi:PI X tg iter wi)(hg:PG X tg g)(hb:PSs X body tb)
  (hs:∀x,aV iter X.env x=pure x:=by intro _;rfl):PS X (.For tg iter body [] pos) (jml wi g tb):=by
 intro pins s σ H D I h;refine wpAny_For (thn (hi pins s σ H _ I h) λv s1 h1=>thn h1 λitv s2 h2=>?_) hs;obtain⟨it,fp,tn,J,H2,e,I2,T,st2,f2,W,⟨m0,w0⟩,turn⟩:=h2;subst e;have stat:∀{H':Hp},(∀b∈fp,H' b=ah)->∀b∈fp,Z1 X pins H' b:=λhn b hb=>⟨hn b hb,(f2 b hb).2⟩
 refine codeAny_forLoop_any (λn s'=>∃i σ' H',Inv X pins σ' H' s'/\tn i s'.heap/\(∀b∈fp,H' b=ah)/\W i n σ' H') ?_ m0 ⟨0,σ,H2,I2,st2,λb hb=>(f2 b hb).1,w0⟩;rintro n s3 ⟨i,σ3,H3,I3,st3,fr3,w3⟩;rcases turn i n σ3 H3 w3 with ⟨stop,qn⟩|⟨go,N,hN,step⟩
 .refine cj hp (thn (T.done X rfl rfl rfl hc i pins s3 σ3 H3 X.xe I3 (stat fr3) st3 stop) λr s4 ⟨hr,I4⟩=>?_);subst hr;exact eX ⟨σ3,H3,I4,qn⟩
 .refine cj hp (thn (T.item X rfl rfl rfl hc i pins s3 σ3 H3 X.xe I3 (stat fr3) st3 go) λr s4 ⟨u,hr,h4⟩=>?_);subst hr;refine cj hp (thn h4 λ_ s5 ⟨x,H5,I5,r5,y5,st5,fr5⟩=>?_);have I5':=I5.pinned (stat fr5) (T.obj _ _ st5);refine cj hp (thn (hg _ s5 σ3 H5 x u _ I5' r5 (step x H5 y5)) λ_ s6 ⟨σ6,H6,I6,q6⟩=>?_);refine cj hp (thn (hb _ s6 σ6 H6 _ I6 q6) λf s7 q7=>?_);have ky:∀{σ7:St}{H7:Hp},Inv X (pins++Yt fp s5.heap) σ7 H7 s7->N σ7 H7->∃m,m<n/\∃i σ' H',Inv X pins σ' H' s7/\tn i s7.heap/\(∀b∈fp,H' b=ah)/\W i m σ' H':=λ{σ7 H7} I7 n7=>by obtain⟨m',hm,w7⟩:=hN σ7 H7 n7;refine⟨m',hm,i+1,σ7,H7,I7.unpinned,T.keep _ _ _ st5 λb hb o e=>(I7.pin (b,o) (Xm _ (Xm _ (Zq hb e)))).1,λb hb=>?_,w7⟩;obtain⟨o,e,d⟩:=T.obj _ _ st5 b hb;exact(I7.pin (b,o) (Xm _ (Xm _ (Zq hb e)))).2.1
  cases f with
  |next=>obtain⟨σ7,H7,I7,n7⟩:=q7;exact ky I7 n7
  |cont=>obtain⟨σ7,H7,I7,n7⟩:=q7;exact ky I7 n7
  |brk=>obtain⟨σ7,H7,I7,q7⟩:=q7;exact⟨σ7,H7,I7.unpinned,q7⟩
  |ret v=>obtain⟨x7,σ7,H7,H8,I7,r7,x8,q7⟩:=q7;exact⟨x7,σ7,H7,H8,I7.unpinned,r7,x8,q7⟩
end
abbrev R2:=V->V->Hp->VK->Prop
def OpR(X:Cx)(f:ak->ak->lG ak)(r:R2):Prop :=
 ∀(pins:k7v) (s:ar) (σ:St) (H:Hp) (x y:V) (v u:ak) (Q:VK),Inv X pins σ H s->RelV x v->RelV y u->r x y H Q ->
  ay (aC X.prog X.w) X.A (f v u) (EP X pins σ Q) X.xe s
def Jy(X:Cx)(f:ak)(r:List V->Hp->VK->Prop):Prop :=
 ∀(pins:k7v) (s:ar) (σ:St) (H:Hp) (xs:List V) (us:List ak) (Q:VK),Inv X pins σ H s->Vals xs us->r xs H Q ->
  ay (aC X.prog X.w) X.A (call f us) (EP X pins σ Q) X.xe s
def tOp(r:R2)(ta tb:TE):TE:=λσ H Q=>ta σ H λx H1=>tb σ H1 λy H2=>r x y H2 Q
def rI(C:Int->Int->Prop)(g:Int->Int->V):R2:=λx y H Q=>∃i j,x=.int i/\y=.int j/\C i j/\Q (g i j) H
def rI0(g:Int->Int->V):R2:=λx y H Q=>∃i j,x=.int i/\y=.int j/\Q (g i j) H
section
variable{X:Cx}{a b c:au}{ta tb tc:TE}{pos:aR}
theorem jal(ha:PE X a ta)(hb:PE X b tb){pins:k7v}{s:ar}{σ:St}{H:Hp}{R:V->V->Hp->Prop}(I:Inv X pins σ H s)
  (h:ta σ H λx H1=>tb σ H1 λy H2=>R x y H2) {Q:k7u} {f:ak->ak->lG ak}
  (hf:∀v u s2 x y H2,Inv X pins σ H2 s2->RelV x v->RelV y u->R x y H2->ay (aC X.prog X.w) X.A (f v u) Q X.xe s2) :
  ay (aC X.prog X.w) X.A (aD a X.env) (λv s₁=>ay (aC X.prog X.w) X.A (aD b X.env) (λu s₂=>ay (aC X.prog X.w) X.A (f v u) Q X.xe s₂) X.xe s₁) X.xe s:=by
 refine thn (ha pins s σ H _ I h) λv s1 ⟨x,H1,I1,r1,q1⟩=>?_;refine thn (hb pins s1 σ H1 _ I1 q1) λu s2 ⟨y,H2,I2,r2,q2⟩=>?_;exact hf v u s2 x y H2 I2 r1 r2 q2
theorem Yb{op:jH}{r:R2}(ho:OpR X (bj op) r)(ha:PE X a ta)(hb:PE X b tb):PE X (.BinOp a op b pos) (tOp r ta tb):=by intro pins s σ H Q I h;exact wpAny_BinOp (jal ha hb I h λv u s2 x y H2 I2 rx ry q=>ho pins s2 σ H2 x y v u Q I2 rx ry q)
theorem opI{f:ak->ak->lG ak}{C:Int->Int->Prop}{g:Int->Int->Int}
  (rule:∀(i j:Int)(t u:dH)(s:ar)(Q:k7u)(E:k7u),C i j->Q (.int (g i j) s.toks) { s with toks:=s.toks+1 }->ay (aC X.prog X.w) X.A (f (.int i t) (.int j u)) Q E s) :
  OpR X f (rI C λi j=>.int (g i j)):=by
 intro pins s σ H x y v u Q I rx ry h;obtain⟨i,j,rfl,rfl,hc,q⟩:=h;obtain⟨t,rfl⟩:=rx;obtain⟨t',rfl⟩:=ry;exact rule i j t t' s _ _ hc ⟨.int (g i j),H,I.tok _,⟨_,rfl⟩,q⟩
theorem j3u{f:ak->ak->lG ak}{g:Int->Int->Int}
  (rule:∀(i j:Int)(t u:dH)(s:ar)(Q:k7u)(E:k7u),Q (.int (g i j) s.toks) { s with toks:=s.toks+1 }->ay (aC X.prog X.w) X.A (f (.int i t) (.int j u)) Q E s) :
  OpR X f (rI0 λi j=>.int (g i j)):=by
 intro pins s σ H x y v u Q I rx ry h;obtain⟨i,j,rfl,rfl,q⟩:=h;obtain⟨t,rfl⟩:=rx;obtain⟨t',rfl⟩:=ry;exact rule i j t t' s _ _ ⟨.int (g i j),H,I.tok _,⟨_,rfl⟩,q⟩
theorem j3v{f:ak->ak->lG ak}{g:Int->Int->Bool}
  (rule:∀(i j:Int)(t u:dH)(s:ar)(Q:k7u)(E:k7u),Q (.bool (g i j)) s->ay (aC X.prog X.w) X.A (f (.int i t) (.int j u)) Q E s) :
  OpR X f (rI0 λi j=>.bl (g i j)):=by
 intro pins s σ H x y v u Q I rx ry h;obtain⟨i,j,rfl,rfl,q⟩:=h;obtain⟨t,rfl⟩:=rx;obtain⟨t',rfl⟩:=ry;exact rule i j t t' s _ _ ⟨.bl (g i j),H,I,rfl,q⟩
def j4n(i j:Int):Prop:=0<=j/\j<=1000000/\i.natAbs<2^64
def j4o(i j:Int):Prop:=(-(2^64)<i/\i<2^64)\/(-(2^64)<j/\j<2^64)
theorem j4o.ok{i j:Int}(h:j4o i j):IntMulOk i j:=by
 rcases h with ⟨h1,h2⟩|⟨h1,h2⟩
 .exact .of_left (m9 h1 h2)
 .exact .of_right (m9 h1 h2)
theorem j34(k:Nat):(0:Int)<=2^k:=by rw[two_pow_cast];exact fB _
theorem j5s:OpR X (bj .Add) (rI0 λi j=>.int (i+j)):=j3u λ_ _ _ _ _ _ _ q=>add_int q
theorem jgn:OpR X (bj .Sub) (rI0 λi j=>.int (i-j)):=j3u λ_ _ _ _ _ _ _ q=>sub_int q
theorem jgs:OpR X (bj .Mult) (rI j4o λi j=>.int (i*j)):=opI λ_ _ _ _ _ _ _ hc q=>mul_int q hc.ok
theorem jgt:OpR X (bj .Mod) (rI (λ_ j=>0<j) λi j=>.int (i%j)):=opI λi j _ _ _ _ _ hc q=>by have h1:(0:Int)<j:=hc;exact mod_int' nofun (by rw[Int.fmod_eq_emod_of_nonneg i nofun];exact q)
theorem jgr:OpR X (bj .Pow) (rI j4n λi j=>.int (i^j.toNat)):=opI λ_ _ _ _ _ _ _ hc q=>pow_int_small hc.1 hc.2.1 hc.2.2 q
theorem jgp:OpR X (bj .LShift) (rI j4n λi j=>.int (i*2^j.toNat)):=opI λ_ _ _ _ _ _ _ hc q=>lshift_int_small hc.1 hc.2.1 hc.2.2 q
theorem jgo:OpR X (bj .RShift) (rI (λ_ j=>0<=j) λi j=>.int (i/2^j.toNat)):=opI λi j _ _ _ _ _ hc q =>rshift_int hc (by rw[gB i (j34 _)];exact q)
theorem jgu:OpR X (bj .BitAnd) (rI0 λi j=>.int (Builtin.bitAnd i j)):=j3u λ_ _ _ _ _ _ _ q=>and_int q
theorem jgm:OpR X (bj .BitXor) (rI0 λi j=>.int (Builtin.bitXor i j)):=j3u λ_ _ _ _ _ _ _ q=>xor_int q
end
noncomputable def Cq:V->V->Bool
 |.non,.non=>af|.non,.int _=>af|.int _,.non=>af|.non,.bl _=>af|.bl _,.non=>af|.non,.str _=>af|.str _,.non=>af
 |.int _,.int _=>af|.bl _,.bl _=>af|.str _,.str _=>af|.byt _,.byt _=>af
 |.int _,.str _=>af|.str _,.int _=>af|.bl _,.str _=>af|.str _,.bl _=>af
 |_,_=>ae
def rEq:R2:=λx y H Q=>Cq x y=af/\Q (.bl (decide (x=y))) H
def rNe:R2:=λx y H Q=>Cq x y=af/\Q (.bl (!decide (x=y))) H
theorem j2w{i j:Int}:decide (V.int i=V.int j)=(i==j):=by rw[d9];simp
theorem j6r{i j:Bool}:decide (V.bl i=V.bl j)=(i==j):=by rw[d9];simp
theorem j2v{i j:aq}:decide (V.str i=V.str j)=(i==j):=by rw[d9];simp
theorem j2x{i j:Array UInt8}:decide (V.byt i=V.byt j)=(i.toList==j.toList):=by rw[d9];cases i;cases j;simp
section
variable{X:Cx}{a b c:au}{ta tb tc:TE}{pos:aR}
theorem qj{pins:k7v}{σ:St}{H:Hp}{s:ar}{Q:VK}{k k':Bool}(I:Inv X pins σ H s)(q:Q (.bl k) H)(e:k=k'):EP X pins σ Q (.bool k') s:=by subst e;exact⟨.bl k,H,I,rfl,q⟩
theorem jba:OpR X (bo .Eq) rEq:=by
 intro pins s σ H x y v u Q I rx ry h;obtain⟨hs,q⟩:=h;cases x with
 |non =>
  cases rx;cases y with
  |non=>cases ry;exact lr (qj I q (by simp))
  |bl j=>cases ry;exact lz (qj I q (by simp))
  |int j=>obtain⟨t',rfl⟩:=ry;exact ly (qj I q (by simp))
  |str j=>obtain⟨t',rfl⟩:=ry;exact lq (qj I q (by simp))
  |_=>exact absurd (show ae=af from hs) xm
 |bl i =>
  cases rx;cases y with
  |non=>cases ry;exact lB (qj I q (by simp))
  |bl j=>cases ry;exact eq_bool (qj I q j6r)
  |str j=>obtain⟨t',rfl⟩:=ry;exact kJ (qj I q (by simp))
  |_=>exact absurd (show ae=af from hs) xm
 |int i =>
  obtain⟨t,rfl⟩:=rx;cases y with
  |non=>cases ry;exact lA (qj I q (by simp))
  |int j=>obtain⟨t',rfl⟩:=ry;exact eq_int (qj I q j2w)
  |str j=>obtain⟨t',rfl⟩:=ry;exact kI (qj I q (by simp))
  |_=>exact absurd (show ae=af from hs) xm
 |str i =>
  obtain⟨t,rfl⟩:=rx;cases y with
  |non=>cases ry;exact lj (qj I q (by simp))
  |bl j=>cases ry;exact kH (qj I q (by simp))
  |int j=>obtain⟨t',rfl⟩:=ry;exact kF (qj I q (by simp))
  |str j=>obtain⟨t',rfl⟩:=ry;exact eq_str (qj I q j2v)
  |_=>exact absurd (show ae=af from hs) xm
 |byt i =>
  obtain⟨t,rfl⟩:=rx;cases y with
  |byt j=>obtain⟨t',rfl⟩:=ry;exact W.eq_bytes (qj I q j2x)
  |_=>exact absurd (show ae=af from hs) xm
 |_=>cases y<;>exact absurd (show ae=af from hs) xm
theorem j3p:OpR X (bo .NotEq) rNe:=by
 intro pins s σ H x y v u Q I rx ry h;obtain⟨hs,q⟩:=h;cases x with
 |non =>
  cases rx;cases y with
  |non=>cases ry;exact kY (qj I q (by simp))
  |bl j=>cases ry;exact l0 (qj I q (by simp))
  |int j=>obtain⟨t',rfl⟩:=ry;exact kZ (qj I q (by simp))
  |str j=>obtain⟨t',rfl⟩:=ry;exact kX (qj I q (by simp))
  |_=>exact absurd (show ae=af from hs) xm
 |bl i =>
  cases rx;cases y with
  |non=>cases ry;exact lh (qj I q (by simp))
  |bl j=>cases ry;exact ne_bool (qj I q (congrArg not j6r))
  |str j=>obtain⟨t',rfl⟩:=ry;exact kE (qj I q (by simp))
  |_=>exact absurd (show ae=af from hs) xm
 |int i =>
  obtain⟨t,rfl⟩:=rx;cases y with
  |non=>cases ry;exact l9 (qj I q (by simp))
  |int j=>obtain⟨t',rfl⟩:=ry;exact ne_int (qj I q (congrArg not j2w))
  |str j=>obtain⟨t',rfl⟩:=ry;exact kD (qj I q (by simp))
  |_=>exact absurd (show ae=af from hs) xm
 |str i =>
  obtain⟨t,rfl⟩:=rx;cases y with
  |non=>cases ry;exact kW (qj I q (by simp))
  |bl j=>cases ry;exact kC (qj I q (by simp))
  |int j=>obtain⟨t',rfl⟩:=ry;exact kB (qj I q (by simp))
  |str j=>obtain⟨t',rfl⟩:=ry;exact ne_str (qj I q (congrArg not j2v))
  |_=>exact absurd (show ae=af from hs) xm
 |byt i =>
  obtain⟨t,rfl⟩:=rx;cases y with
  |byt j=>obtain⟨t',rfl⟩:=ry;exact W.ne_bytes (qj I q (congrArg not j2x))
  |_=>exact absurd (show ae=af from hs) xm
 |_=>cases y<;>exact absurd (show ae=af from hs) xm
theorem j3r:OpR X (bo .Lt) (rI0 λi j=>.bl (decide (i<j))):=j3v λ_ _ _ _ _ _ _ q=>lt_int q
theorem jb8:OpR X (bo .LtE) (rI0 λi j=>.bl (decide (i<=j))):=j3v λ_ _ _ _ _ _ _ q=>le_int q
theorem jb9:OpR X (bo .Gt) (rI0 λi j=>.bl (decide (j<i))):=j3v λ_ _ _ _ _ _ _ q=>gt_int q
theorem j3s:OpR X (bo .GtE) (rI0 λi j=>.bl (decide (j<=i))):=j3v λ_ _ _ _ _ _ _ q=>ge_int q
theorem Kg:OpR X (bo .Lt) (λx y H Q=>∃i j,x=.str i/\y=.str j/\Q (.bl (decide (i.cps.toList<j.cps.toList))) H):=by intro pins s σ H x y v u Q I rx ry h;obtain⟨i,j,rfl,rfl,q⟩:=h;obtain⟨t,rfl⟩:=rx;obtain⟨t',rfl⟩:=ry;exact lt_str (qj I q rfl)
theorem Kh:OpR X (bo .In) (λx y H Q=>∃i j,x=.str i/\y=.str j/\Q (.bl (!(bD j i 0 j.length 1).isEmpty)) H):=by intro pins s σ H x y v u Q I rx ry h;obtain⟨i,j,rfl,rfl,q⟩:=h;obtain⟨t,rfl⟩:=rx;obtain⟨t',rfl⟩:=ry;exact in_str (qj I q rfl)
theorem zx(b:au){op:gH}(h:op≠.In:=by decide)(h2:op≠.NotIn:=by decide):aP op b=ae:=by
 have e1:(op==CmpOp.In)=ae:=by cases op<;>first|rfl|exact absurd rfl h
 have e2:(op==CmpOp.NotIn)=ae:=by cases op<;>first|rfl|exact absurd rfl h2
 cases b<;>simp[aP,e1,e2]
theorem Jz{op:gH}{r:R2}(ho:OpR X (bo op) r)(ha:PE X a ta)(hb:PE X b tb)(hm:aP op b=ae):PE X (.Compare a [op] [b] pos) (tOp r ta tb):=by intro pins s σ H Q I h;exact lT (jal ha hb I h λv u s2 x y H2 I2 rx ry q=>ho pins s2 σ H2 x y v u Q I2 rx ry q) hm
def jjv(t:TE):TT:=λσ H Q=>t σ H λx H'=>∃k,x=.bl k/\Q k H'
theorem Jg{op:gH}{r:R2}(ho:OpR X (bo op) r)(ha:PE X a ta)(hb:PE X b tb)(hm:aP op b=ae):PT X (.Compare a [op] [b] pos) (jjv (tOp r ta tb)):=by
 intro pins s σ H Q I h;refine iY (thn (ha pins s σ H _ I h) λv s1 ⟨x,H1,I1,r1,q1⟩=>thn (hb pins s1 σ H1 _ I1 q1) λu s2 ⟨y,H2,I2,r2,q2⟩ =>
  thn (ho pins s2 σ H2 x y v u _ I2 r1 r2 q2) λc s3 ⟨z,H3,I3,r3,k,e,q3⟩=>?_) hm
 subst e;cases r3;exact bM ⟨H3,I3,q3⟩
theorem Mp:(av:Nat)<2^63:=by rw[cn];decide
theorem j3t:OpR X (bj .Add) (λx y H Q=>∃i j,x=.str i/\y=.str j/\i.length+j.length<=av/\Q (.str (i++j)) H):=by intro pins s σ H x y v u Q I rx ry h;obtain⟨i,j,rfl,rfl,hz,q⟩:=h;obtain⟨t,rfl⟩:=rx;obtain⟨t',rfl⟩:=ry;exact add_str (λt' tk=>⟨.str (i++j),H,I.tok _,⟨_,rfl⟩,q⟩) hz
theorem vals1{x:V}{us:List ak}(r:Vals [x] us):∃u,us=[u]/\RelV x u:=by
 cases r with
 |cons r1 r2=>cases r2;exact⟨_,rfl,r1⟩
theorem vals2{x y:V}{us:List ak}(r:Vals [x,y] us):∃u w',us=[u,w']/\RelV x u/\RelV y w':=by
 cases r with
 |cons r1 r2 =>
  cases r2 with
  |cons r3 r4=>cases r4;exact⟨_,_,rfl,r1,r3⟩
theorem j7b (hc:X.calm=af):Jy X (.builtin "max") (λxs H Q=>∃i j,xs=[.int i,.int j]/\Q (.int (if j>i then j else i)) H):=by
 intro pins s σ H xs us Q I r h;obtain⟨i,j,rfl,q⟩:=h;obtain⟨u,w',rfl,⟨t,rfl⟩,⟨t',rfl⟩⟩:=vals2 r;refine max_two_ints (I.ok.hd hc) λh' tk k=>⟨_,H,I.kept k,?_,q⟩
 by_cases hj:j>i
 .rw[if_pos hj,if_pos hj];exact⟨_,rfl⟩
 .rw[if_neg hj,if_neg hj];exact⟨_,rfl⟩
theorem j79 (hc:X.calm=af):Jy X (.builtin "min") (λxs H Q=>∃i j,xs=[.int i,.int j]/\Q (.int (if j<i then j else i)) H):=by
 intro pins s σ H xs us Q I r h;obtain⟨i,j,rfl,q⟩:=h;obtain⟨u,w',rfl,⟨t,rfl⟩,⟨t',rfl⟩⟩:=vals2 r;refine min_two_ints (I.ok.hd hc) λh' tk k=>⟨_,H,I.kept k,?_,q⟩
 by_cases hj:j<i
 .rw[if_pos hj,if_pos hj];exact⟨_,rfl⟩
 .rw[if_neg hj,if_neg hj];exact⟨_,rfl⟩
theorem j7e:Jy X (.type "int") (λxs H Q=>(∃i,xs=[.int i]/\Q (.int i) H)\/∃k,xs=[.bl k]/\Q (.int (if k then 1 else 0)) H):=by
 intro pins s σ H xs us Q I r h;rcases h with ⟨i,rfl,q⟩|⟨k,rfl,q⟩
 .obtain⟨u,rfl,t,rfl⟩:=vals1 r;exact call_int_int ⟨.int i,H,I,⟨_,rfl⟩,q⟩
 .obtain⟨u,rfl,r1⟩:=vals1 r;cases r1;exact call_int_bool ⟨.int (if k then 1 else 0),H,I.tok _,⟨_,rfl⟩,q⟩
end
structure ObjM(h:aH)(x dx C:ao)(mA:k7w):Prop where
 obj:h.get? x=aa (W.instObj C dx)
 ns:h.Ns1 dx mA
 ne:dx≠x
theorem j5y{h:aH}{dx:ao}{mA:k7w}(n:h.Ns1 dx mA):∃od,h.get? dx=aa od/\∀name,W.lookIn name od=aa (mA name):=by
 obtain⟨o,es,ep,ho,hd,hk,_,hm⟩:=n;refine⟨o,ho,λname=>?_⟩;have e:=hm name;unfold nsFind findBy at e;rw[<-Array.find?_toList]at e;unfold W.lookIn;rw[hd];dsimp only;split
 .rename_i y q;rw[q]at e;exact congrArg aa e
 .rename_i q;rw[q]at e;have a:es.toList.any (·.refKey)=ae:=by rw[fE];intro y hy;obtain⟨z,t,hkey⟩:=hk y (Array.mem_toList_iff.mp hy);simp[DictEntry.refKey,hkey]
  have a':¬es.toList.any (·.refKey)=af:=by rw[a];exact xm
  rw[if_neg a'];exact congrArg aa e
theorem ObjM.look{h:aH}{x dx C:ao}{mA:k7w}(I:ObjM h x dx C mA):∃od,PySem.W.InstAt h x (W.instObj C dx) C (aa od)/\∀name,W.lookIn name od=aa (mA name) :=
 let ⟨od,ho,hl⟩:=j5y I.ns
 ⟨od,⟨I.obj,rfl,rfl,ho⟩,hl⟩
section
variable{prog:az}{w:aF}{A:aI}{E:k7u}{s:ar}{K:k7t}{x dx C f:ao}{mA:k7w}{name:aq}{v:ak}
theorem je7{expr:Bool}{Q:k7u}(X:K.In s.heap)(I:ObjM s.heap x dx C mA)(hg:W.plainGet K C name=af)(hh:W.hasDictIn K C=af)
  (ha:W.findIn K (.ref C) name=aa ah) (hv:mA name=aa v) (hv':W.handedIn v=af) (h:Q v { s with toks:=s.toks+1 }) :
  ay (aC prog w) A (getAttr (.ref x) name expr) Q E s:=by
 obtain⟨od,J,hl⟩:=I.look;exact W.get_value X J (W.plainGet_of hg).1 (W.findObj_own hh ha rfl (by rw[hl,hv])) hv' h
theorem j9w{pl:lG Bool}{Q:ak×List ak->ar->Prop}(X:K.In s.heap)(I:ObjM s.heap x dx C mA)(hg:W.plainGet K C name=af)
  (hf:W.findIn K (.ref C) name=aa (aa (.ref f))) (ht:W.isFn K (.ref f)=af) (hv:mA name=ah) (h:Q (.ref f,[.ref x]) s) :
  ay (aC prog w) A (iA (.ref x) name pl) Q E s:=by
 obtain⟨od,J,hl⟩:=I.look;exact W.method_fn X J (W.plainGet_of hg).1 (W.plainGet_of hg).2 hf (beq_iff_eq.mp ht) (by show(W.lookIn name od).map (·.isSome)=aa ae;rw[hl,hv];rfl) h
theorem jck{ns:List aq}{Q:Unit->ar->Prop}(X:K.In s.heap)(I:ObjM s.heap x dx C mA)
  (hs:W.findIn K (.ref C) "__setattr__" = aa (aa (.builtin "object.__setattr__"))) (hp:W.plainOver K C=af) (ht:W.takerIn K C name=aa ah) (hh:W.hasDictIn K C=af)
  (hw:gO mA ns) (hsz:ns.length<=av)
  (h:∀h',ObjM h' x dx C (λy=>if y=name then aa v else mA y)->cw dx s.heap h'->Q () { s with heap:=h',toks:=s.toks+2 }) :
  ay (aC prog w) A (setAttr (.ref x) name v) Q E s:=by
 obtain⟨od,J,hl⟩:=I.look;refine W.set_plain X J hs (W.osa_open (s:={ s with toks:=s.toks+1 }) (r:=ah) X J hp ht λb=>?_);obtain⟨cd,hc,hd'⟩:=W.any_some hh;have hx:s.heap.get? x=aa ⟨.ref C,aa dx,.plain,#[]⟩:=I.obj;refine ai (aw (ai (ai (wpAny_loadPart hx (ai (PySem.W.Looks.here (s:={ s with toks:=s.toks+1 }) (W.looks_clsIn X hc) ?_))))));rw[hd'];refine aw (a:=aa dx) (ai (aw (ai ?_)));refine wpAny_nsSet1 (s:={ s with toks:=s.toks+1 }) I.ns λh' hn2 hs2=>?_;obtain⟨oD,esD,epD,hoD,hdD,hcD⟩:=hn2.count (PySem.Within.cons name v hw);refine ai (wpAny_lookBehind hoD (by rw[hdD];exact pastItsLine_dict (Xg hcD (by rw[xq];omega))) ?_);exact aw (h _ ⟨(hs2.2 _ (dW I.ne)).trans I.obj,hn2,I.ne⟩ hs2)
theorem j93{R:fm->ar->Prop}{vs:List ak}{kw:List (aq×ak)}(X:K.In s.heap)(hm:W.makesIn K C=af)
  (hi:W.findIn K (.ref C) "__init__" = aa (aa (.ref f))) (hf:W.typeIn K (.ref f)=aa (.type "function"))
  (h:cK (aC prog w) (A.under (.builtin "type.__call__" ⟨.ref C::vs,kw⟩)) (.call (.ref f) ⟨.ref (s.heap.objs.size+1)::vs,kw⟩) (PySem.W.InitBack (s.heap.objs.size+1) R)
   { s with heap:=(s.heap.push W.emptyDict).push (W.instObj C s.heap.objs.size) }) :
  cK (aC prog w) A (.call (.ref C) ⟨vs,kw⟩) R s:=by
 obtain⟨hh,g,d,t,os⟩:=s;exact W.make_core (W.makes_of X hm) (W.looks_findIn X hi) (λself=>W.bind_fn X self hf) (.inl rfl) h
end
noncomputable def Jq(f:aq)(v:V):List (aq×V)->List (aq×V)
 |[]=>[(f,v)]
 |(g,x)::r=>if g=f then(g,v)::r else(g,x)::Jq f v r
theorem Bg(f g:aq)(v:V):∀fs:List (aq×V),(Jq f v fs).lookup g=if g=f then aa v else fs.lookup g
 |[]=>by
  show d4 g [(f,v)]=_;by_cases h:g=f
  .have hb:(g==f)=af:=beq_iff_eq.mpr h;simp only[d4,hb,if_pos h]
  .have hb:(g==f)=ae:=beq_eq_false_iff_ne.mpr h;simp only[d4,hb,if_neg h]
 |(k,x)::r=>by
  have ih:=Bg f g v r;rw[show Jq f v ((k,x)::r)=(if k=f then(k,v)::r else(k,x)::Jq f v r)from rfl];by_cases hk:k=f
  .rw[if_pos hk];by_cases h:g=k
   .have hb:(g==k)=af:=beq_iff_eq.mpr h;simp only[d4,hb,if_pos (h.trans hk)]
   .have hb:(g==k)=ae:=beq_eq_false_iff_ne.mpr h;simp only[d4,hb,if_neg (λe:g=f=>h (e.trans hk.symm))]
  .rw[if_neg hk];by_cases h:g=k
   .have hb:(g==k)=af:=beq_iff_eq.mpr h;simp only[d4,hb,if_neg (λe:g=f=>hk (h.symm.trans e))]
   .have hb:(g==k)=ae:=beq_eq_false_iff_ne.mpr h;simp only[d4,hb];exact ih
theorem Mq(f:aq)(v:V):∀fs:List (aq×V),f∈(Jq f v fs).map (·.1)/\∀g,g∈fs.map (·.1)->g∈(Jq f v fs).map (·.1)
 |[]=>⟨by simp[Jq],λg h=>by simp at h⟩
 |(k,x)::r=>by
  obtain⟨i1,i2⟩:=Mq f v r;rw[show Jq f v ((k,x)::r)=(if k=f then(k,v)::r else(k,x)::Jq f v r)from rfl];by_cases hk:k=f
  .rw[if_pos hk];subst hk;exact⟨by simp,λg h=>by simpa using h⟩
  .rw[if_neg hk];refine⟨?_,λg h=>?_⟩
   .rw[xx];exact xf _ i1
   .rw[xx]at h ⊢;rcases xn.mp h with e|e
    .exact xn.mpr (.inl e)
    .exact xf _ (i2 g e)
theorem Bh(f:aq)(v:V):∀fs:List (aq×V),(Jq f v fs).length<=fs.length+1
 |[]=>by simp[Jq]
 |(k,x)::r=>by
  have ih:=Bh f v r;rw[show Jq f v ((k,x)::r)=(if k=f then(k,v)::r else(k,x)::Jq f v r)from rfl];by_cases hk:k=f
  .rw[if_pos hk,xq,xq];omega
  .rw[if_neg hk,xq,xq];omega
theorem Uv.some_of{v:V}{o:Option ak}(r:Uv (aa v) o):∃u,o=aa u/\RelV v u:=by
 cases o with
 |none=>exact(show False from r).elim
 |some u=>exact⟨u,rfl,r⟩
theorem Uv.none_of{o:Option ak}(r:Uv ah o):o=ah:=by
 cases o with
 |none=>rfl
 |some u=>exact(show False from r).elim
theorem j6e{v:V}{u:ak}(r:RelV v u):W.handedIn u=af:=by
 cases v with
 |non=>cases(show u=b0 from r);rfl
 |bl b=>cases(show u=bp b from r);rfl
 |int i=>obtain⟨t,e⟩:=(show ∃t,u=bu i t from r);cases e;rfl
 |str x=>obtain⟨t,e⟩:=(show ∃t,u=b9 x t from r);cases e;rfl
 |byt b=>obtain⟨t,e⟩:=(show ∃t,u=ki b t from r);cases e;rfl
 |flt b=>obtain⟨t,e⟩:=(show ∃t,u=kg b t from r);cases e;rfl
 |ref a=>cases(show u=aJ a from r);rfl
 |ty n=>cases(show u=cI n from r);rfl
section
variable{P:az}{w:aF}{H H':Hp}{h h':aH}{a C dx:ao}{fs fs':List (aq×V)}
theorem Lj(hok:HOk P w H h)(e:H a=aa (.ins C dx fs)):∃mA,ObjM h a dx C mA/\(∀f,Uv (fs.lookup f) (mA f))/\gO mA (fs.map (·.1))/\fs.length<=1000/\H dx=aa (.own a):=by
 obtain⟨d,z,ne,ob,mA,n,r,q⟩:=(show jz P w H h a (.ins C dx fs)from hok a _ e)
 exact⟨mA,⟨ob,n,ne⟩,r,q,z,d⟩
end
structure Cls(K:k7t)(C:ao):Prop where
 pg:W.plainGet K C bJ=af
 hd:W.hasDictIn K C=af
 po:W.plainOver K C=af
 sa:W.findIn K (.ref C) "__setattr__" = aa (aa (.builtin "object.__setattr__"))
theorem Cls.get{K:k7t}{C:ao}(c:Cls K C)(f:aq):W.plainGet K C f=af:=c.pg
def V7(K:k7t)(C:ao)(f:aq):Prop:=W.findIn K (.ref C) f=aa ah
theorem V7.taker{K:k7t}{C:ao}{f:aq}(n:V7 K C f):W.takerIn K C f=aa ah:=by unfold W.takerIn;rw[show W.findIn K (.ref C) f=aa ah from n];rfl
structure Con(K:k7t)(C:ao)(f:aq)(v:V)(u:ak):Prop where
 at_:W.findIn K (.ref C) f=aa (aa u)
 rel:RelV v u
 get:W.specialIn K u "__get__" = aa ah
 cp:W.copiedNames.contains f=ae
structure Meth(K:k7t)(C:ao)(m:aq)(f:ao):Prop where
 at_:W.findIn K (.ref C) m=aa (aa (.ref f))
 fn:W.isFn K (.ref f)=af
 kp:W.keepIn K (.ref f)=af
section
variable{X:Cx}{pins:k7v}{σ:St}{H:Hp}{s:ar}{a C dx:ao}{fs:List (aq×V)}{f:aq}{v:V}{A:aI}{E:k7u}
theorem j44{b:Bool}{Q:k7u}(I:Inv X pins σ H s)(e:H a=aa (.ins C dx fs))(c:Cls X.K C)(n:V7 X.K C f)(l:fs.lookup f=aa v)
  (h:∀u s',Inv X pins σ H s'->RelV v u->Q u s'):ay (aC X.prog X.w) A (getAttr (.ref a) f b) Q E s:=by
 obtain⟨mA,O,r,_,_,_⟩:=Lj I.hok e;obtain⟨u,hu,ru⟩:=Uv.some_of (v:=v) (o:=mA f) (by rw[<-l];exact r f);exact je7 I.kIn O (c.get f) c.hd n hu (j6e ru) (h u _ (I.tok _) ru)
theorem Dj{m:aq}{g:ao}{pl:lG Bool}{Q:ak×List ak->ar->Prop}(I:Inv X pins σ H s)(e:H a=aa (.ins C dx fs))(c:Cls X.K C)(k:Meth X.K C m g)(l:fs.lookup m=ah)
  (h:Q (.ref g,[.ref a]) s):ay (aC X.prog X.w) A (iA (.ref a) m pl) Q E s:=by
 obtain⟨mA,O,r,_,_,_⟩:=Lj I.hok e;have hn:mA m=ah:=Uv.none_of (by rw[<-l];exact r m);exact j9w I.kIn O (c.get m) k.at_ k.fn hn h
theorem j3a{y:V}{u:ak}{Q:Unit->ar->Prop}(I:Inv X pins σ H s)(e:H a=aa (.ins C dx fs))(c:Cls X.K C)(n:V7 X.K C f)(hl:fs.length<1000)(ry:RelV y u)
  (h:∀s',Inv X pins σ (upd H a (.ins C dx (Jq f y fs))) s'->Q () s'):ay (aC X.prog X.w) A (setAttr (.ref a) f u) Q E s:=by
 obtain⟨mA,O,r,wi,_,ho⟩:=Lj I.hok e;have hz:(fs.map (·.1)).length<=av:=by rw[xg,cn];omega
 refine jck I.kIn O c.sa c.po n.taker c.hd wi hz λh' O' sb=>h _ ?_;have hd:∃o,h'.get? dx=aa o:=let ⟨o,_,_,e',_⟩:=O'.ns;⟨o,e'⟩;refine I.write (x:=a) (e:=dx) (by rw[e];exact True.intro) (.inr ho) (λb q hb z=>(sb.2 b hb).trans z) hd ?_;refine⟨by rw[jj O.ne];exact ho,?_,O.ne,O'.obj,_,O'.ns,λg=>?_,λg hg=>?_⟩
 .have:=Bh f y fs;omega
 .show Uv ((Jq f y fs).lookup g) (if g=f then aa u else mA g);rw[Bg];by_cases q:g=f
  .rw[if_pos q,if_pos q];exact ry
  .rw[if_neg q,if_neg q];exact r g
 .by_cases q:g=f
  .rw[q];exact(Mq f y fs).1
  .refine(Mq f y fs).2 g (wi g λz=>hg ?_);show(if g=f then aa u else mA g)=ah;rw[if_neg q];exact z
theorem Inv.made(I:Inv X pins σ H s):Inv X pins σ (upd (upd H s.heap.objs.size (.own (s.heap.objs.size+1))) (s.heap.objs.size+1) (.ins C s.heap.objs.size []))
  { s with heap:=(s.heap.push W.emptyDict).push (W.instObj C s.heap.objs.size) }:=by
 have e1:(s.heap.push W.emptyDict).get? s.heap.objs.size=aa W.emptyDict:=X3 s.heap rfl;have e2:((s.heap.push W.emptyDict).push (W.instObj C s.heap.objs.size)).get? (s.heap.objs.size+1)=aa (W.instObj C s.heap.objs.size):=by
  have:=X3 (s.heap.push W.emptyDict) (o:=W.instObj C s.heap.objs.size) rfl
  rwa [Xk]at this
 have e3:(s.heap.push W.emptyDict).Ns s.heap.objs.size (λ_=>ah):=⟨W.emptyDict,#[],_,e1,rfl,(λe he=>absurd he (by simp)),λ_=>rfl⟩
 have I1:=I.laid (a:=s.heap.objs.size) (o:=.own (s.heap.objs.size+1)) (h':=s.heap.push W.emptyDict) (t':=s.toks) (λb u q=>km _ q) (X7 _) ⟨_,e1⟩;refine I1.laid (a:=s.heap.objs.size+1) (o:=.ins C s.heap.objs.size []) (t':=s.toks) (λb u q=>km _ q) (kT (Xk _ _)) ?_;have ne:s.heap.objs.size≠s.heap.objs.size+1:=Xd (Th _);refine⟨by rw[jj ne,jx],d5 _,ne,e2,λ_=>ah,(Heap.Ns1.of_empty e3).at λo q=>km _ q,λ_=>True.intro,λy hy=>absurd rfl hy⟩
theorem jex{prog:az}{w:aF}{env:dz}{e:au}{f:aq}{pos:aR}{s:ar}{Q:k7u}(hb:aW e f env (aD e env)=aD e env)
  (h:ay (aC prog w) A (aD e env) (λo s₁=>ay (aC prog w) A (getAttr o f af) Q E s₁) E s):ay (aC prog w) A (aD (.Attribute e f pos) env) Q E s :=
 Attribute_any_ h (by rw[arm_eval_Attribute,hb])
end
def jmm(K:k7t)(ta:TE)(f:aq):TE:=λσ H Q=>ta σ H λx H1=>∃a C dx fs v,x=.ref a/\H1 a=aa (.ins C dx fs)/\Cls K C/\V7 K C f/\fs.lookup f=aa v/\Q v H1
def jmq(K:k7t)(ta tv:TE)(f:aq):TS:=λD σ H=>tv σ H λy H1=>ta σ H1 λx H2=>∃a C dx fs,x=.ref a/\H2 a=aa (.ins C dx fs)/\Cls K C/\V7 K C f/\fs.length<1000 /\
 D.nx σ (upd H2 a (.ins C dx (Jq f y fs)))
section
variable{X:Cx}{o e value:au}{f:aq}{pos pos' tpos:aR}{ta tv:TE}
theorem Yu(he:PE X e ta)(hb:aW e f X.env (aD e X.env)=aD e X.env):PE X (.Attribute e f pos) (jmm X.K ta f):=by intro pins s σ H Q I h;refine jex hb (thn (he pins s σ H _ I h) λu s1 ⟨x,H1,I1,rx,a,C,dx,fs,v,ex,ea,c,n,l,q⟩=>?_);subst ex;obtain rfl:u=aJ a:=rx;exact j44 I1 ea c n l λu' s2 I2 ru=>⟨v,H1,I2,ru,q⟩
theorem j0b(ha:PE X o ta)(hv:PE X value tv)(hs:aM value (aa (.Attribute o f pos')) pos.line X.env=pure ae):PS X (.Assign [.Attribute o f pos'] value pos) (jmq X.K ta tv f):=by intro pins s σ H D I h;refine plainObj_wpAny_Assign_Attribute (thn (hv pins s σ H _ I h) λu s1 ⟨y,H1,I1,ry,q⟩=>thn (ha pins s1 σ H1 _ I1 q) λov s2 ⟨x,H2,I2,rx,a,C,dx,fs,ex,ea,c,n,l,q2⟩=>?_) hs;subst ex;obtain rfl:ov=aJ a:=rx;exact j3a I2 ea c n l ry λs3 I3=>⟨σ,_,I3,q2⟩
end
section
variable{X:Cx}{pins:k7v}{σ:St}{H:Hp}{s:ar}{A:aI}{E:k7u}{Q:k7u}{c:ak}{b:Bool}
inductive TyOf(K:k7t)(H:Hp):V->ak->Prop where
 |non:TyOf K H .non (.type "NoneType")
 |bl (x:Bool):TyOf K H (.bl x) (.type "bool")
 |int (i:Int):TyOf K H (.int i) (.type "int")
 |str (x:aq):TyOf K H (.str x) (.type "str")
 |flt (x:UInt64):TyOf K H (.flt x) (.type "float")
 |lst {a:ao} {xs:List V} (e:H a=aa (.lst xs)):TyOf K H (.ref a) (.type "list")
 |frz {a:ao} {o:dy} {xs:List V} (e:H a=aa (.frz o (.lst xs))):TyOf K H (.ref a) (.type "list")
 |tup {a:ao} {xs:List V} (e:H a=aa (.tup xs)):TyOf K H (.ref a) (.type "tuple")
 |dK {a:ao} {kvs:List (Key×V)} (e:H a=aa (.dK kvs)):TyOf K H (.ref a) (.type "dict")
 |dT {a:ao} {kvs:List (List Key×V)} (e:H a=aa (.dT kvs)):TyOf K H (.ref a) (.type "dict")
 |ins {a C dx:ao} {fs:List (aq×V)} (e:H a=aa (.ins C dx fs)) (cl:Cls K C) (ha:W.findIn K (.ref C) "__class__" = aa (aa (.builtin "object.__class__")))
   (hn:W.specialIn K (.builtin "object.__class__") "__get__" = aa (aa (.builtin "getset_descriptor.__get__"))) (htk:W.takesIn K (.builtin "object.__class__")=aa af)
   (hm:W.mroIn K C (.type "object")=aa af):TyOf K H (.ref a) (.ref C)
end
structure Room(k:Nat)(A:aI):Prop where
 hd:A.handled=ah
 dp:A.depth+3*k+5<fh
 un:A.units+16*k+200<bG
theorem Room.mono{j k:Nat}{A:aI}(r:Room k A)(h:j<=k):Room j A:=⟨r.hd,by have:=r.dp;omega,by have:=r.un;omega⟩
theorem Room.deeper{k:Nat}{A:aI}(r:Room (k+1) A)(env:dz):Room k (A.deeper env) :=
 ⟨r.hd,by have:=r.dp;show A.depth+1+3*k+5<_;omega,by have:=r.un;show A.units+3+16*k+200<_;omega⟩
theorem j3z {A:aI} {C:ao} {us:List ak} {kw:List (aq×ak)}:(A.under (.builtin "type.__call__" ⟨.ref C::us,kw⟩)).depth=A.depth+1:=by first|rfl|simp[gE,Code.weight,Code.isCreation,Code.isGuard,Code.isCaller,Code.frames,Code.isFrame,guardIds]
theorem j3y {A:aI} {C:ao} {us:List ak} {kw:List (aq×ak)}:(A.under (.builtin "type.__call__" ⟨.ref C::us,kw⟩)).units=A.units+1:=by first|rfl|simp[gE,Code.cUnits,Code.frames,Code.isFrame]
theorem Room.make {k:Nat} {A:aI} (r:Room (k+1) A) (C:ao) (us:List ak) (kw:List (aq×ak)):Room k (A.under (.builtin "type.__call__" ⟨.ref C::us,kw⟩)) :=
 ⟨r.hd,by have:=r.dp;rw[j3z];omega,by have:=r.un;rw[j3y];omega⟩
theorem Room.depth{k:Nat}{A:aI}(r:Room k A):A.depth<fh:=by have:=r.dp;omega
def jfi:TA:=λ_ H Q=>Q [] H
def jk1(ta:TE)(tr:TA):TA:=λσ H Q=>ta σ H λx H1=>tr σ H1 λxs H2=>Q (x::xs) H2
section
variable{X:Cx}{e:au}{es:List au}{te:TE}{t:TA}{pos:aR}
theorem qb:PA X [] jfi:=λ_ _ _ _ H Q I h=>dD ⟨[],H,I,.nil,h⟩
theorem jc(ha:PE X e te)(hr:PA X es t)(hs:aj (e::es) X.env=(ae,aD e X.env)::aj es X.env:=by rfl):PA X (e::es) (jk1 te t):=by intro pos pins s σ H Q I h;rw[hs];show ay _ _ (gd ((ae,aD e X.env)::aQ pos (aj es X.env))) _ _ s;refine cJ (thn (ha pins s σ H _ I h) λu s1 ⟨x,H1,I1,r1,q1⟩=>?_);exact thn (hr pos pins s1 σ H1 _ I1 q1) λus s2 ⟨xs,H2,I2,r2,q2⟩=>⟨x::xs,H2,I2,.cons r1 r2,q2⟩
def jmd(t:TA):TE:=λσ H Q=>t σ H λxs H1=>xs.length<=av/\∀p,H1 p=ah->Q (.ref p) (upd H1 p (.tup xs))
def jmi(t:TA):TE:=λσ H Q=>t σ H λxs H1=>xs.length<=av/\∀p,H1 p=ah->Q (.ref p) (upd H1 p (.lst xs))
theorem j5m{x1}(h:PA X es t):PE X (.Tuple es x1 pos) (jmd t):=by intro pins s σ H Q I hq;refine wpAny_Tuple_spliced (thn (h pos pins s σ H _ I hq) λus s1 ⟨xs,H1,I1,r,z,q⟩=>⟨by rw[<-r.length];exact z,?_⟩);have hf:H1 s1.heap.objs.size=ah:=I1.hok.fresh (X7 _);refine⟨.ref s1.heap.objs.size,upd H1 s1.heap.objs.size (.tup xs),I1.laid (t':=s1.toks) (λb u e=>km _ e) (X7 _) ?_,rfl,q _ hf⟩;exact⟨z,us,r,⟨_,X3 _ rfl,rfl,_,rfl⟩,V5.new _ _⟩
theorem jgi(h:PA X es t):PE X (.List es pos) (jmi t):=by intro pins s σ H Q I hq;refine wpAny_List_spliced (thn (h pos pins s σ H _ I hq) λus s1 ⟨xs,H1,I1,r,z,q⟩=>⟨by rw[<-r.length];exact z,?_⟩);have hf:H1 s1.heap.objs.size=ah:=I1.hok.fresh (X7 _);refine⟨.ref s1.heap.objs.size,upd H1 s1.heap.objs.size (.lst xs),I1.laid (t':=s1.toks) (λb u e=>km _ e) (X7 _) ?_,rfl,q _ hf⟩;exact⟨z,us,0,r,X3 _ rfl⟩
end
abbrev Sp:=List V->Hp->VK->XK->Prop
abbrev CXT:=List dz->Hp->ar->XK->ak->ar->Prop
structure Env0(P:az)(w:aF)(K:k7t)(mg:k7w)(base:aH)(A:aI)(outer:List dz)(s:ar)(H:Hp):Prop where
 frames:A.frames=aa outer
 mod:Mod K mg base
 bs:∀b o,base.get? b=aa o->s.heap.get? b=aa o/\H b=ah
 bsz:base.objs.size<=s.heap.objs.size
 funs:s.heap.FunFrames base outer
 frf:∀b∈frs outer,H b=ah
 hok:HOk P w H s.heap
 bare:eE s.gens
def CE(outer:List dz)(P:az)(w:aF)(H:Hp)(s:ar)(Q:VK)(u:ak)(s':ar):Prop :=
 ∃v H',s'.os=s.os/\eE s'.gens/\Un (frs outer) [] H H' s.heap s'.heap/\HOk P w H' s'.heap/\RelV v u/\Q v H'
def CR(CX:CXT)(outer:List dz)(P:az)(w:aF)(H:Hp)(s:ar)(Q:VK)(E:XK)(r:fm)(s':ar):Prop :=
 match r with
 |.ok (.ret u)=>CE outer P w H s Q u s'
 |.ok _=>False
 |.error e=>CX outer H s E e s'
structure FnOk(P:az)(w:aF)(K:k7t)(mg:k7w)(base:aH)(CX:CXT)(k:Nat)(f:ao)(fd:aN)(ps:List aq)(sp:Sp):Prop where
 len:∀vs H Q E,sp vs H Q E->vs.length=ps.length
 run:∀(A:aI)(outer:List dz)(s:ar)(H:Hp)(args:Args)(us:List ak)(vs:List V) (Q:VK) (E:XK),Room k A->Env0 P w K mg base A outer s H->gk s fd args (ps.zip us)->Vals vs us->sp vs H Q E ->
  cK (aC P w) A (.call (.ref f) args) (CR CX outer P w H s Q E) s
theorem FnOk.imp{P:az}{w:aF}{K:k7t}{mg:k7w}{base:aH}{CX:CXT}{k:Nat}{f:ao}{fd:aN}{ps:List aq}{sp sp':Sp}(F:FnOk P w K mg base CX k f fd ps sp)
  (h:∀vs H Q E,sp' vs H Q E->sp vs H Q E):FnOk P w K mg base CX k f fd ps sp' :=
 ⟨λvs H Q E q=>F.len vs H Q E (h _ _ _ _ q),λA outer s H args us vs Q E hr he hb hv hs=>F.run A outer s H args us vs Q E hr he hb hv (h _ _ _ _ hs)⟩
theorem Env0.make{P:az}{w:aF}{K:k7t}{mg:k7w}{base:aH}{A:aI}{outer:List dz}{s:ar}{H:Hp}(e:Env0 P w K mg base A outer s H)(C:ao)(us:List ak)(kw:List (aq×ak)) :
  Env0 P w K mg base (A.under (.builtin "type.__call__" ⟨.ref C::us,kw⟩)) outer s H:=⟨by first|exact e.frames|(simpa [gE,Code.envs,Code.isFrame,pushEnvs]using e.frames),e.mod,e.bs,e.bsz,e.funs,e.frf,e.hok,e.bare⟩
section
variable{X:Cx}{pins:k7v}{σ:St}{H:Hp}{s s':ar}
theorem Inv.env0(I:Inv X pins σ H s):Env0 X.prog X.w X.K X.mg X.base X.A X.stack s H :=
 ⟨I.ok.frames,I.ok.mod,I.bs,Xg I.ok.bsz I.sz,I.stack,I.stkFree,I.hok,I.bare⟩
theorem Inv.after{Q:VK}{u:ak}(I:Inv X pins σ H s)(h:CE X.stack X.prog X.w H s Q u s'):EP X pins σ Q u s':=by obtain⟨v,H',os,bare,un,hok,r,q⟩:=h;obtain⟨hh,g,d,t,os'⟩:=s';obtain rfl:os'=s.os:=os;exact⟨v,H',I.call (h':=hh) (g':=g) (d':=d) (t':=t) (ch:=[]) un hok bare (λb z=>absurd z (by simp)),r,q⟩
end
def jk2(sp:Sp)(dvs:List V)(E:XK)(t:TA):TE:=λσ H Q=>t σ H λvs H1=>sp (vs++dvs) H1 Q E
def jjy(C:ao)(m:aq)(sp:Sp)(dvs:List V)(E:XK)(ta:TE)(t:TA):TE:=λσ H Q=>ta σ H λx H1=>∃a dx fs,x=.ref a/\H1 a=aa (.ins C dx fs)/\fs.lookup m=ah /\
 t σ H1 λvs H2=>sp (x::(vs++dvs)) H2 Q E
def jjz(C:ao)(sp:Sp)(dvs:List V)(E:XK)(t:TA):TE:=λσ H Q=>t σ H λvs H1=>∀x dx,H1 x=ah->H1 dx=ah->dx≠x ->
 sp (.ref x::(vs++dvs)) (upd (upd H1 dx (.own x)) x (.ins C dx [])) (λv H2=>v=.non/\Q (.ref x) H2) E
def Binds(K:k7t)(fd:aN)(ps:List aq)(ds:List ak):Prop :=
 ∀(s:ar)(us:List ak),K.In s.heap->(us++ds).length=ps.length->gk s fd ⟨us,[]⟩ (ps.zip (us++ds))
theorem Binds.all{K:k7t}{fd:aN}{ps:List aq}(h:∀us:List ak,us.length=ps.length->cY fd ⟨us,[]⟩=pure (ps.zip us)):Binds K fd ps []:=λs us _ hl=>by rw[Xo]at hl ⊢;exact .of_eq (h us hl)
def We(CX:CXT)(X:Cx)(E:XK):Prop:=∀(pins:k7v) (σ:St) (H:Hp) (s:ar) (e:ak) (s':ar),Inv X pins σ H s->CX X.stack H s E e s'->X.xe e s'
section
variable{X:Cx}{CX:CXT}{k:Nat}{f C:ao}{fd:aN}{ps:List aq}{sp:Sp}{dvs:List V}{ds:List ak}{E:XK}{x m:aq}{p pos apos:aR}{e o:au}{es:List au}{ta:TE}{t:TA}
theorem j56{pins:k7v}{σ:St}{H:Hp}{s:ar}{Q:VK}{us:List ak}{vs:List V}(F:FnOk X.prog X.w X.K X.mg X.base CX k f fd ps sp)(hr:Room k X.A)(hb:Binds X.K fd ps ds)(hd:Vals dvs ds)(hx:We CX X E)
  (I:Inv X pins σ H s) (r:Vals vs us) (h:sp (vs++dvs) H Q E):ay (aC X.prog X.w) X.A (call (.ref f) us) (EP X pins σ Q) X.xe s:=by
 have r2:Vals (vs++dvs) (us++ds):=r.append hd;have hl:(us++ds).length=ps.length:=by rw[<-r2.length];exact F.len _ _ _ _ h
 refine fX (bO (F.run X.A X.stack s H ⟨us,[]⟩ (us++ds) (vs++dvs) Q E hr I.env0 (hb s us I.kIn hl) r2 h) λr s' hq=>?_);cases r with
 |error e=>exact hx pins σ H s e s' I hq
 |ok fl =>
  cases fl with
  |ret u=>exact I.after hq
  |next=>exact aU hq
  |brk=>exact aU hq
  |cont=>exact aU hq
theorem W6(F:FnOk X.prog X.w X.K X.mg X.base CX k f fd ps sp)(hr:Room k X.A)(hg:Gl X x)(hm:X.mg x=aa (.ref f))(hk:W.keepIn X.K (.ref f)=af)(hb:Binds X.K fd ps ds)(hd:Vals dvs ds)(hx:We CX X E)
  (ha:PA X (e::es) t) (hdb:(x==k7x)=ae:=by decide) (he:aj (e::es) X.env=(ae,aD e X.env)::aj es X.env:=by rfl) (hpl:(aQ pos (aj es X.env)).any (·.1)=ae:=by rfl) :
  PE X (.Call (.Name x p) (e::es) [] pos) (jk2 sp dvs E t):=by
 intro pins s σ H Q I h;refine aX (Vc I hg hm ?_ hdb);refine W.callWith_K (h₀:=X.base) I.ok.mod.kin hk (thn (ha pos pins s σ H _ I h) λus s1 ⟨vs,H1,I1,r,q⟩=>⟨I1.kIn,?_⟩) he hpl;exact j56 F hr hb hd hx I1 r q
theorem Wq{pl:lG Bool}(he:PE X o ta)(c:Cls X.K C)(hm:Meth X.K C m f)(F:FnOk X.prog X.w X.K X.mg X.base CX k f fd ps sp)(hr:Room k X.A)(hb:Binds X.K fd ps ds)(hd:Vals dvs ds)(hx:We CX X E)
  (ht:aD (.Call (.Attribute o m apos) [] [] pos) X.env=(do
   let ov <-aD o X.env
   gc apos.atName
   let (f,first) <-eC [ov] (iA ov m pl)
   callWith pos f first (aQ pos (aj [] X.env)) (bP pos (b8 [] X.env))):=by rfl) :
  PE X (.Call (.Attribute o m apos) [] [] pos) (jjy C m sp dvs E ta jfi):=by
 intro pins s σ H Q I h;refine W.methodCall_KW (pl:=pl) (thn (he pins s σ H _ I h) λu s1 ⟨x,H1,I1,rx,a,dx,fs,ex,ea,l,q⟩=>?_) ht;subst ex;obtain rfl:u=aJ a:=rx;refine Dj I1 ea c hm l ?_;exact W.callWith_K0 (first:=[.ref a]) I1.kIn hm.kp (j56 (us:=[.ref a]) (vs:=[.ref a]) F hr hb hd hx I1 (.cons rfl .nil) q)
structure Mk(K:k7t)(C f:ao):Prop where
 makes:W.makesIn K C=af
 init:W.findIn K (.ref C) "__init__" = aa (aa (.ref f))
 fn:W.isFn K (.ref f)=af
 kp:W.keepIn K (.ref C)=af
theorem j8d{pins:k7v}{σ:St}{H:Hp}{s:ar}{Q:VK}{us:List ak}{vs:List V}(M:Mk X.K C f)(F:FnOk X.prog X.w X.K X.mg X.base CX k f fd ps sp)(hr:Room (k+1) X.A)(hb:Binds X.K fd ps ds)(hd:Vals dvs ds)
  (hx:We CX X E) (I:Inv X pins σ H s) (r:Vals vs us)
  (h:∀x dx,H x=ah->H dx=ah->dx≠x->sp (.ref x::(vs++dvs)) (upd (upd H dx (.own x)) x (.ins C dx [])) (λv H2=>v=.non/\Q (.ref x) H2) E) :
  ay (aC X.prog X.w) X.A (call (.ref C) us) (EP X pins σ Q) X.xe s:=by
 have hq:=h (s.heap.objs.size+1) s.heap.objs.size (I.hok.fresh (ph _)) (I.hok.fresh (X7 _)) (Xd (Th _));have I2:=Inv.made (C:=C) I;have r2:Vals (V.ref (s.heap.objs.size+1)::(vs++dvs)) (aJ (s.heap.objs.size+1)::(us++ds)):=.cons rfl (r.append hd);have hl:(aJ (s.heap.objs.size+1)::us++ds).length=ps.length:=by have e:=r2.length;rw[F.len _ _ _ _ hq]at e;exact e.symm
 refine fX (j93 (f:=f) I.kIn M.makes M.init (beq_iff_eq.mp M.fn) (bO (F.run _ X.stack _ _ ⟨aJ (s.heap.objs.size+1)::us,[]⟩ (aJ (s.heap.objs.size+1)::(us++ds)) _ _ E (hr.make C us [])
  (I2.env0.make C us []) (hb _ (aJ (s.heap.objs.size+1)::us) I2.kIn hl) r2 hq) λr s' hq'=>?_))
 cases r with
 |error e=>exact hx pins σ _ _ e s' I2 hq'
 |ok fl =>
  cases fl with
  |ret u =>obtain⟨v,H',I3,rv,ev,q3⟩:=I2.after hq';subst ev;exact⟨rv,⟨V.ref (s.heap.objs.size+1),H',I3,rfl,q3⟩⟩
  |next=>exact aU hq'
  |brk=>exact aU hq'
  |cont=>exact aU hq'
theorem jd8(M:Mk X.K C f)(F:FnOk X.prog X.w X.K X.mg X.base CX k f fd ps sp)(hr:Room (k+1) X.A)(hg:Gl X x)(hm:X.mg x=aa (.ref C))(hb:Binds X.K fd ps ds)(hd:Vals dvs ds)(hx:We CX X E)
  (ha:PA X (e::es) t) (hdb:(x==k7x)=ae:=by decide) (he:aj (e::es) X.env=(ae,aD e X.env)::aj es X.env:=by rfl) (hpl:(aQ pos (aj es X.env)).any (·.1)=ae:=by rfl) :
  PE X (.Call (.Name x p) (e::es) [] pos) (jjz C sp dvs E t):=by
 intro pins s σ H Q I h;refine aX (Vc I hg hm ?_ hdb);refine W.callWith_K (h₀:=X.base) I.ok.mod.kin M.kp (thn (ha pos pins s σ H _ I h) λus s1 ⟨vs,H1,I1,r,q⟩=>⟨I1.kIn,?_⟩) he hpl;exact j8d M F hr hb hd hx I1 r q
end
section
variable{X:Cx}{CX:CXT}{k:Nat}{f C:ao}{fd:aN}{ps ks:List aq}{sp:Sp}{E:XK}{x m:aq}{p pos apos kpos:aR}{e o:au}{es:List au}{kws:List b7}{te ta:TE}{t tk:TA}{nm:Option aq}
structure KBinds(K:k7t)(fd:aN)(ps ks:List aq)(g:List ak->List ak->List ak)(gV:List V->List V->List V):Prop where
 to:∀(s:ar)(us ws:List ak),K.In s.heap->(g us ws).length=ps.length->gk s fd ⟨us,ks.zip ws⟩ (ps.zip (g us ws))
 rel:∀{vs:List V}{us:List ak}{zs:List V}{ws:List ak},Vals vs us->Vals zs ws->Vals (gV vs zs) (g us ws)
variable{g:List ak->List ak->List ak}{gV:List V->List V->List V}
end
structure FnScope(N P:List aq)(sc:bC):Prop where
 kind:sc.kind=.function
 co:sc.isCoroutine=ae
 gen:sc.isGenerator=ae
 nd:N.Nodup
 pre:N.take P.length=P
 par:∀x∈P,sc.names.lookup x=aa .local\/sc.names.lookup x=aa .cell
 nofree:∀y∈sc.names,y.2≠.free
theorem Ie{kindOf:aq->Option bH}{x:aq}:∀{binds:List (aq×ak)} {m:k7w},(∀v,(x,v)∉binds)->iB kindOf binds m x=m x
 |[],_,_=>rfl
 |(n,v)::r,m,h=>by
  unfold iB;rw[Ie λw hw=>h w (xf _ hw)];split
  .have:x≠n:=by rintro rfl;exact h v xj
   simp[this]
  .rfl
theorem Ih{kindOf:aq->Option bH}{x:aq}:∀{binds:List (aq×ak)} {m:k7w},(∀v,(x,v)∉binds)->iC kindOf binds m x=m x
 |[],_,_=>rfl
 |(n,v)::r,m,h=>by
  unfold iC;rw[Ih λw hw=>h w (xf _ hw)];split
  .rfl
  .have:x≠n:=by rintro rfl;exact h v xj
   simp[this]
theorem Ig{kindOf:aq->Option bH}{x:aq}{v:ak}:∀{P:List aq}{vs:List ak}{i:Nat}{m:k7w},P.Nodup->P[i]?=aa x->vs[i]?=aa v->kindOf x=aa .local ->
  iB kindOf (P.zip vs) m x=aa v
 |[],_,_,_,_,h,_,_=>by simp at h
 |_::_,[],_,_,_,_,h,_=>by simp at h
 |p::P,w::vs,0,m,nd,h1,h2,hk=>by simp at h1 h2;subst h1;subst h2;show iB kindOf ((p,w)::P.zip vs) m p=_;unfold iB;rw[Ie λv hv=>(Xl.mp nd).1 (cL hv).1,if_pos hk];simp
 |p::P,w::vs,i+1,m,nd,h1,h2,hk=>by show iB kindOf ((p,w)::P.zip vs) m x=_;unfold iB;exact Ig (i:=i) (Xl.mp nd).2 (by simpa using h1) (by simpa using h2) hk
theorem Ii{kindOf:aq->Option bH}{x:aq}{v:ak}:∀{P:List aq}{vs:List ak}{i:Nat}{m:k7w},P.Nodup->P[i]?=aa x->vs[i]?=aa v->kindOf x≠aa .local ->
  iC kindOf (P.zip vs) m x=aa v
 |[],_,_,_,_,h,_,_=>by simp at h
 |_::_,[],_,_,_,_,h,_=>by simp at h
 |p::P,w::vs,0,m,nd,h1,h2,hk=>by simp at h1 h2;subst h1;subst h2;show iC kindOf ((p,w)::P.zip vs) m p=_;unfold iC;rw[Ih λv hv=>(Xl.mp nd).1 (cL hv).1,if_neg hk];simp
 |p::P,w::vs,i+1,m,nd,h1,h2,hk=>by show iC kindOf ((p,w)::P.zip vs) m x=_;unfold iC;exact Ii (i:=i) (Xl.mp nd).2 (by simpa using h1) (by simpa using h2) hk
noncomputable def start(N:List aq)(vs:List V):St:=vs.map aa++aA (N.length-vs.length) ah
noncomputable def zm(CX:CXT)(P:az)(w:aF)(K:k7t)(mg:k7w)(base:aH)(N:List aq)(qual:aq)(scope:bC)(f:ao)(cd:ak)(A:aI)(outer:List dz)(s:ar)(H:Hp)(E:XK):Cx where
 prog:=P
 w:=w
 K:=K
 mg:=mg
 base:=base
 A:=A.deeper (bB qual scope s.heap.objs.size f cd)
 N:=N
 s₀:=s
 H₀:=H
 env:=bB qual scope s.heap.objs.size f cd
 outer:=outer
 stack:=bB qual scope s.heap.objs.size f cd::outer
 ex:=[]
 calm:=af
 fn:=λ_=>af
 pn:=[]
 xe:=λe s'=>ay (aC P w) (A.deeper (bB qual scope s.heap.objs.size f cd)) (leaving (bB qual scope s.heap.objs.size f cd) e) (λ_ s''=>CX outer H s E e s'') (λe' s''=>CX outer H s E e' s'') s'
theorem j1a{sc:bC}{n:Nat}{x:aq}(h:sc.names.lookup x=aa .cell):∃c,(aY n sc.names []).lookup x=aa c:=by have q:=W.cellsFrom_some sc.names n [] (.inl h);exact Xr.mp q
theorem j6c{CX:CXT}{P:az}{w:aF}{K:k7t}{mg:k7w}{base:aH}{N ps:List aq}{qual:aq}{scope:bC}{f:ao}{cd:ak}{A:aI}{outer:List dz}{s s1:ar}{H:Hp}{E:XK}{us:List ak}{vs:List V}
  (S:FnScope N ps scope) (cm:Bool) (hd:cm=af->A.handled=ah) (e0:Env0 P w K mg base A outer s H) (hl:vs.length=ps.length) (r:Vals vs us)
  (x:InCallC s s.heap.objs.size (iB (bB qual scope s.heap.objs.size f cd).kindOf (ps.zip us) λ_=>ah) (aY (s.heap.objs.size+1) scope.names []) (iC (bB qual scope s.heap.objs.size f cd).kindOf (ps.zip us) λ_=>ah) s1) :
  Inv { zm CX P w K mg base N qual scope f cd A outer s H E with calm:=cm } [] (start N vs) H s1:=by
 have hpl:ps.length<=N.length:=by have:=congrArg i9 S.pre;rw[Xu]at this;omega
 obtain⟨h1,tk,rfl,hk⟩:=x.done;have noA:∀b:ao,b∉(zm CX P w K mg base N qual scope f cd A outer s H E).ex:=λb z=>absurd (show b∈([]:List ao)from z) (by simp);refine⟨⟨e0.mod,S.kind,rfl,rfl,X7 _,λy z c h1 h2=>?_,λy hy=>?_,λy c _ h=>?_,hd,gW e0.frames,.inr ⟨rfl,rfl⟩,λb z=>absurd z (noA b),e0.bs,e0.bsz,λb _ _=>noA b,λb z=>absurd z (noA b),e0.funs,e0.frf⟩,
  rfl,e0.bare,Un.kept hk,⟨_,x.toInCall.ns,λi y v h1 h2 h3=>?_⟩,λy c h=>⟨_,x.cell y c h⟩,e0.hok.fresh (X7 _),λy c h=>?_,λp hp=>absurd (show p∈([]:k7v)from hp) (by simp),e0.hok.kept hk,?_⟩
 .exact name_of_addr x.apart (Pa h1) (Pa h2)
 .have hy:scope.names.lookup y=aa .cell\/scope.names.lookup y=aa .free:=hy;rcases hy with hy|hy
  .exact j1a hy
  .exact absurd rfl (S.nofree _ (Pa hy))
 .exact eG (x.above y c (Pa h))
 .have hi:i<vs.length:=by
   unfold start at h2;by_cases hi:i<vs.length
   .exact hi
   .rw[dr (by simpa using hi)]at h2;rw[List.getElem?_replicate]at h2;split at h2<;>cases h2
  have ha:vs[i]?=aa v:=by
   unfold start at h2;rw[Pq (by simpa using hi),xu]at h2;cases e:vs[i]? with
   |none=>rw[e]at h2;cases h2
   |some a=>rw[e]at h2;cases h2;rfl
  obtain⟨u,hu,rv⟩:=r.get ha;have hp:ps[i]?=aa y:=by rw[<-S.pre,List.getElem?_take_of_lt nofun];exact h1
  have ndP:ps.Nodup:=by rw[<-S.pre];exact S.nd.sublist (List.take_sublist _ _)
  refine⟨u,rv,?_⟩;rcases S.par y (Xv hp)with k|k
  .exact .inl ⟨k,Ig ndP hp hu k⟩
  .obtain⟨c,e⟩:=j1a (n:=s.heap.objs.size+1) k;refine .inr ⟨.inl k,c,e,?_⟩;have q:=x.cell y c e;rw[Ii ndP hp hu (by show scope.names.lookup y≠_;rw[k];decide)]at q;exact q
 .exact e0.hok.fresh (eG (x.above y c (Pa h)))
 .unfold start;show _=N.length;rw[Xe,xg,eM];omega
theorem Inv.extOut{X:Cx}{pins:k7v}{σ:St}{H H2:Hp}{s:ar}(J:Inv X pins σ H s)(x:Ext X H H2 s):HOk X.prog X.w H2 s.heap/\(X.ex=[]->Un X.fs [] X.H₀ H2 X.s₀.heap s.heap):=by
 have old:∀b o,X.s₀.heap.get? b=aa o->H2 b=H b:=λb o e=>(x b).elim id λ⟨y,ob,v,hc,hf,_⟩=>absurd (Xn (xr e) (J.ok.cab y b hf hc)) (Pj _);have trk:∀{b:ao}{u:HO},H b=aa u->H2 b=aa u:=λ{b u} e=>(x b).elim (λz=>z.trans e) λ⟨y,ob,v,hc,_⟩=>by rw[J.freeC y b hc]at e;cases e
 refine⟨λa o e=>?_,λhx=>?_⟩
 .rcases x a with z|⟨y,ob,v,_,_,e2,e3,_⟩
  .exact(J.hok a o (z▸e)).stay (λ_ _ _ q=>q) (λ_ q=>trk q) (λ_ _ q=>trk q) λ_ _ _ q=>trk q
  .rw[e2]at e;cases e;exact⟨e3,ob,e3⟩
 .have nx:∀b,b∉X.ex:=λb=>by rw[hx];simp
  exact⟨λb o e n hb _=>J.base.keep b o e n hb (nx b),λb o e n hb _=>J.base.slot b o e n hb (nx b),λb o e n _=>(old b o e).trans (J.base.free b o e n (nx b)),λb o e _=>J.base.there b o e (nx b),
   λb xs e=>trk (J.base.tups b xs e),λb o u e=>trk (J.base.frzs b o u e),λb ps e=>let ⟨m,z⟩:=J.base.tbls b ps e;⟨m,trk z⟩⟩
theorem Ek{CX:CXT}{P:az}{w:aF}{K:k7t}{mg:k7w}{base:aH}{k:Nat}{f:ao}{name qual:aq}{params:iD}{body:List aS}{scope:bC}{dV kV doc pm cdv ct oc:ak}{an od:Option ao}
  {osl:Array (Option ak)} {N ps:List aq} {sp:Sp} (lk:K.lookup f=aa ⟨oc,od,.func (W.fnOf name qual params body scope dV kV doc pm an cdv ct),osl⟩) (hcd:W.codeIn K cdv qual=af) (S:FnScope N ps scope)
  (len:∀vs H Q E,sp vs H Q E->vs.length=ps.length)
  (hbody:∀(A:aI)(outer:List dz)(s:ar)(H:Hp)(vs:List V)(Q:VK)(E:XK),Room k (A.deeper (bB qual scope s.heap.objs.size f cdv))->sp vs H Q E ->
   ∃t,PSs (zm CX P w K mg base N qual scope f cdv A outer s H E) body t/\t { nx:=λ_ H'=>Q .non H',rt:=Q } (start N vs) H) :
  FnOk P w K mg base CX (k+1) f (W.fnOf name qual params body scope dV kV doc pm an cdv ct) ps sp:=by
 refine⟨len,λA outer s H args us vs Q E hr e0 hb r hsp=>?_⟩;have hl:=len _ _ _ _ hsp;have KX:K.In s.heap:=e0.mod.kin.keeps λb o e=>(e0.bs b o e).1;have lim:s.heap.NoLimit:=e0.mod.nolimit.keeps λb o e=>(e0.bs b o e).1;have hkind:∀y∈ps.zip us,scope.names.lookup y.1=aa .local\/(scope.names.lookup y.1=aa .cell/\((aY (s.heap.objs.size+1) scope.names []).lookup y.1).isSome=af):=λ⟨n,v⟩ hy=>by
  rcases S.par n (cL hy).1 with q|q
  .exact .inl q
  .exact .inr ⟨q,W.cellsFrom_some _ _ _ (.inl q)⟩
 refine codeAny_call_function hr.depth (KX _ _ lk) rfl S.co S.gen rfl (W.codeRec_of KX hcd) (hb _ _ _ _ ?_);refine wpAny_newFunctionEnv_cells S.kind hkind λenv he s1 x=>?_;subst he;refine⟨lim.keeps x.toInCall.keep,codeAny_func ?_⟩;obtain⟨t,ht,hq⟩:=hbody A outer s H vs Q E (hr.deeper _) hsp;have I:Inv (zm CX P w K mg base N qual scope f cdv A outer s H E) [] (start N vs) H s1:=j6c S af (λ_=>hr.hd) e0 hl r x;refine bS (ht [] s1 (start N vs) H _ I hq) (λfl s' hs=>?_) λe s' hs=>hs;have fin:∀{σ':St}{H':Hp}{v:V}{u:ak},Inv (zm CX P w K mg base N qual scope f cdv A outer s H E) [] σ' H' s'->RelV v u->Q v H'->CE outer P w H s Q u s' :=
  λ{σ' H' v u} J rv q=>⟨v,H',J.os,J.bare,J.base,J.hok,rv,q⟩
 cases fl with
 |ret u =>obtain⟨v,σ',H',H2,J,rv,x,q⟩:=hs;exact⟨v,H2,J.os,J.bare,(J.extOut x).2 rfl,(J.extOut x).1,rv,q⟩
 |next =>obtain⟨σ',H',J,q⟩:=hs;exact fin (v:=V.non) (u:=b0) J rfl q
 |brk =>obtain⟨_,_,_,q⟩:=hs;exact aU q
 |cont =>obtain⟨_,_,_,q⟩:=hs;exact aU q
section
variable{X:Cx}{x:aq}{p pos:aR}{e:au}{es:List au}{t:TA}{id T:String}{r:List V->Hp->VK->Prop}
def tCB(r:List V->Hp->VK->Prop)(t:TA):TE:=λσ H Q=>t σ H λvs H1=>r vs H1 Q
theorem vh (hc:Jy X (.builtin id) r) (hg:Gl X x) (hm:X.mg x=ah) (hv:bh x=aa (.builtin id)) (ha:PA X (e::es) t) (hn:x ≠ "__name__":=by decide) (hdb:(x==k7x)=ae:=by decide)
  (he:aj (e::es) X.env=(ae,aD e X.env)::aj es X.env:=by rfl) (hpl:(aQ pos (aj es X.env)).any (·.1)=ae:=by rfl):PE X (.Call (.Name x p) (e::es) [] pos) (tCB r t):=by
 intro pins s σ H Q I h;refine aX (Jb I hg hm hv ?_ hn hdb);exact callWith_builtin1 (thn (ha pos pins s σ H _ I h) λus s1 ⟨vs,H1,I1,r1,q1⟩=>hc pins s1 σ H1 vs us Q I1 r1 q1) he hpl
theorem Mh (hc:Jy X (.type T) r) (hg:Gl X x) (hm:X.mg x=ah) (hv:bh x=aa (.type T)) (ha:PA X (e::es) t) (hn:x ≠ "__name__":=by decide) (hdb:(x==k7x)=ae:=by decide)
  (he:aj (e::es) X.env=(ae,aD e X.env)::aj es X.env:=by rfl) (hpl:(aQ pos (aj es X.env)).any (·.1)=ae:=by rfl):PE X (.Call (.Name x p) (e::es) [] pos) (tCB r t):=by
 intro pins s σ H Q I h;refine aX (Jb I hg hm hv ?_ hn hdb);exact callWith_type1 (thn (ha pos pins s σ H _ I h) λus s1 ⟨vs,H1,I1,r1,q1⟩=>hc pins s1 σ H1 vs us Q I1 r1 q1) he hpl
end
end L2
namespace HT
open PySem PyProof.Rows
noncomputable def lexLt:List Int->List Int->Bool
 |[],[]=>ae
 |[],_::_=>af
 |_::_,[]=>ae
 |x::xs,y::ys=>if x=y then lexLt xs ys else decide (x<y)
section
open PySem.SeqAt
open PySem.AutoSeq1 (wpAny_loadPart')
open PySem.MeetsSeq PySem.MeetsSeq2 PySem.MeetsSeq3
end
section
variable{prog:az}{w:aF}{A:aI}{E:k7u}{s:ar}
theorem cat_tup{t b:ao}{vs ws:List ak}{Q:k7u}(ht:iE s.heap t vs.toArray)(hb:iE s.heap b ws.toArray)(hv:vs≠[])
  (h1:ws=[]->Q (.ref t) s) (h2:ws≠[]->Q (.ref s.heap.objs.size) { s with heap:=s.heap.push { cls:=.type "tuple",data:=.seq (vs++ws).toArray } })
  (hsz:vs.length+ws.length<=av):ay (aC prog w) A (bj .Add (.ref t) (.ref b)) Q E s:=by
 obtain⟨⟨cls,dd,data,sl⟩,ho,hc,n,hd⟩:=id ht;obtain⟨⟨cls2,dd2,data2,sl2⟩,ho2,hc2,n2,hd2⟩:=id hb;simp only at hc hd hc2 hd2;subst hc hd hc2 hd2;have e:vs.toArray++ws.toArray=(vs++ws).toArray:=by simp
 by_cases hw:ws=[]
 .exact gf ⟨_,ho,rfl⟩ ⟨_,ho2,rfl⟩ gx ip dR dF (du _ _)
   (tuple_addW1 t b vs.toArray ws.toArray n n2 dd dd2 sl sl2 (by simpa using hv) (by simp[hw])) ⟨ho,ho2,h1 hw⟩
 .refine gf ⟨_,ho,rfl⟩ ⟨_,ho2,rfl⟩ gx ip dR dF (du _ _)
   (tuple_addW2 t b vs.toArray ws.toArray n n2 dd dd2 sl sl2 (by simpa using hv) (by simpa using hw) (by rw[X5,X5];exact hsz)) ⟨ho,ho2,?_⟩
  rw[e];exact h2 hw
noncomputable def sIx(n d:Nat):Option Int->Nat
 |none=>d
 |some v=>if v<0 then(v+(n:Int)).toNat else min v.toNat n
theorem jfw(n d:Nat)(hd:d<=n)(o:Option Int):sIx n d o<=n:=by
 cases o with
 |none=>exact hd
 |some v =>
  show(if v<0 then(v+(n:Int)).toNat else min v.toNat n)<=n;by_cases hv:v<0
  .rw[if_pos hv];omega
  .rw[if_neg hv];exact Nat.min_le_right _ _
theorem j2z(v:Int)(n d:Nat):(if v<0 then max (v+(n:Int)) 0 else min v (n:Int))=((sIx n d (aa v):Nat):Int):=by
 show(if v<0 then max (v+(n:Int)) 0 else min v (n:Int))=(((if v<0 then(v+(n:Int)).toNat else min v.toNat n):Nat):Int)
 by_cases hv:v<0
 .simp only[if_pos hv];omega
 .simp only[if_neg hv];omega
theorem j4k(lo hi:Option Int)(n:Nat):cX lo hi 1 (n:Int)=(((sIx n 0 lo:Nat):Int),((sIx n n hi:Nat):Int)):=by
 have h1:¬((1:Int)<0):=by omega
 unfold cX;simp only[h1,if_false];refine Prod.ext ?_ ?_
 .cases lo with
  |none=>rfl
  |some v=>exact j2z v n 0
 .cases hi with
  |none=>rfl
  |some v=>exact j2z v n n
theorem j3l(i j:Nat):c7 (i:Int) (j:Int) 1=j-i:=by
 unfold c7;have h1:(1:Int)>0:=by omega
 simp only[h1,if_true,Int.ediv_one];split<;>omega
theorem Ny{v:ak}{o:Option Int}{Q:Option Int->ar->Prop}(p:fq v o)(h:Q o s):ay (aC prog w) A (kL v) Q E s:=by
 cases p with
 |none=>exact lZ h
 |int i t=>exact slicePart_int h
theorem Bo{sl:ao}{vl vu:ak}{lo hi:Option Int}{n:Nat}{Q:Int×Int×Nat->ar->Prop}(hs:s.heap.IsSliceOf sl vl vu .none)(pl:fq vl lo)(pu:fq vu hi)
  (h:Q (((sIx n 0 lo:Nat):Int),1,sIx n n hi-sIx n 0 lo) s):ay (aC prog w) A (f9 (.ref sl) (pure (n:Int))) Q E s:=by
 obtain⟨os,hos,hcs,hds⟩:=id hs;unfold f9 kM;refine ai (ai (aT hos hds (x:=vl) rfl (ai (aT hos hds (x:=vu) rfl (ai (aT hos hds (x:=.none) rfl (aw ?_)))))));refine ai (lZ ?_);show ay _ _ (if ((1:Int)==0)=af then _ else _) _ _ s;rw[if_neg (by decide)];refine ai (Ny pl (ai (Ny pu (ai (aw ?_)))));show ay _ _ (match cX lo hi 1 (n:Int)with|(lo,hi)=>pure (lo,(1:Int),c7 lo hi 1)) _ _ s;rw[j4k lo hi n];show ay _ _ (pure (((sIx n 0 lo:Nat):Int),(1:Int),c7 ((sIx n 0 lo:Nat):Int) ((sIx n n hi:Nat):Int) 1)) _ _ s;rw[j3l];exact aw h
theorem j8p(xs:Array ak)(i k:Nat):((aB k).filterMap λ(m:Nat)=>xs[((i:Int)+(m:Int)*1).toNat]?).toArray=((xs.toList.drop i).take k).toArray:=by
 have e:(λ(m:Nat)=>xs[((i:Int)+(m:Int)*1).toNat]?)=λm=>xs[i+m]?:=by
  funext m
  have:((i:Int)+(m:Int)*1).toNat=i+m:=by omega
  rw[this]
 rw[e];have:=pick_run xs i k;rw[List.filterMap_map]at this;have e2:((λx=>xs[x]?) ∘ λx=>i+x)=λm=>xs[i+m]?:=rfl;rw[e2]at this;rw[this]
theorem getItem_tuple_cut{t sl:ao}{items:Array ak}{vl vu:ak}{lo hi:Option Int}{Q:k7u}(ht:iE s.heap t items)(hs:s.heap.IsSliceOf sl vl vu .none)(pl:fq vl lo)(pu:fq vu hi)
  (hw:¬(sIx items.size 0 lo=0/\sIx items.size items.size hi=items.size))
  (h:Q (.ref s.heap.objs.size) { s with heap:=s.heap.push { cls:=.type "tuple",data:=.seq ((items.toList.drop (sIx items.size 0 lo)).take (sIx items.size items.size hi-sIx items.size 0 lo)).toArray } })
  (hsz:items.size<=av):ay (aC prog w) A (iR (.ref t) (.ref sl)) Q E s:=by
 have htake:sizeOk (.seq ((items.toList.drop (sIx items.size 0 lo)).take (sIx items.size items.size hi-sIx items.size 0 lo)).toArray):=by show((items.toList.drop (sIx items.size 0 lo)).take (sIx items.size items.size hi-sIx items.size 0 lo)).toArray.size<=av;rw[X5,Xu,T6,de];omega
 have hj:sIx items.size items.size hi<=items.size:=jfw _ _ (X7 _) hi;obtain⟨os,hos,hcs,hds⟩:=id hs;have hTs:s.TypeIs (.ref sl) "slice":=⟨os,hos,hcs⟩
 unfold iR
 try with_reducible refine bU ?_
 first|refine ai (aw ?_)|skip
 refine ai (wpAny_sequenceKey ht.typeIs (by decide) ?_);refine ai (be (name:=cD "__getitem__") ht.typeIs k7
  (bY k7 ht.typeIs entry_tuple_getitem ?_ (args_tuple_getitem _ _)))
 show ay _ _ (kK (.ref t) >>= _) _ _ s;refine ai (tupleItemsOf_ ht ?_);refine ai (iO hTs ?_);rw[if_pos (by decide)];refine ai (Bo hs pl pu ?_);have hno:¬((((sIx items.size 0 lo:Nat):Int)==0&&(1:Int)==1&&(sIx items.size items.size hi-sIx items.size 0 lo)==items.size)=af):=by intro q;rw[X8,X8]at q;have q1:((sIx items.size 0 lo:Nat):Int)=0:=eq_of_beq q.1.1;have q2:sIx items.size items.size hi-sIx items.size 0 lo=items.size:=eq_of_beq q.2;exact hw ⟨by omega,by omega⟩
 show ay _ _ (if (((sIx items.size 0 lo:Nat):Int)==0&&(1:Int)==1&&(sIx items.size items.size hi-sIx items.size 0 lo)==items.size)=af then _ else _) _ _ s;rw[if_neg hno,j8p]
 first
  |exact ai (m:=c9 _) (bN (aw ⟨_,rfl,aw h⟩) htake)
  |exact ai (m:=c9 _) (bN (ai (aw (aw ⟨_,rfl,aw h⟩))) htake)
  |exact ai (ai (m:=c9 _) (bN (aw (aw ⟨_,rfl,aw h⟩)) htake))
  |exact ai (ai (m:=c9 _) (bN (aw ⟨_,rfl,aw h⟩) htake))
end
end HT
namespace L2
open PySem PySem.Spec PyProof.Rows
abbrev TO:=St->Hp->(Option Int->Hp->Prop)->Prop
def PO(X:Cx)(e:Option au)(t:TO):Prop :=
 ∀(pins:k7v) (s:ar) (σ:St) (H:Hp) (Q:Option Int->Hp->Prop),Inv X pins σ H s->t σ H Q ->
  ay (aC X.prog X.w) X.A (evalPart e X.env) (λu s'=>∃o H',Inv X pins σ H' s'/\fq u o/\Q o H') X.xe s
def jci:TO:=λ_ H Q=>Q ah H
def jjw(t:TE):TO:=λσ H Q=>t σ H λx H1=>∃i,x=.int i/\Q (aa i) H1
section
variable{X:Cx}{e:au}{te:TE}{lo hi:Option au}{tl th:TO}{pos p2:aR}
theorem jd4:PO X ah jci:=by intro pins s σ H Q I h;rw[ma];exact aw ⟨ah,H,I,.none,h⟩
theorem jd3(h:PE X e te):PO X (aa e) (jjw te):=by intro pins s σ H Q I hw;rw[evalPart_some];refine thn (h pins s σ H _ I hw) λu s1 ⟨x,H1,I1,r1,q1⟩=>?_;obtain⟨i,rfl,q⟩:=q1;obtain⟨t,rfl⟩:=r1;exact⟨aa i,H1,I1,.int i t,q⟩
def SlR(X:Cx)(r:V->Option Int->Option Int->Hp->VK->Prop):Prop :=
 ∀(pins:k7v) (s:ar) (σ:St) (H:Hp) (x:V) (v vl vu:ak) (lo hi:Option Int) (sl:ao) (Q:VK),Inv X pins σ H s->RelV x v->s.heap.IsSliceOf sl vl vu .none->fq vl lo->fq vu hi->r x lo hi H Q ->
  ∃T id,jY (.type T) "__getitem__" = pure (aa (.builtin id))/\s.TypeIs v T/\ay (aC X.prog X.w) X.A (iR v (.ref sl)) (EP X pins σ Q) X.xe s
def tSl(r:V->Option Int->Option Int->Hp->VK->Prop)(te:TE)(tl th:TO):TE:=λσ H Q=>te σ H λx H1=>tl σ H1 λl H2=>th σ H2 λu H3=>r x l u H3 Q
theorem Bu{r:V->Option Int->Option Int->Hp->VK->Prop}(hr:SlR X r)(he:PE X e te)(hl:PO X lo tl)(hu:PO X hi th):PE X (.Subscript e (.Slice lo hi ah p2) pos) (tSl r te tl th):=by intro pins s σ H Q I h;refine Subscript_ (thn (he pins s σ H _ I h) λv s1 ⟨x,H1,I1,r1,q1⟩=>?_);refine wpAny_Slice (thn (hl pins s1 σ H1 _ I1 q1) λvl s2 ⟨l,H2,I2,pl,q2⟩=>thn (hu pins s2 σ H2 _ I2 q2) λvu s3 ⟨u,H3,I3,pu,q3⟩=>?_);rw[ma];refine aw ?_;have I4:Inv X pins σ H3 { s3 with heap:=s3.heap.push { cls:=.type "slice",data:=.fields #[vl,vu,.none] } }:=I3.kept (t':=s3.toks) λb ob q=>km _ q;obtain⟨T,id,hT,ht,hg⟩:=hr pins { s3 with heap:=s3.heap.push { cls:=.type "slice",data:=.fields #[vl,vu,.none] } } σ H3 x v vl vu l u s3.heap.objs.size Q I4 r1 (Heap.IsSliceOf.new ..) pl pu q3;show ay (aC X.prog X.w) X.A (mf e (.Slice lo hi ah p2) v (.ref s3.heap.objs.size)) (EP X pins σ Q) X.xe { s3 with heap:=s3.heap.push { cls:=.type "slice",data:=.fields #[vl,vu,.none] } };exact lY (ops:=[.ref s3.heap.objs.size,v]) ht hT hg (by with_unfolding_all rfl)
noncomputable def O2(xs:List V)(lo hi:Option Int):List V:=(xs.drop (HT.sIx xs.length 0 lo)).take (HT.sIx xs.length xs.length hi-HT.sIx xs.length 0 lo)
theorem Bj(xs:List V)(lo hi:Option Int):(O2 xs lo hi).length<=xs.length:=by unfold O2;rw[Xu,T6];omega
def jms(K:k7t):V->Option Int->Option Int->Hp->VK->Prop:=λx lo hi H Q=>∃a xs,x=.ref a/\SqT K H a xs /\
 ¬(HT.sIx xs.length 0 lo=0/\HT.sIx xs.length xs.length hi=xs.length)/\∀p,H p=ah->Q (.ref p) (upd H p (.tup (O2 xs lo hi)))
theorem jfn:SlR X (jms X.K):=by
 intro pins s σ H x v vl vu lo hi sl Q I rx hs pl pu h;obtain⟨a,xs,rfl,hx,hw,q⟩:=h;cases rx;obtain⟨its,r,ht,hz⟩:=I.tuple hx;have hlen:its.toArray.size=xs.length:=by rw[X5];exact r.length.symm
 refine⟨"tuple",_,slot_tuple_getitem.lookup,ht.typeIs,?_⟩;refine HT.getItem_tuple_cut ht hs pl pu (by rw[hlen];exact hw) ?_ (by rw[hlen];exact hz);rw[hlen];refine⟨.ref s.heap.objs.size,_,I.laid (t':=s.toks) (o:=.tup (O2 xs lo hi)) (λb ob q=>km _ q) (X7 _) ?_,rfl,q _ (I.hok.fresh (X7 _))⟩;exact⟨Xg (Bj xs lo hi) hz,_,(r.drop (HT.sIx xs.length 0 lo)).take (HT.sIx xs.length xs.length hi-HT.sIx xs.length 0 lo),IsTup.new _ _,V5.new _ _⟩
def jkf(K:k7t):R2:=λx y H Q=>∃a b xs ys,x=.ref a/\y=.ref b/\SqT K H a xs/\SqT K H b ys/\xs≠[]/\xs.length+ys.length<=av /\
 (ys=[]->Q (.ref a) H)/\(ys≠[]->∀p,H p=ah->Q (.ref p) (upd H p (.tup (xs++ys))))
theorem Vals.nil_iff{xs:List V}{us:List ak}(r:Vals xs us):us=[]↔xs=[]:=by
 cases r with
 |nil=>simp
 |cons _ _=>simp
theorem jde:OpR X (bj .Add) (jkf X.K):=by intro pins s σ H x y v u Q I rx ry h;obtain⟨a,b,xs,ys,rfl,rfl,ha,hb,hx,hz,q1,q2⟩:=h;cases rx;cases ry;obtain⟨its,r1,p1,_⟩:=I.tuple ha;obtain⟨its2,r2,p2,_⟩:=I.tuple hb;refine HT.cat_tup p1 p2 (λz=>hx (r1.nil_iff.mp z)) (λz=>⟨.ref a,H,I,rfl,q1 (r2.nil_iff.mp z)⟩) (λz=>?_) (by rw[<-r1.length,<-r2.length];exact hz);refine⟨.ref s.heap.objs.size,_,I.laid (t':=s.toks) (o:=.tup (xs++ys)) (λb ob q=>km _ q) (X7 _) ?_,rfl,q2 (λw=>z (r2.nil_iff.mpr w)) _ (I.hok.fresh (X7 _))⟩;exact⟨by rw[Xe];exact hz,_,r1.append r2,IsTup.new _ _,V5.new _ _⟩
end
noncomputable def ixN(n:Nat)(i:Int):Option Nat:=if 0<=i then(if i<n then aa i.toNat else ah)else if -(n:Int)<=i then aa (i+n).toNat else ah
noncomputable def atI{α:Type}(xs:List α)(i:Int):Option α:=(ixN xs.length i).bind λj=>xs[j]?
theorem j2n{n:Nat}{i:Int}{j:Nat}(h:ixN n i=aa j):kP i n=aa j/\j<n/\-(n:Int)<=i/\i<n:=by
 unfold ixN at h;by_cases h0:0<=i
 .rw[if_pos h0]at h;by_cases h1:i<n
  .rw[if_pos h1]at h;have e:i.toNat=j:=aE h;exact⟨by rw[seqIndex_of h0 h1,e],by omega,by omega,h1⟩
  .rw[if_neg h1]at h;cases h
 .rw[if_neg h0]at h;by_cases h1:-(n:Int)<=i
  .rw[if_pos h1]at h;have e:(i+n).toNat=j:=aE h;exact⟨by rw[seqIndex_neg nofun h1,e],by omega,h1,by omega⟩
  .rw[if_neg h1]at h;cases h
theorem Lz{α:Type}{xs:List α}{i:Int}{v:α}(h:atI xs i=aa v):∃j,kP i xs.length=aa j/\xs[j]?=aa v/\j<xs.length/\-(xs.length:Int)<=i/\i<xs.length:=by
 unfold atI at h;cases e:ixN xs.length i with
 |none=>rw[e]at h;cases h
 |some j =>rw[e]at h;obtain⟨h1,h2,h3,h4⟩:=j2n e;exact⟨j,h1,h,h2,h3,h4⟩
theorem Zj{α:Type}{xs:List α}{j:Nat}{v:α}(h:xs[j]?=aa v):atI xs (j:Int)=aa v:=by
 have hj:j<xs.length:=(Xf.mp h).1;have e:ixN xs.length (j:Int)=aa j:=by unfold ixN;rw[if_pos nofun,if_pos nofun];simp
 unfold atI;rw[e];exact h
def Yo(b:au):Prop:=∀o i,subscripted b ae o i=operate [o,i] (iR o i)
def IxR(X:Cx)(r:R2):Prop :=
 ∀(value slice:au)(pins:k7v) (s:ar) (σ:St) (H:Hp) (x y:V) (v u:ak) (Q:VK),Inv X pins σ H s->RelV x v->RelV y u->r x y H Q ->
  subscripted slice ae v u=operate [v,u] (iR v u)->ay (aC X.prog X.w) X.A (mf value slice v u) (EP X pins σ Q) X.xe s
def MtR(X:Cx)(id:String)(r:V->List V->Hp->VK->Prop):Prop :=
 ∀(pins:k7v) (s:ar) (σ:St) (H:Hp) (x:V) (xs:List V) (v:ak) (us:List ak) (Q:VK),Inv X pins σ H s->RelV x v->Vals xs us->r x xs H Q ->
  ay (aC X.prog X.w) X.A (call (.builtin id) (v::us)) (EP X pins σ Q) X.xe s
section
variable{X:Cx}{a b:au}{ta tb:TE}{pos:aR}
theorem Od{r:R2}(hr:IxR X r)(ha:PE X a ta)(hb:PE X b tb)(hs:Yo b):PE X (.Subscript a b pos) (tOp r ta tb):=by intro pins s σ H Q I h;exact Subscript_ (jal ha hb I h λv u s2 x y H2 I2 rx ry q=>hr a b pins s2 σ H2 x y v u Q I2 rx ry q (hs _ _))
def jg9(K:k7t):R2:=λx y H Q=>∃p xs i v,x=.ref p/\y=.int i/\SqL K H p xs/\atI xs i=aa v/\Q v H
def jg7(K:k7t):R2:=λx y H Q=>∃p xs i v,x=.ref p/\y=.int i/\SqT K H p xs/\atI xs i=aa v/\Q v H
def jg8:R2:=λx y H Q=>∃z i c,x=.str z/\y=.int i/\z.length<=av/\atI z.cps.toList i=aa c/\Q (.str ⟨#[c]⟩) H
theorem j2m:IxR X (jg9 X.K):=by
 intro value slice pins s σ H x y v u Q I rx ry h hs;obtain⟨p,xs,i,z,rfl,rfl,hq,he,q⟩:=h;cases rx;obtain⟨t,rfl⟩:=ry;obtain⟨its,r,pl,hz⟩:=I.list hq;obtain⟨j,h1,h2,h3,h4,h5⟩:=Lz he;obtain⟨w,ew,rw'⟩:=r.get h2;have hl:=r.length;have hn:=Mp;have fin:EP X pins σ Q w s:=⟨z,H,I,rw',q⟩
 by_cases h0:0<=i
 .have hj:i.toNat=j:=by rw[seqIndex_of h0 h5]at h1;exact aE h1
  exact item_listR pl.isList h0 nofun (by rw[hj];simpa using ew) fin hs
 .have hj:(i+(its.toArray.size:Int)).toNat=j:=by rw[seqIndex_neg nofun h4]at h1;rw[X5,<-hl];exact aE h1
  exact iU (x:=w) pl.isList.typeIs slot_list_getitem.lookup
   (wpAny_getItem_list_neg (Q:=λr s'=>r=w/\EP X pins σ Q r s') pl.isList nofun (by rw[X5]<;>omega) nofun (by rw[hj];simpa using ew) ⟨rfl,fin⟩) hs
theorem j68:IxR X (jg7 X.K):=by
 intro value slice pins s σ H x y v u Q I rx ry h hs;obtain⟨p,xs,i,z,rfl,rfl,hq,he,q⟩:=h;cases rx;obtain⟨t,rfl⟩:=ry;obtain⟨its,r,pl,hz⟩:=I.tuple hq;obtain⟨j,h1,h2,h3,h4,h5⟩:=Lz he;obtain⟨w,ew,rw'⟩:=r.get h2;have hl:=r.length;have hn:=Mp;have fin:EP X pins σ Q w s:=⟨z,H,I,rw',q⟩
 exact iU (x:=w) pl.typeIs slot_tuple_getitem.lookup
  (getItem_tuple (j:=j) (Q:=λr s'=>r=w/\EP X pins σ Q r s') pl nofun nofun (by rw[X5,<-hl];exact h1) (by simpa using ew) ⟨rfl,fin⟩) hs
theorem jhi:IxR X jg8:=by
 intro value slice pins s σ H x y v u Q I rx ry h hs;obtain⟨z,i,c,rfl,rfl,hz,he,q⟩:=h;obtain⟨t,rfl⟩:=rx;obtain⟨t',rfl⟩:=ry;obtain⟨j,h1,h2,h3,h4,h5⟩:=Lz he;have hl:z.cps.toList.length=z.length:=by simp[lO]
 rw[hl]at h1 h4 h5;have hn:=Mp;exact lY (df s z t) slot_str_getitem.lookup (getItem_str (c:=c) (by
  have e1:decide (i < -(2^63:Int))=ae:=decide_eq_false nofun
  have e2:decide (i>=2^63)=ae:=decide_eq_false nofun
  rw[e1,e2,gJ]) (by rw[h1];simpa using h2) ⟨.str ⟨#[c]⟩,H,I.tok _,⟨_,rfl⟩,q⟩) hs
theorem j04(lo hi:Option Int)(n:Nat):(dj lo hi ah n).1=((HT.sIx n 0 lo:Nat):Int)/\(dj lo hi ah n).2.1=((HT.sIx n n hi:Nat):Int)/\(dj lo hi ah n).2.2=1:=by
 refine⟨?_,?_,rfl⟩
 .cases lo with
  |none=>simp[dj,HT.sIx]
  |some i =>
   simp only[dj,HT.sIx,iH,show(1:Int)>0 by decide,if_true];by_cases h:i<0
   .simp only[h,if_true]<;>omega
   .simp only[h,if_false]<;>omega
 .cases hi with
  |none=>simp[dj,HT.sIx]
  |some i =>
   simp only[dj,HT.sIx,iH,show(1:Int)>0 by decide,if_true];by_cases h:i<0
   .simp only[h,if_true]<;>omega
   .simp only[h,if_false]<;>omega
theorem Iu(its:List ak)(lo hi:Option Int):slicePick its.toArray lo hi ah=((its.drop (HT.sIx its.length 0 lo)).take (HT.sIx its.length its.length hi-HT.sIx its.length 0 lo)).toArray:=by obtain⟨h1,h2,h3⟩:=j04 lo hi its.toArray.size;unfold slicePick;rw[h1,h2,h3];simp only[sliceRange_one,pick_run,X5]<;>rfl
def jmu(K:k7t):V->Option Int->Option Int->Hp->VK->Prop:=λx lo hi H Q=>∃a xs,x=.ref a/\SqL K H a xs/\∀p,H p=ah->Q (.ref p) (upd H p (.lst (O2 xs lo hi)))
theorem jcj:SlR X (jmu X.K):=by intro pins s σ H x v vl vu lo hi sl Q I rx hs pl pu h;obtain⟨a,xs,rfl,hx,q⟩:=h;cases rx;obtain⟨its,r,ht,hz⟩:=I.list hx;have hlen:=r.length;refine⟨"list",_,slot_list_getitem.lookup,ht.isList.typeIs,?_⟩;refine wpAny_getItem_list_slice ht.isList hs pl pu .none (by simp) ?_ (by rw[X5]<;>omega);rw[Iu,<-hlen];refine⟨.ref s.heap.objs.size,_,I.laid (t':=s.toks) (o:=.lst (O2 xs lo hi)) (λb ob q=>km _ q) (X7 _) ?_,rfl,q _ (I.hok.fresh (X7 _))⟩;exact⟨Xg (Bj xs lo hi) hz,_,0,(r.drop (HT.sIx xs.length 0 lo)).take (HT.sIx xs.length xs.length hi-HT.sIx xs.length 0 lo),X3 _ rfl⟩
theorem Zx:Jy X (.builtin "len") (λxs H Q=>∃p ys,xs=[.ref p]/\(SqL X.K H p ys\/SqT X.K H p ys)/\Q (.int ys.length) H):=by
 intro pins s σ H xs us Q I r h;obtain⟨p,ys,rfl,hq,q⟩:=h;obtain⟨u,rfl,rx⟩:=vals1 r;cases rx;have hn:=Mp;rcases hq with hq|hq
 .obtain⟨its,r',pl,hz⟩:=I.list hq;have hlen:=r'.length;exact Calls.call_len_list pl.isList (by simp only[X5]<;>omega) ⟨.int ys.length,H,I.tok _,⟨s.toks+1,by rw[X5,hlen]⟩,q⟩
 .obtain⟨its,r',pl,hz⟩:=I.tuple hq;have hlen:=r'.length;exact len_tuple pl (by simp only[X5]<;>omega) ⟨.int ys.length,H,I.tok _,⟨s.toks+1,by rw[X5,hlen]⟩,q⟩
theorem j1e:Jy X (.builtin "len") (λxs H Q=>∃z,xs=[.str z]/\z.length<=av/\Q (.int z.length) H):=by intro pins s σ H xs us Q I r h;obtain⟨z,rfl,hz,q⟩:=h;obtain⟨u,rfl,t,rfl⟩:=vals1 r;have hn:=Mp;exact len_str nofun ⟨.int z.length,H,I.tok _,⟨_,rfl⟩,q⟩
theorem j1d:Jy X (.type "list") (λxs H Q=>∃p ys,xs=[.ref p]/\(SqL X.K H p ys\/SqT X.K H p ys)/\∀l,H l=ah->Q (.ref l) (upd H l (.lst ys))):=by
 intro pins s σ H xs us Q I r h;obtain⟨p,ys,rfl,hq,q⟩:=h;obtain⟨u,rfl,rx⟩:=vals1 r;cases rx;have fin:∀(its:List ak),Vals ys its->ys.length<=av->∀(h':aH)(c':Nat),(∀b o',s.heap.get? b=aa o'->h'.get? b=aa o') ->
   h'.get? s.heap.objs.size=aa { cls:=.type "list",dict:=ah,data:=.seq its.toArray c',slots:=#[] }->EP X pins σ Q (.ref s.heap.objs.size) { s with heap:=h' }:=λits r' hz h' c' kp e =>
  ⟨.ref s.heap.objs.size,_,I.laid (t':=s.toks) kp (X7 _) (show jz X.prog X.w _ h' _ (.lst ys) from⟨hz,its,c',r',e⟩),rfl,q _ (I.hok.fresh (X7 _))⟩
 rcases hq with hq|hq
 .obtain⟨its,r',pl,hz⟩:=I.list hq;have hlen:=r'.length;obtain⟨o,ho,hc,n,hd⟩:=pl.isList;exact md p (.inl rfl) ho hc hd (λh' c' kp e=>fin its r' hz h' c' kp e) (by simp only[X5]<;>omega)
 .obtain⟨its,r',pl,hz⟩:=I.tuple hq;have hlen:=r'.length;obtain⟨o,ho,hc,n,hd⟩:=pl;exact md p (.inr rfl) ho hc hd (λh' c' kp e=>fin its r' hz h' c' kp e) (by simp only[X5]<;>omega)
theorem Iw:Jy X (.type "tuple") (λxs H Q=>∃p ys,xs=[.ref p]/\((SqL X.K H p ys/\∀l,H l=ah->Q (.ref l) (upd H l (.tup ys)))\/(SqT X.K H p ys/\Q (.ref p) H))):=by
 intro pins s σ H xs us Q I r h;obtain⟨p,ys,rfl,h⟩:=h;obtain⟨u,rfl,rx⟩:=vals1 r;cases rx;rcases h with ⟨hq,q⟩|⟨hq,q⟩
 .obtain⟨its,r',pl,hz⟩:=I.list hq;have hlen:=r'.length;refine call_tuple_list pl.isList (λh' kp=>?_) (by simp only[X5]<;>omega);have I1:Inv X pins σ H { s with heap:=h' }:=I.kept (t':=s.toks) kp;have I2:Inv X pins σ (upd H h'.objs.size (.tup ys)) { s with heap:=h'.push { cls:=.type "tuple",data:=.seq its.toArray } } :=
   I1.laid (t':=s.toks) (λb o e=>km _ e) (X7 _) (show jz X.prog X.w _ _ _ (.tup ys) from⟨hz,its,r',IsTup.new _ _,V5.new _ _⟩)
  exact⟨.ref h'.objs.size,_,I2,rfl,q _ (I1.hok.fresh (X7 _))⟩
 .obtain⟨its,r',pl,hz⟩:=I.tuple hq;exact call_tuple_same pl ⟨.ref p,H,I,rfl,q⟩
def tyV(K:k7t)(T:String)(x:V)(H:Hp):Prop:=match x with
 |.str _=>T = "str"
 |.int _=>T = "int"
 |.ref p=>(T = "list"/\∃xs,SqL K H p xs)\/(T = "tuple"/\∃xs,SqT K H p xs) \/
   (T = "dict"/\((∃kvs,H p=aa (.dK kvs))\/∃kvs,H p=aa (.dT kvs)))\/(T = "set"/\∃S n,H p=aa (.set S n))
 |_=>False
theorem jfb{pins:k7v}{σ:St}{H:Hp}{s:ar}{T:String}{x:V}{v:ak}(I:Inv X pins σ H s)(r:RelV x v)(ty:tyV X.K T x H) :
  s.TypeIs v T/\∀a,v=.ref a->∃ob,s.heap.get? a=aa ob/\ob.dict=ah:=by
 cases x with
 |str z =>obtain⟨t,rfl⟩:=r;cases(show T = "str" from ty);exact⟨df s z t,λ_ e=>nomatch e⟩
 |int i =>obtain⟨t,rfl⟩:=r;cases(show T = "int" from ty);exact⟨fY s i t,λ_ e=>nomatch e⟩
 |ref p =>
  cases r;rcases ty with ⟨rfl,xs,hq⟩|⟨rfl,xs,hq⟩|⟨rfl,hk⟩|⟨rfl,S,n,hk⟩
  .obtain⟨its,_,pl,_⟩:=I.list hq;refine⟨pl.isList.typeIs,λa e=>?_⟩;cases e;obtain⟨o,n,e,c,hd,_⟩:=pl;exact⟨o,e,hd⟩
  .obtain⟨its,_,⟨o,e1,e2,_⟩,_⟩:=I.tuple hq;refine⟨⟨o,e1,e2⟩,λa e=>?_⟩;cases e;exact⟨o,e1,I.tupD hq o e1⟩
  .have z:∃o,s.heap.get? p=aa o/\o.ExactDict:=by
    rcases hk with ⟨kvs,hk⟩|⟨kvs,hk⟩
    .obtain⟨_,_,_,_,o,_,_,e,ex,_⟩:=I.hok p _ hk;exact⟨o,e,ex⟩
    .obtain⟨_,_,_,_,o,_,_,e,ex,_⟩:=I.hok p _ hk;exact⟨o,e,ex⟩
   obtain⟨o,e,ex⟩:=z;refine⟨⟨o,e,ex.1⟩,λa e2=>?_⟩;cases e2;exact⟨o,e,ex.2.1⟩
  .obtain⟨o,_,_,_,e,ex,_⟩:=I.hok p _ hk;refine⟨⟨o,e,ex.1⟩,λa e2=>?_⟩;cases e2;exact⟨o,e,ex.2.1⟩
 |_=>exact aU ty
def tBM(K:k7t)(T:String)(r:V->List V->Hp->VK->Prop)(to:TE)(t:TA):TE:=λσ H Q=>to σ H λx H1=>tyV K T x H1/\t σ H1 λxs H2=>r x xs H2 Q
variable{o e:au}{es:List au}{to:TE}{t:TA}{name:aq}{apos cpos:aR}{T id:String}{r:V->List V->Hp->VK->Prop}
theorem Ui (pa:PlainAttrs T) (slot:Slot T name id) (hty:typeOf (.builtin id)=pure (.type "method_descriptor")) (hm:MtR X id r) (ho:PE X o to) (ha:PA X (e::es) t)
  (hbase:aW o name X.env (aD o X.env)=aD o X.env:=by rfl)
  (hfew:((aQ cpos (aj (e::es) X.env)).all (λx=>!x.1)&&(bP cpos (b8 [] X.env)).all (λx=>x.1.isSome)
   && decide ((e::es).length+([]:List b7).length+(if ([]:List b7).isEmpty then 0 else 1)<30))=af:=by rfl)
  (hline:(apos.endLine==cpos.line)=af:=by rfl) (hs:aj (e::es) X.env=(ae,aD e X.env)::aj es X.env:=by rfl) (hplain:(aQ cpos (aj es X.env)).any (·.1)=ae:=by rfl) :
  PE X (.Call (.Attribute o name apos) (e::es) [] cpos) (tBM X.K T r to t):=by
 intro pins s σ H Q I h;refine wpAny_Call_method_late hbase hfew hline rfl (thn (ho pins s σ H _ I h) λv s1 ⟨x,H1,I1,r1,ty,q1⟩=>?_);obtain⟨h1,h2⟩:=jfb I1 r1 ty;refine⟨T,id,pa,slot,hty,h1,h2,?_⟩;have hA:=ha cpos pins s1 σ H1 _ I1 q1;rw[hs]at hA ⊢;refine dZ (by show(ae || (aQ cpos (aj es X.env)).any (·.1))=ae;rw[hplain]<;>rfl) (cW ?_);exact thn hA λus s2 ⟨vs,H2,I2,r2,q2⟩=>hm pins s2 σ H2 x vs v us Q I2 r1 r2 q2
/- xs.append(e),list.index on a module's tuple .. are MtR facts of 06m -/
end
def MtM(X:Cx)(id:String)(r:V->List V->Hp->VK->Prop):Prop :=
 ∀(pins:k7v) (s:ar) (σ:St) (H:Hp) (x:V) (xs:List V) (v:ak) (us:List ak) (Q:VK),Inv X pins σ H s->RelV x v->Vals xs us->r x xs H Q ->
  ay (aC X.prog X.w) X.A (call (.builtin id) (v::us)) (EP X pins σ Q) X.xe s
theorem Vals.one{x:V}{us:List ak}(h:Vals [x] us):∃u,us=[u]/\RelV x u:=by cases h with|cons r t=>cases t;exact⟨_,rfl,r⟩
theorem Vals.two:∀{x y:V}{us:List ak},Vals [x,y] us->∃u v,us=[u,v]/\RelV x u/\RelV y v
 |_,_,_,.cons r (.cons q .nil)=>⟨_,_,rfl,r,q⟩
theorem Vals.zero:∀{us:List ak},Vals [] us->us=[]
 |_,.nil=>rfl
theorem Vals.dropLast{xs:List V}{us:List ak}(h:Vals xs us):Vals xs.dropLast us.dropLast:=by
 induction h with
 |nil=>exact .nil
 |cons r t ih =>
  cases t with
  |nil=>exact .nil
  |cons q t'=>exact .cons r ih
theorem Vals.eraseIdx:∀{xs:List V}{us:List ak}(i:Nat),Vals xs us->Vals (xs.eraseIdx i) (us.eraseIdx i)
 |_,_,_,.nil=>.nil
 |_,_,0,.cons _ t=>t
 |_,_,i+1,.cons r t=>.cons r (Vals.eraseIdx i t)
theorem Vals.reverse{xs:List V}{us:List ak}(h:Vals xs us):Vals xs.reverse us.reverse:=by
 induction h with
 |nil=>exact .nil
 |cons r t ih=>rw[iV,iV];exact Vals.append ih (.cons r .nil)
theorem Vals.rep{xs:List V}{us:List ak}(h:Vals xs us):∀k:Nat,Vals (aA k xs).flatten (aA k us).flatten
 |0=>.nil
 |k+1=>by rw[Pb,Pb,Te,Te];exact Vals.append h (Vals.rep h k)
theorem Ko{α:Type}:∀(l:List α)(i:Nat),(l.eraseIdx i).length<=l.length
 |[],_=>X7 _
 |_::_,0=>ph _
 |_::r,i+1=>Nat.succ_le_succ (Ko r i)
theorem foldl_rep(its:List ak):∀(k:Nat)(acc:List ak),
  cV (λx1 x2=>x1++x2) acc.toArray (aA k its.toArray)=(acc++(aA k its).flatten).toArray
 |0,acc=>by simp
 |k+1,acc=>by
  have e:acc.toArray++its.toArray=(acc++its).toArray:=by simp
  have e2:(acc++its)++(aA k its).flatten=acc++(aA (k+1) its).flatten:=by rw[Pb,Te,pq]
  rw[<-e2,<-foldl_rep its k (acc++its),<-e,Pb,Pz]
section
variable{X:Cx}{pins:k7v}{σ:St}{H:Hp}{s:ar}{l b:ao}{xs ys zs:List V}
theorem Inv.lset{its its':List ak}{n:Nat}{f:Array ak->Array ak}{t':Nat}(I:Inv X pins σ H s)(hH:H l=aa (.lst xs))
  (e:s.heap.get? l=aa { cls:=.type "list",data:=.seq its.toArray n }) (hf:f its.toArray=its'.toArray) (hv:Vals ys its') (hz:ys.length<=av) :
  Inv X pins σ (upd H l (.lst ys)) { s with heap:=s.heap.update l (Obj.mapSeq f),toks:=t' }:=by
 have q:=PySem.IsL.update e f;rw[hf]at q;refine I.write (x:=l) (e:=l) (by rw[hH];exact trivial) (.inl rfl) (λb' u hb hu=>(Heap.get?_update_other s.heap (Obj.mapSeq f) (dW hb)).trans hu) ⟨_,q⟩ ?_;exact⟨hz,its',_,hv,q⟩
theorem Inv.lnew{its:List ak}{t':Nat}(I:Inv X pins σ H s)(hv:Vals ys its)(hz:ys.length<=av) :
  Inv X pins σ (upd H s.heap.objs.size (.lst ys)) { s with heap:=s.heap.push { cls:=.type "list",data:=.seq its.toArray },toks:=t' } :=
 I.laid (λ_ _ q=>km _ q) (X7 _) ⟨hz,its,0,hv,X3 _ rfl⟩
theorem Inv.fresh(I:Inv X pins σ H s):H s.heap.objs.size=ah:=I.hok.fresh (X7 _)
theorem Inv.lstM(I:Inv X pins σ H s)(hH:H l=aa (.lst xs)):xs.length<=av/\∃(its:List ak)(n:Nat),Vals xs its/\xs.length=its.length/\s.heap.get? l=aa { cls:=.type "list",data:=.seq its.toArray n }:=by obtain⟨z,its,n,r,e⟩:=I.hok l _ hH;exact⟨z,its,n,r,r.length,e⟩
theorem j0i{n:Nat}(h:n<=av):cf n=ae:=by unfold cf;exact decide_eq_false nofun
end
section
variable{X:Cx}
def jd2:V->List V->Hp->VK->Prop:=λx vs H Q=>∃l xs y,x=.ref l/\vs=[y]/\H l=aa (.lst xs)/\xs.length<av/\Q .non (upd H l (.lst (xs++[y])))
theorem Vs:MtM X "list.append" jd2:=by intro pins s σ H x vs v us Q I rx rv h;obtain⟨l,xs,y,rfl,rfl,hH,hz,q⟩:=h;cases rx;obtain⟨u,rfl,ru⟩:=rv.one;obtain⟨z,its,n,r,hl,e⟩:=I.lstM hH;refine bF bK ⟨_,e,rfl⟩ F.entry_list_append (F.args_list_append_2 _ _) (PySem.list_append l its.toArray n u (by rw[X5];omega)) ⟨e,?_⟩;refine⟨.non,_,I.lset (its':=its++[u]) hH e (by simp) (r.append (.cons ru .nil)) ?_,rfl,q⟩;rw[Xe,i5];omega
def jd1:V->List V->Hp->VK->Prop:=λx vs H Q=>∃l b xs zs,x=.ref l/\vs=[.ref b]/\H l=aa (.lst xs)/\H b=aa (.lst zs)/\xs.length+zs.length<=av/\Q .non (upd H l (.lst (xs++zs)))
theorem j5u:MtM X "list.extend" jd1:=by
 intro pins s σ H x vs v us Q I rx rv h;obtain⟨l,b,xs,zs,rfl,rfl,hH,hB,hz,q⟩:=h;cases rx;obtain⟨u,rfl,ru⟩:=rv.one;cases ru;obtain⟨z,its,n,r,hl,e⟩:=I.lstM hH;obtain⟨z2,its2,n2,r2,hl2,e2⟩:=I.lstM hB;have hsz:its.toArray.size+its2.toArray.size<=av:=by rw[X5,X5];omega
 have hlong:¬(!its.toArray.isEmpty&&cf (its.toArray.size+its2.toArray.size))=af:=by rw[j0i hsz,gq];exact xm
 refine bF hR ⟨_,e,rfl⟩ F.entry_list_extend (F.args_list_extend_2 _ _)
  (AutoSeq1.list_extend_list_list_0 l its.toArray n b its2.toArray n2 hlong (by rw[X5];omega) nofun) ⟨e,e2,?_⟩
 refine⟨.non,_,I.lset (its':=its++its2) hH e (by simp) (r.append r2) ?_,rfl,q⟩;rw[Xe];omega
def jg6:V->List V->Hp->VK->Prop:=λx vs H Q=>∃l xs i k y,x=.ref l/\vs=[.int i]/\H l=aa (.lst xs)/\-(2^63)<=i/\i<2^63/\kP i xs.length=aa k/\xs[k]?=aa y/\Q y (upd H l (.lst (xs.eraseIdx k)))
theorem j8z:MtM X "list.pop" jg6:=by
 intro pins s σ H x vs v us Q I rx rv h;obtain⟨l,xs,i,k,y,rfl,rfl,hH,h1,h2,hk,hy,q⟩:=h;cases rx;obtain⟨u,rfl,ru⟩:=rv.one;obtain⟨t,rfl⟩:=ru;obtain⟨z,its,n,r,hl,e⟩:=I.lstM hH;obtain⟨w,hw,rw'⟩:=r.get hy;refine bF iy ⟨_,e,rfl⟩ F.entry_list_pop (F.args_list_pop_2 _ _)
  (MeetsSeq.list_pop_at l its.toArray n i t k w (lV h1 h2) (by rw[X5,<-hl];exact hk) (by rw[<-hJ];exact hw) (by rw[X5];omega)) ⟨e,?_⟩
 refine⟨y,_,I.lset (its':=its.eraseIdx k) hH e ?_ (r.eraseIdx k) ?_,rw',q⟩
 .show its.toArray.eraseIdxIfInBounds k=(its.eraseIdx k).toArray;rw[List.eraseIdxIfInBounds_toArray]
 .have:=Ko xs k;omega
def jmw:R2:=λx y H Q=>∃l k xs,x=.ref l/\y=.int k/\H l=aa (.lst xs)/\-(2^63)<=k/\k<2^63/\xs.length*k.toNat<=av /\
 ∀p,H p=ah->Q (.ref p) (upd H p (.lst (aA k.toNat xs).flatten))
theorem len_rep{α:Type}(xs:List α)(k:Nat):(aA k xs).flatten.length=k*xs.length:=by
 induction k with
 |zero=>simp
 |succ k ih=>rw[Pb,Te,Xe,ih,kR,Nat.add_comm]
theorem jgq:OpR X (bj .Mult) jmw:=by
 intro pins s σ H x y v u Q I rx ry h;obtain⟨l,k,xs,rfl,rfl,hH,h1,h2,hz,q⟩:=h;cases rx;obtain⟨t,rfl⟩:=ry;obtain⟨z,its,n,r,hl,e⟩:=I.lstM hH;have hlen:its.toArray.size*k.toNat<=av:=by rw[X5,<-hl];exact hz
 have hcap:¬its.toArray.size*k.toNat>(2^63-1)/8:=by
  have:(av:Nat)<=(2^63-1)/8:=by decide
  omega
 have hfit:¬(!Builtin.List.listFitsIndex k)=af:=by rw[lV h1 h2];exact xm
 have hlong:¬cf (its.toArray.size*k.toNat)=af:=by rw[j0i hlen];exact xm
 have hnew:cV (λx1 x2=>x1++x2) #[] (aA (if its.toArray.isEmpty=af then 0 else k.toNat) its.toArray)=(aA k.toNat its).flatten.toArray:=by
  have f0:∀m:Nat,cV (λx1 x2=>x1++x2) #[] (aA m its.toArray)=(aA m its).flatten.toArray:=λm=>by have:=foldl_rep its m [];rw[tu]at this;exact this
  rw[f0];cases its with
  |nil=>simp
  |cons a r'=>rw[if_neg (by simp)]
 refine i7 (T:="list") (U:="int") (by decide) ⟨_,e,rfl⟩ (λs'=>fY s' k t) noFill_list_mul kn eO repeat_list F.slot_int_index.lookup
  (bF eO (fY s k t) jW (jQ _ _) (int___rmul___int_list k t l its.toArray n)
   ⟨e,rfl,⟨_,e,rfl⟩,bF F.slot_list_mul ⟨_,e,rfl⟩ F.entry_list_mul (F.args_list_mul_2 _ _) (AutoListH.list___mul___list_int_3 l its.toArray n k t hfit hcap hlong) ⟨e,?_⟩⟩)
 rw[hnew];exact⟨.ref _,_,I.lnew (t':=s.toks) (r.rep k.toNat) (by rw[len_rep,fK];exact hz),rfl,q _ I.fresh⟩
end
section
variable{prog:az}{w:aF}{A:aI}{E:k7u}{s:ar}
end
section
variable{X:Cx}
end
end L2
namespace Att
open PySem PySem.W PySem.Calls PyProof.Rows
theorem Df{P:lX}{h:aH}:∀(ns:List Int)(vs:List ak),WellAll P h vs (ns.map WData.int)->gX vs ns:=by
 intro ns;induction ns with
 |nil =>intro vs w;rw[cA]at w;cases w;exact .nil
 |cons n ns ih =>
  intro vs w;rw[xx]at w;cases w with
  |cons a b =>cases a;exact .cons _ _ (ih _ b)
theorem j53{l:dO}{n:Nat}(hn:l.most=aa n){P:lX}{h:aH}{args:List WData}{vals:List ak}
  (hpre:l.row.toRowW.claim.pre args=af) (hwl:WellAll P h vals args) :
  ∃a vs ns,vals=[aJ a]/\args=[WData.list (ns.map WData.int)]/\h.get? a=aa { cls:=.type "list",data:=.seq vs.toArray }/\gX vs ns/\ns.length<=n:=by
 have hsh:WShape.hasAll [] args [.list .int]=af:=(pre_splitW hpre).1;have hc:l.pre.holds [] { args:=args }=af:=(pre_splitW hpre).2;obtain⟨d,r,rfl,h1,h2⟩:=hasAllW_cons hsh;obtain rfl:=hasAllW_nil h2;obtain⟨xs,rfl,h3⟩:=hasW_list h1;obtain⟨ns,rfl⟩:=items_int h3;have hlen:ns.length<=n:=by
  unfold OpenLaw.pre at hc;have h4:(WTm.not (.lt (.lit (.int (n:Int))) (.len (.arg 0)))).holds [] { args:=[.list (ns.map .int)] }=af:=by have h4:=(holds_andW hc).1;rw[hn]at h4;exact h4
  have h5:=condW_of h4 (w_not (w_lt w_lit (w_len_list (w_arg rfl))));rw[xg]at h5;refine Nat.le_of_not_lt λq=>?_;have q':(n:Int)<((ns.length:Nat):Int):=by omega
  first
   |(rw[decide_eq_true q']at h5;exact absurd h5 (by decide))
   |(simp at h5;omega)
 cases hwl with
 |cons w1 w2 =>
  cases w2;cases w1 with
  |list ho hall=>exact⟨_,_,ns,rfl,rfl,ho,Df ns _ hall,hlen⟩
theorem j5i(l:dO)(args:List WData):l.row.toRowW.claim.post args (.bool af) args=af :=
 postW_of (r:=l.row.toRowW) (X:=(af==af))
  (show WShape.has [] (.bool af) .bool=af by first|rfl|decide|simp[WShape.has,WShape.arms,WShape.armsAll])
  (show(WTm.eq .res (.lit (.bool af))).value [] { args:=args,res:=aa (.bool af),after:=args }=aa (.bool (af==af))from w_eq_bool (w_res rfl) w_lit) rfl
theorem attach_call{l:dO}{n:Nat}{q:az}{loose:List aq}{XP:(aq->Option ak)->aH->Prop}{YP:aF->aH->Prop}{d:DefRec}
  (hn:l.most=aa n) (hdf:d.params.defaults=[])
  (call:∀(w:aF)(s₀ s₁:ar)(mg mb:k7w)(fa:ao)(o:dy)(pm cd doc:ak)(a:ao) (vs:List ak) (ns:List Int),
   Ground q loose [] XP w s₀ mg mb s₁.heap->YP w s₁.heap ->
   s₁.heap.get? fa=aa o->o.data=.func (docDef d.name d.params d.body d.scope pm cd doc)->s₁.heap.CodeRec cd d.name->mg d.name=aa (.ref fa) ->
   s₁.heap.get? a=aa { cls:=.type "list",data:=.seq vs.toArray }->gX vs ns->ns.length<=n->s₁.gens = #[] ->
   cK (aC l.prog w) gh (.call (.ref fa) ⟨[.ref a],[]⟩) (λr s'=>r=.ok (.ret (.bool af))/\OldK s₁.heap s'.heap/\s'.os=s₁.os/\eE s'.gens) s₁) :
  ic q loose XP YP l.row.toRowW d [] (λf vs=>gj f vs):=by
 intro w s₀ s₁ mg mb G Y fa o pm cd doc dV kV ho hd hcd hD hmg hg args vals as hpre hlay hrd hwl hlo;obtain rfl:dV=.none:=Dflts.none hD hdf;obtain rfl:kV=.none:=Dflts.noKw hD;obtain⟨a,vs,ns,rfl,rfl,hobj,hints,hlen⟩:=j53 hn hpre hwl;refine enter_call (bO (call w s₀ s₁ mg mb fa o pm cd doc a vs ns G Y ho (fd_plain hd) hcd hmg hobj hints hlen hg) λr s' hq=>?_);obtain⟨rfl,h2,h3,h4⟩:=hq;exact⟨.inl ⟨.bool af,.bool af,[],rfl,λ_=>rfl,.bool af,j5i l _,λ_=>⟨gm,λ_ hm=>(nomatch hm)⟩⟩,h2,h3,h4⟩
section
variable{prog:az}{w:aF}{A:aI}{E:k7u}{s:ar}{K:lN}
end
end Att
namespace L2
open PySem PySem.Spec PyProof.Rows
theorem K8:∀{vs:List ak}{ns:List Int},gX vs ns->Vals (ns.map V.int) vs
 |_,_,.nil=>.nil
 |_,_,.cons n t h=>.cons ⟨t,rfl⟩ (K8 h)
def Only(ts:List (ao×aq))(H:Hp):Prop:=(∀b,H b=ah\/(∃o xs,H b=aa (.frz o (.lst xs)))\/∃q,(b,q)∈ts/\H b=aa (.cod q))/\∀t∈ts,H t.1=aa (.cod t.2)
def jaw(ts:List (ao×aq))(h:aH):Prop:=(ts.map (·.1)).Nodup/\∀t∈ts,(∃c,PySem.W.CodeHd h c t.1)/\h.get? t.1=aa (W.tabObj #[])
theorem j25:∀{ts:List (ao×aq)} {b:ao} {q:aq},ts.lookup b=aa q->(b,q)∈ts
 |p::r,b,q,h=>by
  rw[Xi]at h;cases e:b==p.1 with
  |true=>rw[e]at h;cases h;rw[beq_iff_eq.mp e];exact xj ..
  |false=>rw[e]at h;exact xf _ (j25 h)
theorem lookup_tab:∀{ts:List (ao×aq)},(ts.map (·.1)).Nodup->∀t∈ts,ts.lookup t.1=aa t.2
 |[],_,_,h=>by cases h
 |p::r,nd,t,ht=>by
  rw[xx]at nd;rcases xn.mp ht with e|ht
  .subst e;rw[Xi,beq_self_eq_true]
  .have ne:(t.1==p.1)=ae:=beq_eq_false_iff_ne.mpr λz=>(Xl.mp nd).1 (z▸ir ht);rw[Xi,ne];exact lookup_tab (Xl.mp nd).2 t ht
theorem j96{P:az}{w:aF}{K:k7t}{mg mb:k7w}{CX:CXT}{k:Nat}{fa a:ao}{fd:aN}{x:aq}{sp:Sp}{s₁:ar}{vs:List ak}{ns:List Int}{ts:List (ao×aq)}
  (KX:K.In s₁.heap) (hns:s₁.heap.Ns ax mg) (hb:s₁.heap.Ns dU mb) (hbb:∀x:aq,x ≠ "__name__"->mb x=bh x) (hlim:s₁.heap.NoLimit)
  (hbm:∃bm ob,mg "__builtins__" = aa (.ref bm)/\bm≠dU/\s₁.heap.get? bm=aa ob/\ob.cls=.type "module"/\ob.dict=aa dU/\ob.data=.plain) (hT:jaw ts s₁.heap) (hK0:W.noTabs K=af) (hg:s₁.gens = #[])
  (ha:s₁.heap.get? a=aa { cls:=.type "list",data:=.seq vs.toArray }) (hi:gX vs ns) (hl:ns.length<=av) (hr:Room k gh)
  (F:∀base:aH,K.In base->base.Ns ax mg->FnOk P w K mg base CX k fa fd [x] sp) (hbind:∀(s:ar)(u:ak),gk s fd ⟨[u],[]⟩ [(x,u)])
  (hsp:∀H:Hp,Only ts H->SqL K H a (ns.map V.int)->sp [.ref a] H (λv H'=>v=.bl af/\∀b o,H b=aa o->H' b=aa o) λ_ _ _=>False)
  (hCX:∀H e s',CX [] H s₁ (λ_ _ _=>False) e s'->False) :
  cK (aC P w) gh (.call (.ref fa) ⟨[.ref a],[]⟩) (λr s'=>r=.ok (.ret (.bool af))/\OldK s₁.heap s'.heap/\s'.os=s₁.os/\eE s'.gens) s₁:=by
 have rv:=K8 hi;have lenV:=hi.length;have at_:∀{q:aq}{b:ao},(b,q)∈ts->s₁.heap.get? b=aa (W.tabObj #[]):=λ{q b} h=>(hT.2 _ h).2;have core:∀H:Hp,Only ts H->SqL K H a (ns.map V.int)->HOk P w H s₁.heap->(∀b,H b≠ah->b=a\/∃q,(b,q)∈ts)->(H a≠ah->K.lookup a=ah) ->
   cK (aC P w) gh (.call (.ref fa) ⟨[.ref a],[]⟩) (λr s'=>r=.ok (.ret (.bool af))/\OldK s₁.heap s'.heap/\s'.os=s₁.os/\eE s'.gens) s₁:=by
  intro H hO hS hok hA hK;have base_of:∀{b:ao}{o:dy},s₁.heap.get? b=aa o->H b=ah->(Wv s₁.heap H).get? b=aa o:=λe n=>j9u e n;have noA:∀{b:ao}{o:dy},s₁.heap.get? b=aa o->(∀vs n,o.data≠.seq vs n)->(∀vs,o.data≠.fields vs)->H b=ah:=λ{b o} e d d2=>by
   cases q:H b with
   |none=>rfl
   |some u =>
    rcases hA b (by rw[q];simp)with e'|⟨q',e'⟩
    .subst e';rw[ha]at e;cases e;exact absurd rfl (d _ _)
    .rw[at_ e']at e;cases e;exact absurd rfl (d2 _)
  have nsK:∀{b:ao}{m:k7w},s₁.heap.Ns b m->(Wv s₁.heap H).Ns b m:=λ{b m} ⟨o,es,ep,e,d,r⟩=>⟨o,es,ep,base_of e (noA e (λ_ _ z=>by rw[d]at z;cases z) λ_ z=>by rw[d]at z;cases z),d,r⟩
  have hKb:K.In (Wv s₁.heap H):=λb o e=>base_of (KX b o e) (by
   cases q:H b with
   |none=>rfl
   |some u =>
    rcases hA b (by rw[q];simp)with e'|⟨q',e'⟩
    .subst e'
     rw[hK (by rw[q];simp)]at e;cases e
    .have e2:=KX b o e
     rw[at_ e']at e2
     have h2:=Xp.mp hK0 (b,o) (W.mem_of_lookupK e)
     cases e2
     exact absurd (show ae=af from h2) xm)
  have hM:Mod K mg (Wv s₁.heap H):=⟨hKb,nsK hns,⟨mb,nsK hb,hbb⟩,(let ⟨mc,h1,h2⟩:=hlim;⟨mc,nsK h1,h2⟩),
   let ⟨bm,ob,b1,b2,b3,b4,b5,b6⟩:=hbm;⟨bm,ob,b1,b2,base_of b3 (noA b3 (λ_ _ z=>by rw[b6]at z;cases z) λ_ z=>by rw[b6]at z;cases z),b4,b5,b6⟩⟩
  have e0:Env0 P w K mg (Wv s₁.heap H) gh [] s₁ H:=⟨rfl,hM,λb o e=>jdh e,kT (j6d _ _),trivial,λb hb=>absurd (show b∈([]:List ao)from hb) (by simp),hok,.of_eq hg⟩
  refine bO ((F _ hKb (nsK hns)).run gh [] s₁ H ⟨[.ref a],[]⟩ [.ref a] [.ref a] _ _ hr e0 (hbind s₁ (.ref a)) (.cons rfl .nil) (hsp H hO hS)) λr s' h=>?_;cases r with
  |error e=>exact(hCX H e s' h).elim
  |ok fl =>
   cases fl with
   |next=>exact aU h
   |brk=>exact aU h
   |cont=>exact aU h
   |ret u =>
    obtain⟨v,H',os,bare,un,hok',r',q,sm⟩:=h;have q':v=.bl af:=q;subst q';obtain rfl:u=bp af:=r';have main:∀b o,s₁.heap.get? b=aa o->s'.heap.get? b=aa o\/((∃q,(b,q)∈ts)/\o=W.tabObj #[]/\∃ps,s'.heap.get? b=aa (W.tabObj ps)):=λb o e=>by
     cases q:H b with
     |none=>exact .inl (un.keep b o e q (by intro z;exact absurd (show b∈([]:List ao)from z) (by simp)) (by simp))
     |some u =>
      rcases hO.1 b with z|⟨ob,xs,z⟩|⟨q',hq,z⟩
      .rw[q]at z;cases z
      .have z2:=un.frzs b ob _ z;obtain⟨e1,_⟩:=hok b _ z;obtain⟨e2,_⟩:=hok' b _ z2;rw[e]at e1;cases e1;exact .inl e2
      .obtain⟨ps,e2,_⟩:=(show jz P w H' s'.heap b (.cod q')from hok' b _ (sm b _ z))
       rw[at_ hq]at e;exact .inr ⟨⟨q',hq⟩,(aE e).symm,ps,e2⟩
    refine⟨rfl,⟨λb o e=>?_,λb o e=>?_⟩,os,bare⟩
    .rcases main b o e with z|⟨⟨q,hq⟩,rfl,ps,z⟩
     .exact .inl z
     .obtain⟨c,hc⟩:=(hT.2 _ hq).1;exact .inr (.inl ⟨(hc.tab (at_ hq)).isCodeTable,rfl,#[],ps,rfl,by rw[z,Array.empty_append]⟩)
    .rcases main b o e with z|⟨_,_,ps,z⟩
     .exact⟨o,z⟩
     .exact⟨_,z⟩
 have lkT:∀b q,ts.lookup b=aa q->(b,q)∈ts:=λb q h=>j25 h;have ofT:∀t∈ts,ts.lookup t.1=aa t.2:=lookup_tab hT.1;have okT:∀(H:Hp) b q,(b,q)∈ts->jz P w H s₁.heap b (.cod q):=λH b q h=>⟨#[],at_ h,trivial,λpos cv z=>by cases z⟩
 cases hk:K.lookup a with
 |some o =>
  have e:=KX a o hk;rw[ha]at e;cases e;refine core (λb=>(ts.lookup b).map HO.cod) ⟨λb=>?_,λt ht=>by show(ts.lookup t.1).map HO.cod=_;rw[ofT t ht];rfl⟩ (.inr ⟨_,vs.toArray,_,hk,rfl,rfl,rfl,by rw[X5,lenV];exact hl,by simpa using rv⟩) (λb u z=>?_) (λb z=>?_) λz=>?_
  .cases e:ts.lookup b with
   |none=>exact .inl (by show(ts.lookup b).map HO.cod=_;rw[e];rfl)
   |some q=>exact .inr (.inr ⟨q,lkT b q e,by show(ts.lookup b).map HO.cod=_;rw[e];rfl⟩)
  .obtain⟨q,e,rfl⟩:=Ti.mp z;exact okT _ b q (lkT b q e)
  .cases e:ts.lookup b with
   |none=>exact absurd (by show(ts.lookup b).map HO.cod=_;rw[e];rfl) z
   |some q=>exact .inr ⟨q,lkT b q e⟩
  .cases e:ts.lookup a with
   |none=>exact absurd (by show(ts.lookup a).map HO.cod=_;rw[e];rfl) z
   |some q=>have:=at_ (lkT a q e);rw[ha]at this;cases this
 |none =>
  have na:∀q,(a,q)∉ts:=λq h=>by have:=at_ h;rw[ha]at this;cases this
  refine core (λb=>if b=a then aa (.frz { cls:=.type "list",data:=.seq vs.toArray } (.lst (ns.map V.int))) else(ts.lookup b).map HO.cod) ⟨λb=>?_,λt ht=>?_⟩ (.inl (.inr ⟨{ cls:=.type "list",data:=.seq vs.toArray },if_pos rfl⟩)) (λb u z=>?_) (λb z=>?_) λ_=>hk
  .by_cases hb:b=a
   .exact .inr (.inl ⟨_,_,if_pos hb⟩)
   .cases e:ts.lookup b with
    |none=>exact .inl (by show(if b=a then _ else _)=_;rw[if_neg hb,e];rfl)
    |some q=>exact .inr (.inr ⟨q,lkT b q e,by show(if b=a then _ else _)=_;rw[if_neg hb,e];rfl⟩)
  .have nb:t.1≠a:=λz=>na t.2 (z▸ht);show(if t.1=a then _ else _)=_;rw[if_neg nb,ofT t ht];rfl
  .by_cases hb:b=a
   .have z':=(if_pos hb).symm.trans z;cases z';subst hb;exact⟨ha,by rw[xg];exact hl,vs,_,rv,ha⟩
   .have z':=(if_neg hb).symm.trans z;obtain⟨q,e,rfl⟩:=Ti.mp z';exact okT _ b q (lkT b q e)
  .by_cases hb:b=a
   .exact .inl hb
   .cases e:ts.lookup b with
    |none=>exact absurd (by show(if b=a then _ else _)=_;rw[if_neg hb,e];rfl) z
    |some q=>exact .inr ⟨q,lkT b q e⟩
theorem walk_of{l:dO}{n k:Nat}{q:az}{loose:List aq}{XP:(aq->Option ak)->aH->Prop}{YP:aF->aH->Prop}{d:DefRec}{K:lX->k7t}{CX:aF->CXT}{sp:aF->Sp}{x:aq}{ts:aF->List (ao×aq)}
  (hn:l.most=aa n) (hn2:n<=av) (hdf:d.params.defaults=[]) (hr:Room k gh)
  (hY:∀(w:aF)(h:aH),YP w h->(K w.params).In h/\jaw (ts w) h) (hK0:∀w:aF,W.noTabs (K w.params)=af)
  (F:∀(w:aF)(mg:k7w)(fa:ao)(h:aH),(K w.params).In h->h.Ns ax mg->mg d.name=aa (.ref fa) ->
   ∃fd:aN,(∀(s:ar)(u:ak),gk s fd ⟨[u],[]⟩ [(x,u)]) /\
    ∀base:aH,(K w.params).In base->base.Ns ax mg->FnOk l.prog w (K w.params) mg base (CX w) k fa fd [x] (sp w))
  (hsp:∀(w:aF)(H:Hp)(a:ao)(ns:List Int),ns.length<=n->Only (ts w) H->SqL (K w.params) H a (ns.map V.int)->sp w [.ref a] H (λv H'=>v=.bl af/\∀b o,H b=aa o->H' b=aa o) λ_ _ _=>False)
  (hCX:∀(w:aF)(H:Hp)(s:ar)(e:ak)(s':ar),CX w [] H s (λ_ _ _=>False) e s'->False) :
  ic q loose XP YP l.row.toRowW d [] (λf vs=>gj f vs):=by
 refine Att.attach_call hn hdf λw s₀ s₁ mg mb fa o pm cd doc a vs ns G Y ho hd hcd hmg hobj hints hlen hg=>?_;obtain⟨KX,hT⟩:=hY w _ Y;obtain⟨fd,hb,hF⟩:=F w mg fa _ KX G.T.g hmg;exact j96 KX G.T.g G.T.b G.T.builtins G.T.nolimit G.T.bmain hT (hK0 w) hg hobj hints (Xg hlen hn2) hr hF hb (λH hO hS=>hsp w H a ns hlen hO hS) λH e s'=>hCX w H s₁ e s'
end L2
/- THE LAST THEOREM (shape;LID,My.* are yours):
 My.Adr: a structure of the addresses that your layer names (classes,functions);My.Txt K t: a structure (Prop) of the equations over K;
 My.txt_mk:{K} {implicit addresses ..} (e1:bc K ax "law" = aa (aa (.ref f))) (e2:K.lookup f=aa ⟨oc,od,.func (fnOf "law" "law" params body scope dV kV doc pm an cdv ct),sl⟩) (e3:codeIn K cdv "law" = af) ..:∃t,My.Txt K t
(the tactic k_is has no namespace: write k_is) -/
namespace L2
open PySem PySem.Spec PyProof.Rows
noncomputable def inClass(s:aS)(j:Nat):aS:=match s with
 |.ClassDef _ _ _ body _ _ _ _ _ _ _=>body.getD j (.Pass ⟨0,0,0,0⟩)
 |_=>.Pass ⟨0,0,0,0⟩
noncomputable def zr(s:aS):iD:=match s with
 |.FunctionDef _ a _ _ _ _ _ _ _ _=>a
 |_=>{ posonlyargs:=[],args:=[],vararg:=ah,kwonlyargs:=[],kw_defaults:=[],kwarg:=ah,defaults:=[] }
noncomputable def jg(s:aS):List aS:=match s with
 |.FunctionDef _ _ b _ _ _ _ _ _ _=>b
 |_=>[]
noncomputable def j0(s:aS):bC:=match s with
 |.FunctionDef _ _ _ _ _ _ sc _ _ _=>sc
 |_=>{ kind:=.function,names:=[],isGenerator:=ae,isCoroutine:=ae }
noncomputable abbrev CX0:CXT:=λ_ _ _ _ _ _=>False
noncomputable abbrev E0:XK:=λ_ _ _=>False
theorem Vi{X:Cx}:We CX0 X E0:=λ_ _ _ _ _ _ _ h=>h.elim
structure Fun(K:k7t)(x qual:aq)(st:aS)(f:ao)(fd:aN):Prop where
 ex:∃(oc:ak)(od:Option ao)(dV kV doc pm:ak)(an:Option ao)(cdv ct:ak)(osl:Array (Option ak)),
  fd=W.fnOf x qual (zr st) (jg st) (j0 st) dV kV doc pm an cdv ct/\K.lookup f=aa ⟨oc,od,.func fd,osl⟩/\W.codeIn K cdv qual=af
 kp:W.keepIn K (.ref f)=af
section
variable{P:az}{w:aF}{K:k7t}{mg:k7w}{base:aH}
theorem Fun.ok{x qual:aq}{st:aS}{f:ao}{fd:aN}{N ps:List aq}{k:Nat}{sp:Sp}(F:Fun K x qual st f fd)(S:FnScope N ps (j0 st))(len:∀vs H Q E,sp vs H Q E->vs.length=ps.length)
  (hbody:∀(cdv:ak)(A:aI)(outer:List dz)(s:ar)(H:Hp)(vs:List V)(Q:VK) (E:XK),Room k (A.deeper (bB qual (j0 st) s.heap.objs.size f cdv))->sp vs H Q E ->
   ∃t,PSs (zm CX0 P w K mg base N qual (j0 st) f cdv A outer s H E).nox (jg st) t/\t { nx:=λ_ H'=>Q .non H',rt:=Q } (start N vs) H):FnOk P w K mg base CX0 (k+1) f fd ps sp:=by
 obtain⟨oc,od,dV,kV,doc,pm,an,cdv,ct,osl,rfl,lk,hcd⟩:=F.ex;refine Ek lk hcd S len λA outer s H vs Q E hr hsp=>?_;obtain⟨t,h,q⟩:=hbody cdv A outer s H vs Q E hr hsp;exact⟨t,h.nox,q⟩
theorem Fun.binds{x qual:aq}{st:aS}{f:ao}{kV doc pm:ak}{an:Option ao}{cdv ct:ak}{ps:List aq}(F:Fun K x qual st f (W.fnOf x qual (zr st) (jg st) (j0 st) .none kV doc pm an cdv ct))
  (h:∀(kV doc pm:ak)(an:Option ao)(cdv ct:ak)(us:List ak),us.length=ps.length->cY (W.fnOf x qual (zr st) (jg st) (j0 st) .none kV doc pm an cdv ct) ⟨us,[]⟩=pure (ps.zip us)):Binds K (W.fnOf x qual (zr st) (jg st) (j0 st) .none kV doc pm an cdv ct) ps []:=.all (h kV doc pm an cdv ct)
theorem Zt{x qual:aq}{st:aS}{f:ao}{oc:ak}{od an:Option ao}{osl:Array (Option ak)}{dV kV doc pm cdv ct:ak}(l:K.lookup f=aa ⟨oc,od,.func (W.fnOf x qual (zr st) (jg st) (j0 st) dV kV doc pm an cdv ct),osl⟩)
  (c:W.codeIn K cdv qual=af) (k:W.keepIn K (.ref f)=af):Fun K x qual st f (W.fnOf x qual (zr st) (jg st) (j0 st) dV kV doc pm an cdv ct):=⟨⟨oc,od,dV,kV,doc,pm,an,cdv,ct,osl,rfl,l,c⟩,k⟩
end
section
variable{X:Cx}
end
theorem Mu{A B:Prop}(h:B):if ae=af then A else B:=by rw[if_neg xm];exact h
theorem Mt{A B:Prop}(h:A):if af=af then A else B:=by rw[if_pos rfl];exact h
theorem jhq{c A B:Prop}[Decidable c](h1:c->A)(h2:¬c->B):if c then A else B:=by
 by_cases h:c
 .rw[if_pos h];exact h1 h
 .rw[if_neg h];exact h2 h
def j4(H H':Hp):Prop:=∀b o,H b=aa o->H' b=aa o
theorem j4.refl(H:Hp):j4 H H:=λ_ _ h=>h
theorem j4.trans{H H1 H2:Hp}(a:j4 H H1)(b:j4 H1 H2):j4 H H2:=λc o h=>b c o (a c o h)
theorem j4.free{H H':Hp}(e:j4 H H'){l:ao}(h:H' l=ah):H l=ah:=by
 cases q:H l with
 |none=>rfl
 |some o =>rw[e l o q]at h;cases h
theorem j4.seq{K:k7t}{H H':Hp}{a:ao}{xs:List V}(e:j4 H H')(h:SqL K H a xs):SqL K H' a xs:=by
 rcases h with (h|⟨o,h⟩)|h
 .exact .inl (.inl (e _ _ h))
 .exact .inl (.inr ⟨o,e _ _ h⟩)
 .exact .inr h
set_option genInjectivity true in
inductive D where
 |non
 |bl (b:Bool)
 |int (i:Int)
 |str (x:aq)
 |tup (ds:List D)
 |lst (ds:List D)
 |dct (ks:List (List Int)) (ds:List D)
 |sct (kvs:List (aq×Int))
 |fn (x:aq) (cs:List D)
noncomputable def kvI(kvs:List (aq×Int)):List (Key×V):=kvs.map λp=>(.inr p.1,.int p.2)
noncomputable def v8(x:aq):aq:=x ++ ".<locals>." ++ "<lambda>"
noncomputable abbrev Tx:=iD×au×bC
noncomputable def jmz:au->Option Tx
 |.Lambda a b sc _=>aa (a,b,sc)
 |.Call _ es _ _=>match es.getLast? with
  |some (.Lambda a b sc _)=>aa (a,b,sc)
  |_=>ah
 |_=>ah
noncomputable def jhb(b:List aS):Option Tx:=match b.getLast? with
 |some (.Return (aa e) _)=>jmz e
 |_=>ah
noncomputable def j42(K:k7t)(x:aq):Option Tx:=match W.nsIn K ax x with
 |some (aa (.ref f))=>match K.lookup f with
  |some ⟨_,_,.func fd,_⟩=>match fd.body with
   |.stmts b=>jhb b
   |_=>ah
  |_=>ah
 |_=>ah
noncomputable def Vn(sc:bC):List aq:=((sc.names.filter λp=>p.2==.free).map (·.1)).reverse
def vo(H:Hp):List ao->List V->Prop
 |[],vs=>vs=[]
 |c::cs,vs=>∃v r o u,vs=v::r/\H c=aa (.frz o (.own 0))/\o.data=.cell (aa u)/\RelV v u/\vo H cs r
theorem vo.mono{H H':Hp}(g:j4 H H'):∀{cs:List ao}{vs:List V},vo H cs vs->vo H' cs vs
 |[],_,h=>h
 |_::_,_,⟨v,r,o,u,e,h,d,rv,l⟩=>⟨v,r,o,u,e,g _ _ h,d,rv,l.mono g⟩
structure LamAt(K:k7t)(H:Hp)(x:aq)(a c:ao)(t:Tx)(cl:List (aq×ao))(vs:List V):Prop where
 tx:j42 K x=aa t
 fo:∃pm ctv,H a=aa (.frz (W.kla_obj "<lambda>" (v8 x) t.1 t.2.1 t.2.2 cl pm c ctv) (.own 0))
 co:∃oc,H c=aa (.frz oc (.own 0))/\j4m oc (v8 x)
 nm:cl.map (·.1)=Vn t.2.2
 nd:(cl.map (·.2)).Nodup
 cs:vo H (cl.map (·.2)) vs
theorem LamAt.mono{K:k7t}{H H':Hp}{x:aq}{a c:ao}{tx:Tx}{cl:List (aq×ao)}{vs:List V}(g:j4 H H')(h:LamAt K H x a c tx cl vs):LamAt K H' x a c tx cl vs :=
 ⟨h.tx,let ⟨pm,ctv,e⟩:=h.fo;⟨pm,ctv,g _ _ e⟩,let ⟨oc,e,q⟩:=h.co;⟨oc,g _ _ e,q⟩,h.nm,h.nd,h.cs.mono g⟩
noncomputable def del(H:Hp)(A:List ao):Hp:=λb=>if b∈A then ah else H b
section
variable{H H' F:Hp}{A A':List ao}{a b:ao}{o:HO}
theorem vm(h:b∈A):del H A b=ah:=if_pos h
theorem j5(h:b∉A):del H A b=H b:=if_neg h
theorem of_del(h:del H A b=aa o):b∉A/\H b=aa o:=by
 by_cases e:b∈A
 .rw[vm e]at h;cases h
 .rw[j5 e]at h;exact⟨e,h⟩
theorem je(g:j4 H H'):j4 (del H A) (del H' A):=λb o h=>by obtain⟨n,e⟩:=of_del h;rw[j5 n];exact g b o e
end
theorem j4.seqT{K:k7t}{H H':Hp}{a:ao}{xs:List V}(e:j4 H H')(h:SqT K H a xs):SqT K H' a xs:=by
 rcases h with (h|⟨o,h⟩)|h
 .exact .inl (.inl (e _ _ h))
 .exact .inl (.inr ⟨o,e _ _ h⟩)
 .exact .inr h
mutual
def Enc(K:k7t)(H:Hp):D->V->Prop
 |.non,v=>v=.non
 |.bl b,v=>v=.bl b
 |.int i,v=>v=.int i
 |.str x,v=>v=.str x
 |.tup ds,v=>∃a xs,v=.ref a/\SqT K H a xs/\j6 K H ds xs
 |.lst ds,v=>∃a xs,v=.ref a/\SqL K H a xs/\j6 K H ds xs
 |.dct ks ds,v=>∃(a:ao)(xs:List (List Int×ao×ak)) (ep:Nat) (vs:List V),v=.ref a/\H a=aa (.dI xs ep)/\ks=(xs.map λx=>x.1)/\(∀x∈xs,SqT K H x.2.1 (x.1.map V.int))/\Vals vs (xs.map λx=>x.2.2)/\j6 K H ds vs
 |.sct kvs,v=>∃a:ao,v=.ref a/\H a=aa (.dK (kvI kvs))
 |.fn x ds,v=>∃(a c:ao)(tx:Tx)(cl:List (aq×ao)) (vs:List V),v=.ref a/\LamAt K H x a c tx cl vs/\j6 K (del H (cl.map (·.2))) ds vs
def j6(K:k7t)(H:Hp):List D->List V->Prop
 |[],xs=>xs=[]
 |d::ds,xs=>∃x r,xs=x::r/\Enc K H d x/\j6 K H ds r
end
mutual
theorem Enc.mono{K:k7t}{H H':Hp}(g:j4 H H'):∀{d:D}{v:V},Enc K H d v->Enc K H' d v
 |.non,_,h=>h
 |.bl _,_,h=>h
 |.int _,_,h=>h
 |.str _,_,h=>h
 |.tup _,_,⟨a,xs,e,q,l⟩=>⟨a,xs,e,g.seqT q,j6.mono g l⟩
 |.lst _,_,⟨a,xs,e,q,l⟩=>⟨a,xs,e,g.seq q,j6.mono g l⟩
 |.dct _ _,_,⟨a,xs,ep,vs,e,q,ek,kt,rv,l⟩=>⟨a,xs,ep,vs,e,g _ _ q,ek,λx hx=>g.seqT (kt x hx),rv,j6.mono g l⟩
 |.sct _,_,⟨a,e,q⟩=>⟨a,e,g _ _ q⟩
 |.fn _ _,_,⟨a,c,tx,cl,vs,e,q,l⟩=>⟨a,c,tx,cl,vs,e,q.mono g,j6.mono (je g) l⟩
theorem j6.mono{K:k7t}{H H':Hp}(g:j4 H H'):∀{ds:List D}{xs:List V},j6 K H ds xs->j6 K H' ds xs
 |[],_,h=>h
 |_::_,_,⟨x,r,e,h,l⟩=>⟨x,r,e,Enc.mono g h,j6.mono g l⟩
end
section
variable{K:k7t}{H H':Hp}{ds ds':List D}{xs ys:List V}
theorem j6.length:∀{ds:List D}{xs:List V},j6 K H ds xs->xs.length=ds.length
 |[],_,h=>by cases h;rfl
 |_::_,_,⟨x,r,e,_,l⟩=>by subst e;simp[j6.length l]
theorem j6.get:∀{ds:List D}{xs:List V}{i:Nat}{d:D},j6 K H ds xs->ds[i]?=aa d->∃x,xs[i]?=aa x/\Enc K H d x
 |[],_,i,d,_,e=>by simp at e
 |_::_,_,0,d,⟨x,r,e,h,_⟩,q=>by subst e;simp at q;subst q;exact⟨x,rfl,h⟩
 |_::_,_,i+1,d,⟨x,r,e,_,l⟩,q=>by subst e;simp at q;obtain⟨y,hy,hd⟩:=j6.get l q;exact⟨y,by simpa using hy,hd⟩
theorem j6.append:∀{ds ds':List D}{xs ys:List V},j6 K H ds xs->j6 K H ds' ys->j6 K H (ds++ds') (xs++ys)
 |[],_,_,_,h,h'=>by cases h;exact h'
 |_::_,_,_,_,⟨x,r,e,h,l⟩,h'=>by subst e;exact⟨x,_,rfl,h,j6.append l h'⟩
theorem j6.one{d:D}{x:V}(h:Enc K H d x):j6 K H [d] [x]:=⟨x,[],rfl,h,rfl⟩
theorem j6.take:∀{ds:List D}{xs:List V}(n:Nat),j6 K H ds xs->j6 K H (ds.take n) (xs.take n)
 |[],_,n,h=>by cases h;simp;exact rfl
 |_::_,_,0,⟨x,r,e,h,l⟩=>by simp;exact rfl
 |_::_,_,n+1,⟨x,r,e,h,l⟩=>by subst e;exact⟨x,_,rfl,h,j6.take n l⟩
theorem j6.drop:∀{ds:List D}{xs:List V}(n:Nat),j6 K H ds xs->j6 K H (ds.drop n) (xs.drop n)
 |[],_,n,h=>by cases h;simp;exact rfl
 |_::_,_,0,h=>h
 |_::_,_,n+1,⟨x,r,e,h,l⟩=>by subst e;exact j6.drop n l
theorem j6.rep{ds:List D}{xs:List V}(h:j6 K H ds xs):∀k:Nat,j6 K H (aA k ds).flatten (aA k xs).flatten
 |0=>rfl
 |k+1=>by rw[Pb,Pb,Te,Te];exact h.append (j6.rep h k)
theorem j6.ints(ns:List Int):j6 K H (ns.map D.int) (ns.map V.int):=by
 induction ns with
 |nil=>exact rfl
 |cons n ns ih=>exact⟨_,_,rfl,rfl,ih⟩
end
section
variable{H H' F:Hp}{A A':List ao}{a b:ao}{o:HO}
theorem Jh:del H []=H:=funext λb=>if_neg (by simp)
theorem jk:j4 (del H A) H:=λ_ _ h=>(of_del h).2
theorem vd(h:∀b,b∈A'->b∈A):j4 (del H A) (del H A'):=λb o e=>by obtain⟨n,e⟩:=of_del e;rw[j5 λz=>n (h b z)];exact e
theorem Ve(h:a∈A):del (upd H a o) A=del H A:=funext λb=>by
 by_cases e:b∈A
 .rw[vm e,vm e]
 .rw[j5 e,j5 e,jj];rintro rfl;exact e h
noncomputable def mrg(A:List ao)(H F:Hp):Hp:=λb=>if b∈A then H b else F b
theorem Jl(h:b∈A):mrg A H F b=H b:=if_pos h
theorem jw(h:b∉A):mrg A H F b=F b:=if_neg h
theorem Zi(h:∀a∈A,F a=ah):del (mrg A H F) A=F:=funext λb=>by
 by_cases e:b∈A
 .rw[vm e,h b e]
 .rw[j5 e,jw e]
theorem Bq(g:j4 (del H A) F):j4 H (mrg A H F):=λb o e=>by
 by_cases z:b∈A
 .rw[Jl z];exact e
 .rw[jw z];exact g b o (by rw[j5 z];exact e)
theorem j7(h:H a=ah):j4 H (upd H a o):=λb u q=>by rw[jj (zq q h)];exact q
end
def Hd(o:Option HO):Prop:=(∃xs,o=aa (.lst xs))\/∃xs ep,o=aa (.dI xs ep)
section
variable{X:Cx}{pins:k7v}{σ σ':St}{H F:Hp}{s s':ar}{A:List ao}
theorem Inv.noFs(I:Inv X pins σ H s){b:ao}(hb:b∈X.fs):H b=ah:=by
 have q:b∈frs X.stack:=by
  rcases I.ok.stk with e|⟨e,_⟩
  .rw[e];exact hb
  .rw[e];have hb:b∈frs X.outer:=hb;unfold frs at hb ⊢;rw[cH];split
   .exact hb
   .exact xf _ hb
 exact I.stkFree b q
theorem Inv.hide(I:Inv X pins σ H s)(hA:∀a∈A,Hd (H a)):Inv X (pins++Yt A s.heap) σ (del H A) s where
 ok:=I.ok
 os:=I.os
 bare:=I.bare
 base:={
  keep:=I.base.keep
  slot:=I.base.slot
  free:=λb o e n hx=>by
   have q:=I.base.free b o e n hx
   by_cases z:b∈A
   .exact vm z
   .rw[j5 z];exact q
  there:=I.base.there
  tups:=λb xs e=>by
   have q:=I.base.tups b xs e
   rw[j5];exact q
   intro z;rcases hA b z with ⟨ys,e'⟩|⟨ys,ep,e'⟩<;>(rw[q]at e';cases e')
  frzs:=λb o u e=>by
   have q:=I.base.frzs b o u e
   rw[j5];exact q
   intro z;rcases hA b z with ⟨ys,e'⟩|⟨ys,ep,e'⟩<;>(rw[q]at e';cases e')
  tbls:=λb ps e=>by
   obtain⟨more,q⟩:=I.base.tbls b ps e
   refine⟨more,?_⟩
   rw[j5];exact q
   intro z;rcases hA b z with ⟨ys,e'⟩|⟨ys,ep,e'⟩<;>(rw[q]at e';cases e') }
 loc:=I.loc
 cell:=I.cell
 free:=by
  by_cases z:X.env.locals∈A
  .exact vm z
  .rw[j5 z];exact I.free
 freeC:=λx c e=>by
  by_cases z:c∈A
  .exact vm z
  .rw[j5 z];exact I.freeC x c e
 pin:=λp hp=>by
  rw[<-pq]at hp;rcases Pn.mp hp with hp|hp
  .obtain⟨h1,h2,h3⟩:=I.pin p hp;refine⟨h1,?_,h3⟩;by_cases z:p.1∈A
   .exact vm z
   .rw[j5 z];exact h2
  .obtain⟨h1,h2⟩:=Km hp;rcases hA _ h1 with ⟨xs,e⟩|⟨xs,ep,e⟩
   .refine⟨h2,vm h1,λz=>?_,λz=>?_,λv z=>?_⟩
    .rw[z,I.free]at e;cases e
    .rw[I.noFs z]at e;cases e
    .obtain⟨_,its,n,_,q⟩:=(show jz X.prog X.w H s.heap p.1 (.lst xs)from I.hok _ _ e)
     rw[h2]at q;rw[aE q]at z;cases z
   .refine⟨h2,vm h1,λz=>?_,λz=>?_,λv z=>?_⟩
    .rw[z,I.free]at e;cases e
    .rw[I.noFs z]at e;cases e
    .obtain⟨_,_,_,ob,es,q,_,qd,_⟩:=(show jz X.prog X.w H s.heap p.1 (.dI xs ep)from I.hok _ _ e)
     rw[h2]at q;rw[aE q,qd]at z;cases z
 hok:=λa o e=>by
  obtain⟨n,e⟩:=of_del e;refine jz.stay (I.hok a o e) (λb u _ q=>q) (λb q=>?_) (λb xs q=>?_) (λb _ _ q=>?_)
  .rw[j5];exact q;intro z;rcases hA b z with ⟨ys,e'⟩|⟨ys,ep,e'⟩<;>(rw[q]at e';cases e')
  .rw[j5];exact q;intro z;rcases hA b z with ⟨ys,e'⟩|⟨ys,ep,e'⟩<;>(rw[q]at e';cases e')
  .rw[j5];exact q;intro z;rcases hA b z with ⟨ys,e'⟩|⟨ys,ep,e'⟩<;>(rw[q]at e';cases e')
 len:=I.len
theorem Inv.unhide(I0:Inv X pins σ H s)(hA:∀a∈A,Hd (H a))(I:Inv X (pins++Yt A s.heap) σ' F s') :
  (∀a∈A,F a=ah)/\Inv X pins σ' (mrg A H F) s':=by
 have pinned:∀a∈A,∃o,s.heap.get? a=aa o/\s'.heap.get? a=aa o/\F a=ah:=λa ha=>by
  have ob:∃o,s.heap.get? a=aa o:=by
   rcases hA a ha with ⟨xs,e⟩|⟨xs,ep,e⟩
   .obtain⟨_,its,n,_,q⟩:=(show jz X.prog X.w H s.heap a (.lst xs)from I0.hok _ _ e)
    exact⟨_,q⟩
   .obtain⟨_,_,_,o,es,q,_⟩:=(show jz X.prog X.w H s.heap a (.dI xs ep)from I0.hok _ _ e)
    exact⟨_,q⟩
  obtain⟨o,q⟩:=ob;obtain⟨h1,h2,_⟩:=I.pin (a,_) (Xm _ (Xm _ (Zq ha q)));exact⟨_,q,h1,h2⟩
 have hF:∀a∈A,F a=ah:=λa ha=>let ⟨_,_,_,q⟩:=pinned a ha;q;have out:∀{b:ao}{o:HO},F b=aa o->b∉A:=λ{b o} e z=>by rw[hF b z]at e;cases e
 refine⟨hF,?_⟩;exact{
  ok:=I.ok
  os:=I.os
  bare:=I.bare
  base:={
   keep:=I.base.keep
   slot:=I.base.slot
   free:=λb o e n hx=>by
    by_cases z:b∈A
    .rw[Jl z];exact I0.base.free b o e n hx
    .rw[jw z];exact I.base.free b o e n hx
   there:=I.base.there
   tups:=λb xs e=>by
    have q:=I.base.tups b xs e
    rw[jw (out q)];exact q
   frzs:=λb o u e=>by
    have q:=I.base.frzs b o u e
    rw[jw (out q)];exact q
   tbls:=λb ps e=>by
    obtain⟨more,q⟩:=I.base.tbls b ps e
    exact⟨more,by rw[jw (out q)];exact q⟩ }
  loc:=I.loc
  cell:=I.cell
  free:=by
   by_cases z:X.env.locals∈A
   .rw[Jl z];exact I0.free
   .rw[jw z];exact I.free
  freeC:=λx c e=>by
   by_cases z:c∈A
   .rw[Jl z];exact I0.freeC x c e
   .rw[jw z];exact I.freeC x c e
  pin:=λp hp=>by
   obtain⟨h1,h2,h3⟩:=I.pin p (by rw[<-pq];exact cZ _ hp)
   refine⟨h1,?_,h3⟩
   by_cases z:p.1∈A
   .rw[Jl z];exact(I0.pin p hp).2.1
   .rw[jw z];exact h2
  hok:=λa o e=>by
   by_cases z:a∈A
   .rw[Jl z]at e
    obtain⟨o',q1,q2,_⟩:=pinned a z
    rcases hA a z with ⟨xs,e'⟩|⟨xs,ep,e'⟩
    .rw[e']at e;cases e
     obtain⟨hl,its,n,r,q⟩:=(show jz X.prog X.w H s.heap a (.lst xs)from I0.hok _ _ e')
     rw[q]at q1;cases q1
     exact⟨hl,its,n,r,q2⟩
    .rw[e']at e;cases e
     obtain⟨z1,z2,z3,ob,es,q,z4⟩:=(show jz X.prog X.w H s.heap a (.dI xs ep)from I0.hok _ _ e')
     rw[q]at q1;cases q1
     exact⟨z1,z2,z3,_,es,q2,z4⟩
   .rw[jw z]at e
    refine jz.stay (I.hok a o e) (λb u _ q=>q) (λb q=>?_) (λb xs q=>?_) (λb _ _ q=>?_)
    .rw[jw (out q)];exact q
    .rw[jw (out q)];exact q
    .rw[jw (out q)];exact q
  len:=I.len }
end
def Qk(X:Cx)(e:au):TE:=λσ H Q=>∀pins s,Inv X pins σ H s->ay (aC X.prog X.w) X.A (aD e X.env) (EP X pins σ Q) X.xe s
def j83(X:Cx)(e:au):TT:=λσ H Q=>∀pins s,Inv X pins σ H s->ay (aC X.prog X.w) X.A (eU e X.env (aD e X.env)) (TP X pins σ Q) X.xe s
def Wl(X:Cx)(es:List au):TA:=λσ H Q=>∀pos pins s,Inv X pins σ H s->ay (aC X.prog X.w) X.A (gd (aQ pos (aj es X.env))) (AP X pins σ Q) X.xe s
def j84(X:Cx)(st:aS):TS:=λD σ H=>∀pins s,Inv X pins σ H s->ay (aC X.prog X.w) X.A (exec st X.env) (SP X pins D) X.xe s
def Vh(X:Cx)(sts:List aS):TS:=λD σ H=>∀pins s,Inv X pins σ H s->ay (aC X.prog X.w) X.A (execs sts X.env) (SP X pins D) X.xe s
def j85(X:Cx)(tg iter:au):TI:=λσ H R=>∀pins s,Inv X pins σ H s ->
 ay (aC X.prog X.w) X.A (aD iter X.env) (λv s1=>ay (aC X.prog X.w) X.A (iQ v) (PIE X pins σ tg R) X.xe s1) X.xe s
section
variable{X:Cx}{e tg:au}{es:List au}{st:aS}{sts:List aS}{σ:St}{H:Hp}
theorem peS:PE X e (Qk X e):=λpins s _ _ _ I h=>h pins s I
theorem ptS:PT X e (j83 X e):=λpins s _ _ _ I h=>h pins s I
theorem paS:PA X es (Wl X es):=λpos pins s _ _ _ I h=>h pos pins s I
theorem psS:PS X st (j84 X st):=λpins s _ _ _ I h=>h pins s I
theorem vq:PSs X sts (Vh X sts):=λpins s _ _ _ I h=>h pins s I
theorem piS:PI X tg e (j85 X tg e):=λpins s _ _ _ I h=>h pins s I
theorem PE.to{t:TE}(h:PE X e t){Q:VK}(q:t σ H Q):Qk X e σ H Q:=λpins s I=>h pins s σ H Q I q
theorem PT.to{t:TT}(h:PT X e t){Q:Bool->Hp->Prop}(q:t σ H Q):j83 X e σ H Q:=λpins s I=>h pins s σ H Q I q
theorem PA.to{t:TA}(h:PA X es t){Q:List V->Hp->Prop}(q:t σ H Q):Wl X es σ H Q:=λpos pins s I=>h pos pins s σ H Q I q
theorem PS.to{t:TS}(h:PS X st t){D:Ends}(q:t D σ H):j84 X st D σ H:=λpins s I=>h pins s σ H D I q
theorem PSs.to{t:TS}(h:PSs X sts t){D:Ends}(q:t D σ H):Vh X sts D σ H:=λpins s I=>h pins s σ H D I q
theorem PI.to{t:TI}(h:PI X tg e t){R:It->Hp->Prop}(q:t σ H R):j85 X tg e σ H R:=λpins s I=>h pins s σ H R I q
end
inductive Sl where
 |un
 |val (d:D)
 |own (a:ao) (ds:List D)
 |raw (a:ao) (o:dy) (x:aq)
noncomputable abbrev Rho:=List Sl
noncomputable def Sl.addr:Sl->Option ao
 |.own a _=>aa a
 |_=>ah
noncomputable def owns(ρ:Rho):List ao:=ρ.filterMap Sl.addr
theorem Jr{ρ:Rho}{i:Nat}{a:ao}{ds:List D}(h:ρ[i]?=aa (.own a ds)):a∈owns ρ:=T8.mpr ⟨_,Xv h,rfl⟩
theorem Vk{ρ:Rho}{a:ao}(h:a∈owns ρ):∃(i:Nat)(ds:List D),ρ[i]?=aa (.own a ds):=by
 obtain⟨s,hs,e⟩:=T8.mp h;obtain⟨i,hi⟩:=List.mem_iff_getElem?.mp hs;cases s with
 |own b ds=>cases e;exact⟨i,ds,hi⟩
 |un=>cases e
 |val d=>cases e
 |raw b o x=>cases e
theorem qg(s:Sl)(ρ:Rho):owns (s::ρ)=(match s.addr with|some a=>a::owns ρ|none=>owns ρ):=by unfold owns;rw[cH];cases s.addr<;>rfl
theorem jh{s:Sl}(hs:s.addr=ah):∀{ρ:Rho}{i:Nat},(owns (ρ.set i s)).Sublist (owns ρ)
 |[],_=>List.Sublist.refl _
 |x::r,0=>by
  rw[cN,qg,qg,hs];cases x.addr with
  |none=>exact List.Sublist.refl _
  |some a=>exact List.sublist_cons_self _ _
 |x::r,i+1=>by
  rw[dq,qg,qg];have ih:=jh hs (ρ:=r) (i:=i);cases x.addr with
  |none=>exact ih
  |some a=>exact ih.cons_cons a
theorem Qh{a:ao}{ds ds':List D}:∀{ρ:Rho}{i:Nat},ρ[i]?=aa (.own a ds)->owns (ρ.set i (.own a ds'))=owns ρ
 |[],_,h=>by simp at h
 |x::r,0,h=>by simp at h;subst h;rw[cN,qg,qg];rfl
 |x::r,i+1,h=>by simp at h;rw[dq,qg,qg,Qh h]
theorem Bb{s:Sl}(hs:s.addr=ah):∀{ρ:Rho}{i:Nat},(∀a l,ρ[i]?≠aa (.own a l))->owns (ρ.set i s)=owns ρ
 |[],_,_=>rfl
 |x::r,0,h=>by
  rw[cN,qg,qg,hs];cases x with
  |own a l=>exact absurd rfl (h a l)
  |un=>rfl
  |val d=>rfl
  |raw a o x=>rfl
 |x::r,i+1,h=>by rw[dq,qg,qg,Bb hs (λa l=>by simpa using h a l)]
theorem Q0{a:ao}{ds:List D}:∀{ρ:Rho}{i:Nat},(owns ρ).Nodup->a∉owns ρ->(owns (ρ.set i (.own a ds))).Nodup/\∀b∈owns (ρ.set i (.own a ds)),b=a\/b∈owns ρ
 |[],_,n,_=>⟨n,λb hb=>.inr hb⟩
 |x::r,0,n,h=>by
  rw[cN,qg];rw[qg]at n h;have e:(Sl.own a ds).addr=aa a:=rfl;rw[e];cases q:x.addr with
  |none =>rw[q]at n h;exact⟨Xl.mpr ⟨h,n⟩,λb hb=>(xn.mp hb).elim .inl λz=>.inr (by rw[qg,q];exact z)⟩
  |some c =>rw[q]at n h;exact⟨Xl.mpr ⟨λz=>h (xf _ z),(Xl.mp n).2⟩,λb hb=>(xn.mp hb).elim .inl λz=>.inr (by rw[qg,q];exact xf _ z)⟩
 |x::r,i+1,n,h=>by
  rw[dq,qg];rw[qg]at n h;cases q:x.addr with
  |none =>rw[q]at n h;obtain⟨i1,i2⟩:=Q0 (ds:=ds) (i:=i) n h;exact⟨i1,λb hb=>(i2 b hb).elim .inl λz=>.inr (by rw[qg,q];exact z)⟩
  |some c =>
   rw[q]at n h;obtain⟨n1,n2⟩:=Xl.mp n;obtain⟨i1,i2⟩:=Q0 (ds:=ds) (i:=i) n2 (λz=>h (xf _ z));refine⟨Xl.mpr ⟨λz=>?_,i1⟩,λb hb=>?_⟩
   .rcases i2 c z with e|z
    .subst e;exact h (xj ..)
    .exact n1 z
   .rcases xn.mp hb with e|z
    .exact .inr (by rw[qg,q];exact e▸xj ..)
    .exact(i2 b z).elim .inl λz=>.inr (by rw[qg,q];exact xf _ z)
theorem Yv{a:ao}{l l':List D}:∀{ρ:Rho}{i j:Nat},(owns ρ).Nodup->ρ[i]?=aa (.own a l)->ρ[j]?=aa (.own a l')->i=j
 |[],i,_,_,h,_=>by simp at h
 |x::r,0,0,_,_,_=>rfl
 |x::r,0,j+1,n,h,h'=>by simp at h h';subst h;rw[qg]at n;exact absurd (Jr h') (Xl.mp n).1
 |x::r,i+1,0,n,h,h'=>by simp at h h';subst h';rw[qg]at n;exact absurd (Jr h) (Xl.mp n).1
 |x::r,i+1,j+1,n,h,h'=>by
  simp at h h';have n':(owns r).Nodup:=by
   rw[qg]at n;cases q:x.addr with
   |none=>rw[q]at n;exact n
   |some c=>rw[q]at n;exact(Xl.mp n).2
  rw[Yv n' h h']
noncomputable def Y0:List aq:=["worst_cost_of_ask","least_numbers","whole_cost_of_ask","round_numbers"]
def TabOk(K:k7t)(H:Hp):Prop:=∀x∈Y0,∀c P,W.tabIn K x=aa (c,P)->H P=aa (.cod (v8 x))
section
variable{K:k7t}{H H':Hp}
theorem TabOk.mono(h:TabOk K H)(g:j4 H H'):TabOk K H':=λx hx c P e=>g _ _ (h x hx c P e)
theorem TabOk.upd{a:ao}{o u:HO}(h:TabOk K H)(e:H a=aa u)(n:∀q,u≠.cod q):TabOk K (upd H a o):=λx hx c P z=>by have q:=h x hx c P z;rw[jj];exact q;intro y;subst y;rw[e]at q;exact n _ (aE q)
theorem TabOk.del{A:List ao}(h:TabOk K H)(hA:∀a∈A,∃xs,H a=aa (.lst xs)):TabOk K (del H A):=λx hx c P z=>by have q:=h x hx c P z;rw[j5];exact q;intro y;obtain⟨xs,e⟩:=hA _ y;rw[q]at e;cases e
end
noncomputable def rfN:aq:="@"
def El(K:k7t)(F:Hp)(a:ao)(o:dy)(x:aq):Prop:=x=rfN\/(F a=aa (.frz o (.own a))/\W.nsIn K ax x=aa (aa o.cls))
theorem El.mono{K:k7t}{F F':Hp}{a:ao}{o:dy}{x:aq}(h:El K F a o x)(g:j4 F F'):El K F' a o x:=h.elim .inl λh=>.inr ⟨g _ _ h.1,h.2⟩
structure Rep(K:k7t)(ρ:Rho)(σ:St)(H:Hp):Prop where
 len:σ.length=ρ.length
 val:∀(i:Nat)(d:D),ρ[i]?=aa (.val d)->∃v,σ[i]?=aa (aa v)/\Enc K (del H (owns ρ)) d v
 own:∀(i:Nat)(a:ao)(ds:List D),ρ[i]?=aa (.own a ds)->σ[i]?=aa (aa (.ref a))/\∃xs,H a=aa (.lst xs)/\j6 K (del H (owns ρ)) ds xs
 nd:(owns ρ).Nodup
 raw:∀(i:Nat)(a:ao)(o:dy)(x:aq),ρ[i]?=aa (.raw a o x)->σ[i]?=aa (aa (.ref a))/\El K (del H (owns ρ)) a o x
 tb:TabOk K H
section
variable{K:k7t}{ρ ρ':Rho}{σ:St}{H H':Hp}{i:Nat}{d:D}{v:V}{a:ao}{ds ds':List D}{xs:List V}
theorem Rep.owned(R:Rep K ρ σ H):∀a∈owns ρ,∃xs,H a=aa (.lst xs):=λa h=>by obtain⟨i,ds,e⟩:=Vk h;obtain⟨_,xs,q,_⟩:=R.own i a ds e;exact⟨xs,q⟩
theorem Rep.fresh(R:Rep K ρ σ H)(h:H a=ah):a∉owns ρ:=λz=>by obtain⟨xs,e⟩:=R.owned a z;rw[h]at e;cases e
theorem Rep.grow(R:Rep K ρ σ H)(g:j4 H H'):Rep K ρ σ H' :=
 ⟨R.len,λi d e=>let ⟨v,q,h⟩:=R.val i d e;⟨v,q,h.mono (je g)⟩,λi a ds e=>let ⟨q,xs,h,l⟩:=R.own i a ds e;⟨q,xs,g _ _ h,l.mono (je g)⟩,R.nd,λi a o x e=>let ⟨q,h⟩:=R.raw i a o x e;⟨q,h.mono (je g)⟩,R.tb.mono g⟩
theorem getElem?_set_of{α:Type}{l:List α}{i j:Nat}{x y:α}(h:(l.set i x)[j]?=aa y):(i=j/\y=x/\i<l.length)\/(i≠j/\l[j]?=aa y):=by
 rw[dM]at h;split at h
 .rename_i e;subst e;split at h
  .rename_i z;cases h;exact .inl ⟨rfl,rfl,z⟩
  .cases h
 .rename_i e;exact .inr ⟨e,h⟩
theorem Yr{α:Type}{l:List α}{i:Nat}{x:α}(h:i<l.length):(l.set i x)[i]?=aa x:=by simp[h]
theorem v9{α:Type}{l:List α}{i j:Nat}{x:α}(h:i≠j):(l.set i x)[j]?=l[j]?:=by simp[h]
theorem Rep.set_val(R:Rep K ρ σ H)(e:Enc K (del H (owns ρ)) d v):Rep K (ρ.set i (.val d)) (σ.set i (aa v)) H:=by
 have sub:(owns (ρ.set i (.val d))).Sublist (owns ρ):=jh rfl;have g:j4 (del H (owns ρ)) (del H (owns (ρ.set i (.val d)))):=vd λb hb=>sub.subset hb;refine⟨by simp[R.len],λj d' h=>?_,λj a ds h=>?_,sub.nodup R.nd,λj a o x h=>?_,R.tb⟩
 .rcases getElem?_set_of h with ⟨rfl,z,hl⟩|⟨n,h⟩
  .cases z;exact⟨v,Yr (by rw[R.len];exact hl),e.mono g⟩
  .obtain⟨u,q,h⟩:=R.val j d' h;exact⟨u,by rw[v9 n];exact q,h.mono g⟩
 .rcases getElem?_set_of h with ⟨rfl,z,_⟩|⟨n,h⟩
  .cases z
  .obtain⟨q,xs,h,l⟩:=R.own j a ds h;exact⟨by rw[v9 n];exact q,xs,h,l.mono g⟩
 .rcases getElem?_set_of h with ⟨rfl,z,_⟩|⟨n,h⟩
  .cases z
  .obtain⟨q,h⟩:=R.raw j a o x h;exact⟨by rw[v9 n];exact q,h.mono g⟩
theorem Rep.set_un{v:Option V}(R:Rep K ρ σ H):Rep K (ρ.set i .un) (σ.set i v) H:=by
 have sub:(owns (ρ.set i .un)).Sublist (owns ρ):=jh rfl;have g:j4 (del H (owns ρ)) (del H (owns (ρ.set i .un))):=vd λb hb=>sub.subset hb;refine⟨by simp[R.len],λj d' h=>?_,λj a ds h=>?_,sub.nodup R.nd,λj a o x h=>?_,R.tb⟩
 .rcases getElem?_set_of h with ⟨rfl,z,hl⟩|⟨n,h⟩
  .cases z
  .obtain⟨u,q,h⟩:=R.val j d' h;exact⟨u,by rw[v9 n];exact q,h.mono g⟩
 .rcases getElem?_set_of h with ⟨rfl,z,_⟩|⟨n,h⟩
  .cases z
  .obtain⟨q,xs,h,l⟩:=R.own j a ds h;exact⟨by rw[v9 n];exact q,xs,h,l.mono g⟩
 .rcases getElem?_set_of h with ⟨rfl,z,_⟩|⟨n,h⟩
  .cases z
  .obtain⟨q,h⟩:=R.raw j a o x h;exact⟨by rw[v9 n];exact q,h.mono g⟩
theorem Rep.set_own(R:Rep K ρ σ H)(g:j4 H H')(ha:H a=ah)(e:H' a=aa (.lst xs))(l:j6 K (del H' (a::owns ρ)) ds xs):Rep K (ρ.set i (.own a ds)) (σ.set i (aa (.ref a))) H':=by
 have na:=R.fresh ha;obtain⟨nd,sub⟩:=Q0 (ds:=ds) (i:=i) R.nd na;have g1:j4 (del H' (a::owns ρ)) (del H' (owns (ρ.set i (.own a ds)))):=vd λb hb=>by
  rcases sub b hb with e|z
  .exact e▸xj ..
  .exact xf _ z
 have g2:j4 (del H (owns ρ)) (del H' (a::owns ρ)):=λb o q=>by
  obtain⟨n,q⟩:=of_del q;rw[j5];exact g b o q;intro z;rcases xn.mp z with e|z
  .subst e;rw[ha]at q;cases q
  .exact n z
 refine⟨by simp[R.len],λj d' h=>?_,λj b ds' h=>?_,nd,λj b o x h=>?_,R.tb.mono g⟩
 .rcases getElem?_set_of h with ⟨rfl,z,hl⟩|⟨n,h⟩
  .cases z
  .obtain⟨u,q,h⟩:=R.val j d' h;exact⟨u,by rw[v9 n];exact q,h.mono (g2.trans g1)⟩
 .rcases getElem?_set_of h with ⟨rfl,z,hl⟩|⟨n,h⟩
  .cases z;exact⟨Yr (by rw[R.len];exact hl),xs,e,l.mono g1⟩
  .obtain⟨q,ys,h,l⟩:=R.own j b ds' h;exact⟨by rw[v9 n];exact q,ys,g _ _ h,l.mono (g2.trans g1)⟩
 .rcases getElem?_set_of h with ⟨rfl,z,hl⟩|⟨n,h⟩
  .cases z
  .obtain⟨q,h⟩:=R.raw j b o x h;exact⟨by rw[v9 n];exact q,h.mono (g2.trans g1)⟩
theorem Rep.upd_own(R:Rep K ρ σ H)(h:ρ[i]?=aa (.own a ds))(l:j6 K (del H (owns ρ)) ds' xs):Rep K (ρ.set i (.own a ds')) σ (upd H a (.lst xs)):=by
 have eo:owns (ρ.set i (.own a ds'))=owns ρ:=Qh h;have ed:del (upd H a (.lst xs)) (owns ρ)=del H (owns ρ):=Ve (Jr h);refine⟨by simp[R.len],λj d' q=>?_,λj b l' q=>?_,by rw[eo];exact R.nd,λj b o x q=>?_,let ⟨_,_,z,_⟩:=R.own i a ds h;R.tb.upd z λ_ y=>by cases y⟩
 .rw[eo,ed];rcases getElem?_set_of q with ⟨_,z,_⟩|⟨n,q⟩
  .cases z
  .exact R.val j d' q
 .rw[eo,ed];rcases getElem?_set_of q with ⟨rfl,z,_⟩|⟨n,q'⟩
  .cases z;exact⟨(R.own i a ds h).1,xs,jx,l⟩
  .obtain⟨z,ys,y,l''⟩:=R.own j b l' q';refine⟨z,ys,?_,l''⟩;have nb:b≠a:=λe=>n (Yv R.nd h (e▸q'));rw[jj nb];exact y
 .rw[eo,ed];rcases getElem?_set_of q with ⟨_,z,_⟩|⟨n,q⟩
  .cases z
  .exact R.raw j b o x q
theorem Rep.freeze(R:Rep K ρ σ H)(h:ρ[i]?=aa (.own a ds)):Rep K (ρ.set i (.val (.lst ds))) σ H:=by
 obtain⟨hs,xs,hx,l⟩:=R.own i a ds h;have sub:(owns (ρ.set i (.val (.lst ds)))).Sublist (owns ρ):=jh rfl;have g:j4 (del H (owns ρ)) (del H (owns (ρ.set i (.val (.lst ds))))):=vd λb hb=>sub.subset hb;have na:a∉owns (ρ.set i (.val (.lst ds))):=λz=>by
  obtain⟨j,l',q⟩:=Vk z;rcases getElem?_set_of q with ⟨_,z,_⟩|⟨n,q⟩
  .cases z
  .exact n (Yv R.nd h q)
 refine⟨by simp[R.len],λj d' q=>?_,λj b l' q=>?_,sub.nodup R.nd,λj b o x q=>?_,R.tb⟩
 .rcases getElem?_set_of q with ⟨rfl,z,_⟩|⟨n,q⟩
  .cases z;exact⟨_,hs,a,xs,rfl,.inl (.inl (by rw[j5 na];exact hx)),l.mono g⟩
  .obtain⟨u,q,h⟩:=R.val j d' q;exact⟨u,q,h.mono g⟩
 .rcases getElem?_set_of q with ⟨rfl,z,_⟩|⟨n,q⟩
  .cases z
  .obtain⟨q,ys,h,l⟩:=R.own j b l' q;exact⟨q,ys,h,l.mono g⟩
 .rcases getElem?_set_of q with ⟨_,z,_⟩|⟨n,q⟩
  .cases z
  .obtain⟨q,h⟩:=R.raw j b o x q;exact⟨q,h.mono g⟩
end
def DE(X:Cx)(ρ:Rho)(e:au)(d:D):Prop:=∀σ H Q,Rep X.K ρ σ H->(∀v H',j4 H H'->Enc X.K (del H' (owns ρ)) d v->Q v H')->Qk X e σ H Q
def DT(X:Cx)(ρ:Rho)(e:au)(d:D):Prop:=∀σ H Q,Rep X.K ρ σ H->(∀v H',j4 H H'->Enc X.K H' d v->Q v H')->Qk X e σ H Q
def DO(X:Cx)(ρ:Rho)(e:au)(ds:List D):Prop:=∀σ H Q,Rep X.K ρ σ H->(∀a xs H',j4 H H'->H a=ah->H' a=aa (.lst xs)->j6 X.K (del H' (a::owns ρ)) ds xs->Q (.ref a) H')->Qk X e σ H Q
def DL(X:Cx)(ρ:Rho)(e:au)(ds:List D):Prop:=∀σ H Q,Rep X.K ρ σ H->(∀a xs H',j4 H H'->H' a=aa (.lst xs)->j6 X.K (del H' (owns ρ)) ds xs->Q (.ref a) H')->Qk X e σ H Q
def DB(X:Cx)(ρ:Rho)(e:au)(b:Bool):Prop:=∀σ H Q,Rep X.K ρ σ H->(∀H',j4 H H'->Q b H')->j83 X e σ H Q
def DA(X:Cx)(ρ:Rho)(es:List au)(ds:List D):Prop:=∀σ H Q,Rep X.K ρ σ H->(∀vs H',j4 H H'->j6 X.K (del H' (owns ρ)) ds vs->Q vs H')->Wl X es σ H Q
def DTA(X:Cx)(ρ:Rho)(es:List au)(ds:List D):Prop:=∀σ H Q,Rep X.K ρ σ H->(∀vs H',j4 H H'->j6 X.K H' ds vs->Q vs H')->Wl X es σ H Q
def j82(X:Cx)(e:au):TT:=λσ H Q=>∀whole pins s,Inv X pins σ H s->ay (aC X.prog X.w) X.A (eU e X.env whole) (TP X pins σ Q) X.xe s
theorem pwS{X:Cx}{e:au}:PW X e (j82 X e):=λwhole pins s _ _ _ I h=>h whole pins s I
theorem PW.to{X:Cx}{e:au}{t:TT}{σ:St}{H:Hp}(h:PW X e t){Q:Bool->Hp->Prop}(q:t σ H Q):j82 X e σ H Q:=λwhole pins s I=>h whole pins s σ H Q I q
def DW(X:Cx)(ρ:Rho)(e:au)(b:Bool):Prop:=∀σ H Q,Rep X.K ρ σ H->(∀H',j4 H H'->Q b H')->j82 X e σ H Q
mutual
noncomputable def Jk:D->Bool
 |.lst _=>ae
 |.dct _ _=>ae
 |.sct _=>ae
 |.fn _ _=>ae
 |.tup ds=>qw ds
 |_=>af
noncomputable def qw:List D->Bool
 |[]=>af
 |d::ds=>Jk d&&qw ds
end
mutual
theorem Enc.hide{K:k7t}{H:Hp}{A:List ao}(hA:∀a∈A,Hd (H a)):∀{d:D}{v:V},Jk d=af->Enc K H d v->Enc K (del H A) d v
 |.non,_,_,h=>h
 |.bl _,_,_,h=>h
 |.int _,_,_,h=>h
 |.str _,_,_,h=>h
 |.lst _,_,n,_=>by cases n
 |.dct _ _,_,n,_=>by cases n
 |.sct _,_,n,_=>by cases n
 |.fn _ _,_,n,_=>by cases n
 |.tup ds,_,n,⟨a,xs,e,q,l⟩=>by
  refine⟨a,xs,e,?_,j6.hide hA (by simpa [Jk]using n) l⟩;have out:∀{o:HO},H a=aa o->(∀ys,o≠.lst ys)->(∀ys ep,o≠.dI ys ep)->del H A a=aa o:=λ{o} h z z2=>by
   rw[j5];exact h;intro y;rcases hA a y with ⟨ys,e'⟩|⟨ys,ep,e'⟩
   .rw[h]at e';cases e';exact z ys rfl
   .rw[h]at e';cases e';exact z2 ys ep rfl
  rcases q with (q|⟨o,q⟩)|q
  .exact .inl (.inl (out q (λ_ z=>by cases z) λ_ _ z=>by cases z))
  .exact .inl (.inr ⟨o,out q (λ_ z=>by cases z) λ_ _ z=>by cases z⟩)
  .exact .inr q
theorem j6.hide{K:k7t}{H:Hp}{A:List ao}(hA:∀a∈A,Hd (H a)):∀{ds:List D}{xs:List V},qw ds=af->j6 K H ds xs->j6 K (del H A) ds xs
 |[],_,_,h=>h
 |d::ds,_,n,⟨x,r,e,h,l⟩=>by
  have n':Jk d=af/\qw ds=af:=by simpa [qw]using n
  exact⟨x,r,e,Enc.hide hA n'.1 h,j6.hide hA n'.2 l⟩
end
section
variable{X:Cx}{ρ:Rho}{e a b c:au}{es:List au}{d da db:D}{ds ds':List D}{i j:Int}{pos:aR}{k:Nat}{x:aq}
theorem DE.toT(h:DE X ρ e d):DT X ρ e d:=λσ H Q R q=>h σ H Q R λv H' g l=>q v H' g (l.mono jk)
theorem DT.toE(h:DT X ρ e d)(n:Jk d=af:=by rfl):DE X ρ e d:=λσ H Q R q=>h σ H Q R λv H' g l=>q v H' g (l.hide (λa ha=>.inl ((R.grow g).owned a ha)) n)
theorem DO.toL(h:DO X ρ e ds):DL X ρ e ds:=λσ H Q R q=>h σ H Q R λa xs H' g n m l=>q a xs H' g m (l.mono (vd λb hb=>xf _ hb))
theorem DO.toE(h:DO X ρ e ds):DE X ρ e (.lst ds):=λσ H Q R q=>h σ H Q R λa xs H' g n m l =>q _ H' g ⟨a,xs,rfl,.inl (.inl (by rw[j5 (R.fresh n)];exact m)),l.mono (vd λb hb=>xf _ hb)⟩
theorem DL.toT(h:DL X ρ e ds):DT X ρ e (.lst ds):=λσ H Q R q=>h σ H Q R λa xs H' g m l=>q _ H' g ⟨a,xs,rfl,.inl (.inl m),l.mono jk⟩
theorem DW.toB{k:Bool}(h:DW X ρ e k):DB X ρ e k:=λσ H Q R q pins s I=>h σ H Q R q _ pins s I
theorem DA.toT(h:DA X ρ es ds):DTA X ρ es ds:=λσ H Q R q=>h σ H Q R λv H' g l=>q v H' g (l.mono jk)
theorem DE.eq(h:DE X ρ e d){d':D}(q:d=d'):DE X ρ e d':=q▸h
theorem DB.eq{b b':Bool}(h:DB X ρ e b)(q:b=b'):DB X ρ e b':=q▸h
end
section
variable{X:Cx}{ρ:Rho}{e a b c:au}{es:List au}{d da db:D}{ds ds':List D}{i j:Int}{pos p:aR}{k:Nat}{x:aq}
theorem DE.var(k:Nat)(h:ρ[k]?=aa (.val d))(hN:X.N[k]?=aa x:=by rfl)(hv:Vis X.env.scope x:=by first|exact aZ rfl|exact cg (aZ rfl)|exact cg (cg rfl))
  (hd:(x==k7x)=ae:=by decide) (hcd:(x==k7y)=ae:=by decide):DE X ρ (.Name x pos) d:=λσ H Q R q=>by
 obtain⟨v,hs,en⟩:=R.val k d h;exact(qz hN hv hd hcd).to ⟨v,hs,q v H (j4.refl H) en⟩
theorem DL.var(k:Nat){l:ao}(h:ρ[k]?=aa (.own l ds))(hN:X.N[k]?=aa x:=by rfl)(hv:Vis X.env.scope x:=by first|exact aZ rfl|exact cg (aZ rfl)|exact cg (cg rfl))
  (hd:(x==k7x)=ae:=by decide) (hcd:(x==k7y)=ae:=by decide):DL X ρ (.Name x pos) ds:=λσ H Q R q=>by
 obtain⟨hs,xs,m,en⟩:=R.own k l ds h;exact(qz hN hv hd hcd).to ⟨_,hs,q l xs H (j4.refl H) m en⟩
theorem DE.glob {u:ak} {v:V} (hg:Gl X x) (hm:X.mg x=aa u) (r:RelV v u) (h:∀H,Enc X.K H d v) (hd:(x==k7x)=ae:=by decide):DE X ρ (.Name x pos) d :=
 λσ H Q R q=>(jd9 hg hm r hd).to (q v H (j4.refl H) (h _))
theorem DE.int{i:Int}{n:Nat}{pos:aR}:DE X ρ (.Constant (.int i) n pos) (.int i):=λσ H Q R q=>j0d.to (q _ H (j4.refl H) rfl)
theorem DE.bl{b:Bool}{n:Nat}:DE X ρ (.Constant (.bool b) n pos) (.bl b):=λσ H Q R q=>jkk.to (q _ H (j4.refl H) rfl)
theorem DE.str{y:aq}{n:Nat}:DE X ρ (.Constant (.str y) n pos) (.str y):=λσ H Q R q=>Mg.to (q _ H (j4.refl H) rfl)
theorem DE.arI0{op:jH}{g:Int->Int->Int}(ho:OpR X (bj op) (rI0 λi j=>.int (g i j)))(ha:DT X ρ a (.int i))(hb:DT X ρ b (.int j)):DE X ρ (.BinOp a op b pos) (.int (g i j)):=λσ H Q R q =>(Yb ho peS peS).to (ha σ H _ R λv H1 g1 e1=>hb σ H1 _ (R.grow g1) λu H2 g2 e2=>⟨i,j,e1,e2,q _ H2 (g1.trans g2) rfl⟩)
theorem DE.arI{op:jH}{C:Int->Int->Prop}{g:Int->Int->Int}(ho:OpR X (bj op) (rI C λi j=>.int (g i j)))(ha:DT X ρ a (.int i))(hb:DT X ρ b (.int j))(hC:C i j):DE X ρ (.BinOp a op b pos) (.int (g i j)):=λσ H Q R q =>(Yb ho peS peS).to (ha σ H _ R λv H1 g1 e1=>hb σ H1 _ (R.grow g1) λu H2 g2 e2=>⟨i,j,e1,e2,hC,q _ H2 (g1.trans g2) rfl⟩)
theorem DE.add(ha:DT X ρ a (.int i))(hb:DT X ρ b (.int j)):DE X ρ (.BinOp a .Add b pos) (.int (i+j)):=DE.arI0 j5s ha hb
theorem DE.sub(ha:DT X ρ a (.int i))(hb:DT X ρ b (.int j)):DE X ρ (.BinOp a .Sub b pos) (.int (i-j)):=DE.arI0 jgn ha hb
theorem DE.mul(ha:DT X ρ a (.int i))(hb:DT X ρ b (.int j))(h:j4o i j):DE X ρ (.BinOp a .Mult b pos) (.int (i*j)):=DE.arI jgs ha hb h
theorem DE.mod(ha:DT X ρ a (.int i))(hb:DT X ρ b (.int j))(h:0<j):DE X ρ (.BinOp a .Mod b pos) (.int (i%j)):=DE.arI jgt ha hb h
theorem DE.pow(ha:DT X ρ a (.int i))(hb:DT X ρ b (.int j))(h:j4n i j):DE X ρ (.BinOp a .Pow b pos) (.int (i^j.toNat)):=DE.arI jgr ha hb h
theorem DE.shl(ha:DT X ρ a (.int i))(hb:DT X ρ b (.int j))(h:j4n i j):DE X ρ (.BinOp a .LShift b pos) (.int (i*2^j.toNat)):=DE.arI (g:=λi j=>i*2^j.toNat) jgp ha hb h
theorem DE.cmpI{op:gH}{g:Int->Int->Bool}(ho:OpR X (bo op) (rI0 λi j=>.bl (g i j)))(hm:aP op b=ae)(ha:DT X ρ a (.int i))(hb:DT X ρ b (.int j)):DE X ρ (.Compare a [op] [b] pos) (.bl (g i j)):=λσ H Q R q =>(Jz ho peS peS hm).to (ha σ H _ R λv H1 g1 e1=>hb σ H1 _ (R.grow g1) λu H2 g2 e2=>⟨i,j,e1,e2,q _ H2 (g1.trans g2) rfl⟩)
theorem DB.cmpI{op:gH}{g:Int->Int->Bool}(ho:OpR X (bo op) (rI0 λi j=>.bl (g i j)))(hm:aP op b=ae)(ha:DT X ρ a (.int i))(hb:DT X ρ b (.int j)):DB X ρ (.Compare a [op] [b] pos) (g i j):=λσ H Q R q =>(Jg ho peS peS hm).to (ha σ H _ R λv H1 g1 e1=>hb σ H1 _ (R.grow g1) λu H2 g2 e2=>⟨i,j,e1,e2,_,rfl,q H2 (g1.trans g2)⟩)
theorem DB.lt(ha:DT X ρ a (.int i))(hb:DT X ρ b (.int j)):DB X ρ (.Compare a [.Lt] [b] pos) (decide (i<j)):=DB.cmpI j3r (zx _) ha hb
theorem DB.le(ha:DT X ρ a (.int i))(hb:DT X ρ b (.int j)):DB X ρ (.Compare a [.LtE] [b] pos) (decide (i<=j)):=DB.cmpI jb8 (zx _) ha hb
theorem DB.gt(ha:DT X ρ a (.int i))(hb:DT X ρ b (.int j)):DB X ρ (.Compare a [.Gt] [b] pos) (decide (j<i)):=DB.cmpI jb9 (zx _) ha hb
theorem DB.ge(ha:DT X ρ a (.int i))(hb:DT X ρ b (.int j)):DB X ρ (.Compare a [.GtE] [b] pos) (decide (j<=i)):=DB.cmpI j3s (zx _) ha hb
theorem DE.lt(ha:DT X ρ a (.int i))(hb:DT X ρ b (.int j)):DE X ρ (.Compare a [.Lt] [b] pos) (.bl (decide (i<j))):=DE.cmpI j3r (zx _) ha hb
theorem DE.le(ha:DT X ρ a (.int i))(hb:DT X ρ b (.int j)):DE X ρ (.Compare a [.LtE] [b] pos) (.bl (decide (i<=j))):=DE.cmpI jb8 (zx _) ha hb
theorem DE.gt(ha:DT X ρ a (.int i))(hb:DT X ρ b (.int j)):DE X ρ (.Compare a [.Gt] [b] pos) (.bl (decide (j<i))):=DE.cmpI jb9 (zx _) ha hb
theorem DE.ge(ha:DT X ρ a (.int i))(hb:DT X ρ b (.int j)):DE X ρ (.Compare a [.GtE] [b] pos) (.bl (decide (j<=i))):=DE.cmpI j3s (zx _) ha hb
noncomputable def D.sc:D->Option V
 |.non=>aa .non
 |.bl b=>aa (.bl b)
 |.int i=>aa (.int i)
 |.str x=>aa (.str x)
 |_=>ah
theorem D.sc_enc{K:k7t}{H:Hp}{d:D}{u v:V}(h:d.sc=aa u)(q:Enc K H d v):v=u:=by cases d<;>simp[D.sc]at h<;>subst h<;>exact q
theorem DE.eqS{u v:V}(ha:DT X ρ a da)(hb:DT X ρ b db)(h1:da.sc=aa u:=by rfl)(h2:db.sc=aa v:=by rfl)(h:Cq u v=af:=by rfl):DE X ρ (.Compare a [.Eq] [b] pos) (.bl (decide (u=v))):=λσ H Q R q =>
 (Jz jba peS peS (zx _)).to (ha σ H _ R λx H1 g1 e1=>hb σ H1 _ (R.grow g1) λy H2 g2 e2=>by
  cases D.sc_enc h1 e1;cases D.sc_enc h2 e2;exact⟨h,q _ H2 (g1.trans g2) rfl⟩)
theorem DE.neS{u v:V}(ha:DT X ρ a da)(hb:DT X ρ b db)(h1:da.sc=aa u:=by rfl)(h2:db.sc=aa v:=by rfl)(h:Cq u v=af:=by rfl):DE X ρ (.Compare a [.NotEq] [b] pos) (.bl (!decide (u=v))):=λσ H Q R q =>
 (Jz j3p peS peS (zx _)).to (ha σ H _ R λx H1 g1 e1=>hb σ H1 _ (R.grow g1) λy H2 g2 e2=>by
  cases D.sc_enc h1 e1;cases D.sc_enc h2 e2;exact⟨h,q _ H2 (g1.trans g2) rfl⟩)
theorem DB.eqS{u v:V}(ha:DT X ρ a da)(hb:DT X ρ b db)(h1:da.sc=aa u:=by rfl)(h2:db.sc=aa v:=by rfl)(h:Cq u v=af:=by rfl):DB X ρ (.Compare a [.Eq] [b] pos) (decide (u=v)):=λσ H Q R q =>
 (Jg jba peS peS (zx _)).to (ha σ H _ R λx H1 g1 e1=>hb σ H1 _ (R.grow g1) λy H2 g2 e2=>by
  cases D.sc_enc h1 e1;cases D.sc_enc h2 e2;exact⟨h,_,rfl,q H2 (g1.trans g2)⟩)
theorem DB.neS{u v:V}(ha:DT X ρ a da)(hb:DT X ρ b db)(h1:da.sc=aa u:=by rfl)(h2:db.sc=aa v:=by rfl)(h:Cq u v=af:=by rfl):DB X ρ (.Compare a [.NotEq] [b] pos) (!decide (u=v)):=λσ H Q R q =>
 (Jg j3p peS peS (zx _)).to (ha σ H _ R λx H1 g1 e1=>hb σ H1 _ (R.grow g1) λy H2 g2 e2=>by
  cases D.sc_enc h1 e1;cases D.sc_enc h2 e2;exact⟨h,_,rfl,q H2 (g1.trans g2)⟩)
theorem Rg(i j:Int):decide (V.int i=V.int j)=decide (i=j):=by
 by_cases h:i=j
 .subst h;simp
 .rw[decide_eq_false h,decide_eq_false (λz=>h (V.int.inj z))]
theorem j2u(i j:Bool):decide (V.bl i=V.bl j)=(i==j):=by cases i<;>cases j<;>rfl
theorem j13(i j:aq):decide (V.str i=V.str j)=decide (i=j):=by
 by_cases h:i=j
 .subst h;simp
 .rw[decide_eq_false h,decide_eq_false (λz=>h (V.str.inj z))]
theorem DE.eqI(ha:DT X ρ a (.int i))(hb:DT X ρ b (.int j)):DE X ρ (.Compare a [.Eq] [b] pos) (.bl (decide (i=j))):=(DE.eqS ha hb).eq (by rw[Rg])
theorem DE.neI(ha:DT X ρ a (.int i))(hb:DT X ρ b (.int j)):DE X ρ (.Compare a [.NotEq] [b] pos) (.bl (!decide (i=j))):=(DE.neS ha hb).eq (by rw[Rg])
theorem DB.eqI(ha:DT X ρ a (.int i))(hb:DT X ρ b (.int j)):DB X ρ (.Compare a [.Eq] [b] pos) (decide (i=j)):=(DB.eqS ha hb).eq (by rw[Rg])
theorem DB.neI(ha:DT X ρ a (.int i))(hb:DT X ρ b (.int j)):DB X ρ (.Compare a [.NotEq] [b] pos) (!decide (i=j)):=(DB.neS ha hb).eq (by rw[Rg])
theorem DE.neB{x y:Bool}(ha:DT X ρ a (.bl x))(hb:DT X ρ b (.bl y)):DE X ρ (.Compare a [.NotEq] [b] pos) (.bl (x != y)):=(DE.neS ha hb).eq (by rw[j2u];rfl)
theorem DB.neB{x y:Bool}(ha:DT X ρ a (.bl x))(hb:DT X ρ b (.bl y)):DB X ρ (.Compare a [.NotEq] [b] pos) (x != y):=(DB.neS ha hb).eq (by rw[j2u];rfl)
noncomputable def D.isNon:D->Bool
 |.non=>af
 |_=>ae
theorem Ks{K:k7t}{H:Hp}{d:D}{v:V}(q:Enc K H d v):decide (v=V.non)=d.isNon:=by
 cases d with
 |non=>cases(show v=.non from q);rfl
 |bl b=>cases(show v=.bl b from q);rfl
 |int b=>cases(show v=.int b from q);rfl
 |str b=>cases(show v=.str b from q);rfl
 |tup l=>obtain⟨a,xs,e,_⟩:=q;subst e;rfl
 |lst l=>obtain⟨a,xs,e,_⟩:=q;subst e;rfl
 |dct ks l=>obtain⟨a,xs,ep,vs,e,_⟩:=q;subst e;rfl
 |sct k=>obtain⟨a,e,_⟩:=q;subst e;rfl
 |fn x l=>obtain⟨a,c,tx,cl,vs,e,_⟩:=q;subst e;rfl
theorem DE.isN{n:Nat}{p2:aR}(ha:DT X ρ a d):DE X ρ (.Compare a [.Is] [.Constant .none n p2] pos) (.bl d.isNon):=λσ H Q R q =>(jgj (j5o peS)).to (ha σ H _ R λx H1 g1 e1=>q _ H1 g1 (by rw[Ks e1];rfl))
theorem DB.isN{n:Nat}{p2:aR}(ha:DT X ρ a d):DB X ρ (.Compare a [.Is] [.Constant .none n p2] pos) d.isNon:=λσ H Q R q =>(jgc (j5o peS)).to (ha σ H _ R λx H1 g1 e1=>⟨_,rfl,by rw[Ks e1];exact q H1 g1⟩)
theorem DB.val{k:Bool}(ha:DT X ρ a (.bl k))(he:∀whole,eU a X.env whole=(do let v <-whole;gc a.pos;eC [v] (jZ v)):=by intro _;rfl):DB X ρ a k:=λσ H Q R q =>(j5g peS he).to (ha σ H _ R λx H1 g1 e1=>⟨_,e1,q H1 g1⟩)
theorem DW.or1{k:Bool}(ha:DB X ρ a k):DW X ρ (.BoolOp .Or [a] pos) k:=λσ H Q R q=>(jgb ptS).to (ha σ H Q R q)
theorem DW.or{k m:Bool}{rest:List au}(ha:DB X ρ a k)(hb:k=ae->DW X ρ (.BoolOp .Or (b::rest) pos) m):DW X ρ (.BoolOp .Or (a::b::rest) pos) (k || m):=λσ H Q R q =>
 (jki ptS pwS).to (ha σ H _ R λH1 g1=>by
  cases k with
  |true=>exact Mt (q H1 g1)
  |false=>exact Mu (hb rfl σ H1 Q (R.grow g1) λH2 g2=>q H2 (g1.trans g2)))
theorem DB.not{k:Bool}(ha:DB X ρ a k):DB X ρ (.UnaryOp .Not a pos) (!k):=λσ H Q R q=>(j5h ptS).to (ha σ H _ R λH1 g1=>q H1 g1)
theorem DE.and{k m:Bool}{rest:List au}(ha:DT X ρ a (.bl k))(hb:k=af->DE X ρ (.BoolOp .And (b::rest) pos) (.bl m)):DE X ρ (.BoolOp .And (a::b::rest) pos) (.bl (k&&m)):=λσ H Q R q =>
 (jgk peS peS).to (ha σ H _ R λx H1 g1 e1=>⟨k,e1,by
  cases k with
  |false=>exact Mu (q _ H1 g1 rfl)
  |true=>exact Mt (hb rfl σ H1 Q (R.grow g1) λv H2 g2=>q v H2 (g1.trans g2))⟩)
theorem DE.or{k m:Bool}{rest:List au}(ha:DT X ρ a (.bl k))(hb:k=ae->DE X ρ (.BoolOp .Or (b::rest) pos) (.bl m)):DE X ρ (.BoolOp .Or (a::b::rest) pos) (.bl (k || m)):=λσ H Q R q =>
 (jkj peS peS).to (ha σ H _ R λx H1 g1 e1=>⟨k,e1,by
  cases k with
  |true=>exact Mt (q _ H1 g1 rfl)
  |false=>exact Mu (hb rfl σ H1 Q (R.grow g1) λv H2 g2=>q v H2 (g1.trans g2))⟩)
theorem DE.ite{k:Bool}{d':D}(hc:DB X ρ c k)(ha:k=af->DE X ρ a d)(hb:k=ae->DE X ρ b d'):DE X ρ (.IfExp c a b pos) (if k=af then d else d'):=λσ H Q R q =>
 (j0e ptS peS peS).to (hc σ H _ R λH1 g1=>by
  cases k with
  |true=>exact Mt (ha rfl σ H1 Q (R.grow g1) λv H2 g2 z=>q v H2 (g1.trans g2) (by rw[if_pos rfl];exact z))
  |false=>exact Mu (hb rfl σ H1 Q (R.grow g1) λv H2 g2 z=>q v H2 (g1.trans g2) (by rw[if_neg xm];exact z)))
theorem DA.nil:DA X ρ [] []:=λσ H Q R q=>qb.to (q [] H (j4.refl H) rfl)
theorem DA.cons(ha:DE X ρ a d)(hr:DA X ρ es ds)(hs:aj (a::es) X.env=(ae,aD a X.env)::aj es X.env:=by rfl):DA X ρ (a::es) (d::ds):=λσ H Q R q =>(jc peS paS hs).to (ha σ H _ R λv H1 g1 e1=>hr σ H1 _ (R.grow g1) λvs H2 g2 e2=>q _ H2 (g1.trans g2) ⟨v,vs,rfl,e1.mono (je g2),e2⟩)
theorem DTA.nil:DTA X ρ [] []:=λσ H Q R q=>qb.to (q [] H (j4.refl H) rfl)
theorem DTA.cons(ha:DT X ρ a d)(hr:DTA X ρ es ds)(hs:aj (a::es) X.env=(ae,aD a X.env)::aj es X.env:=by rfl):DTA X ρ (a::es) (d::ds):=λσ H Q R q =>(jc peS paS hs).to (ha σ H _ R λv H1 g1 e1=>hr σ H1 _ (R.grow g1) λvs H2 g2 e2=>q _ H2 (g1.trans g2) ⟨v,vs,rfl,e1.mono g2,e2⟩)
theorem DE.tup{n:Nat}{x1}(h:DA X ρ es ds)(hl:ds.length<=av:=by simp only[xq,Tp];decide):DE X ρ (.Tuple es x1 pos) (.tup ds):=λσ H Q R q =>(j5m paS).to (h σ H _ R λvs H1 g1 e1=>⟨by rw[e1.length];exact hl,λp hp=>q _ _ (g1.trans (j7 hp)) ⟨p,vs,rfl,.inl (.inl (by rw[j5 ((R.grow g1).fresh hp)];exact jx)),e1.mono (je (j7 hp))⟩⟩)
theorem DO.lst(h:DA X ρ es ds)(hl:ds.length<=av:=by simp only[xq,Tp];decide):DO X ρ (.List es pos) ds:=λσ H Q R q =>
 (jgi paS).to (h σ H _ R λvs H1 g1 e1=>⟨by rw[e1.length];exact hl,λp hp=>q p vs _ (g1.trans (j7 hp)) (g1.free hp) jx (e1.mono λb o z=>by
  obtain⟨n,z⟩:=of_del z
  rw[j5];exact j7 hp b o z
  intro y
  rcases xn.mp y with y|y
  .subst y;rw[hp]at z;cases z
  .exact n y)⟩)
theorem j6.atI{K:k7t}{H:Hp}{xs:List V}(h:j6 K H ds xs)(q:atI ds i=aa d):∃x,L2.atI xs i=aa x/\Enc K H d x:=by
 unfold L2.atI at q ⊢;rw[h.length];cases z:ixN ds.length i with
 |none=>rw[z]at q;cases q
 |some k =>rw[z]at q;exact h.get q
noncomputable def cutD(ds:List D)(lo hi:Option Int):List D:=(ds.drop (HT.sIx ds.length 0 lo)).take (HT.sIx ds.length ds.length hi-HT.sIx ds.length 0 lo)
theorem j6.cut{K:k7t}{H:Hp}{xs:List V}(h:j6 K H ds xs)(lo hi:Option Int):j6 K H (cutD ds lo hi) (O2 xs lo hi):=by unfold cutD O2;rw[h.length];exact(h.drop _).take _
theorem R9{K:k7t}{H1:Hp}{A:List ao}{ds:List D}{xs:List V}{p:ao}{o:HO}(hp:H1 p=ah)(e1:j6 K (del H1 A) ds xs):j6 K (del (upd H1 p o) (p::A)) ds xs:=e1.mono λb o z=>by
 obtain⟨n,z⟩:=of_del z;rw[j5];exact j7 hp b o z;intro y;rcases xn.mp y with y|y
 .subst y;rw[hp]at z;cases z
 .exact n y
theorem DO.rep(ha:DL X ρ a ds)(hb:DT X ρ b (.int i))(h1:-(2^63)<=i)(h2:i<2^63)(hl:ds.length*i.toNat<=av):DO X ρ (.BinOp a .Mult b pos) (aA i.toNat ds).flatten:=λσ H Q R q =>
 (Yb jgq peS peS).to (ha σ H _ R λl xs H1 g1 m1 e1=>hb σ H1 _ (R.grow g1) λu H2 g2 e2 =>
  ⟨l,i,xs,rfl,e2,g2 _ _ m1,h1,h2,by rw[e1.length];exact hl,λp hp=>q p _ _ ((g1.trans g2).trans (j7 hp)) ((g1.trans g2).free hp) jx (R9 hp ((e1.mono (je g2)).rep _))⟩)
theorem DE.lenT (ha:DT X ρ a (.tup ds)) (hm:X.mg "len" = ah) (hg:Gl X "len":=by rfl) (hs:aj [a] X.env=[(ae,aD a X.env)]:=by rfl) {p2:aR}:DE X ρ (.Call (.Name "len" p2) [a] [] pos) (.int ds.length):=λσ H Q R q =>(vh Zx hg hm cq (jc peS qb hs) (by decide) (by decide) hs).to (ha σ H _ R λv H1 g1 ⟨l,xs,e,sq,en⟩=>⟨l,xs,by rw[e],.inr sq,q _ H1 g1 (by rw[en.length];rfl)⟩)
theorem DE.lenL (ha:DT X ρ a (.lst ds)) (hm:X.mg "len" = ah) (hg:Gl X "len":=by rfl) (hs:aj [a] X.env=[(ae,aD a X.env)]:=by rfl) {p2:aR}:DE X ρ (.Call (.Name "len" p2) [a] [] pos) (.int ds.length):=λσ H Q R q =>(vh Zx hg hm cq (jc peS qb hs) (by decide) (by decide) hs).to (ha σ H _ R λv H1 g1 ⟨l,xs,e,sq,en⟩=>⟨l,xs,by rw[e],.inl sq,q _ H1 g1 (by rw[en.length];rfl)⟩)
end
def framed(sp:Sp):Sp:=λvs H Q E=>∃A:List ao,(∀a∈A,∃xs,H a=aa (.lst xs))/\sp vs (del H A) (λv F=>(∀a∈A,F a=ah)->Q v (mrg A H F)) E
theorem FnOk.framed{P:az}{w:aF}{K:k7t}{mg:k7w}{base:aH}{k:Nat}{f:ao}{fd:aN}{ps:List aq}{sp:Sp}(F:FnOk P w K mg base CX0 k f fd ps sp) :
  FnOk P w K mg base CX0 k f fd ps (framed sp) where
 len:=λvs H Q E ⟨A,_,h⟩=>F.len vs _ _ _ h
 run:=by
  rintro A0 outer s H args us vs Q E hr e0 hb rv ⟨A,hA,h⟩;have nd:∀{b:ao},H b=ah->del H A b=ah:=λ{b} q=>by
   by_cases z:b∈A
   .exact vm z
   .rw[j5 z];exact q
  have out:∀{b:ao}{o:HO},H b=aa o->(∀ys,o≠.lst ys)->del H A b=aa o:=λ{b o} q z=>by rw[j5];exact q;intro y;obtain⟨ys,e'⟩:=hA b y;rw[q]at e';cases e';exact z ys rfl
  have e1:Env0 P w K mg base A0 outer s (del H A):=⟨e0.frames,e0.mod,λb o q=>⟨(e0.bs b o q).1,nd (e0.bs b o q).2⟩,e0.bsz,e0.funs,λb hb=>nd (e0.frf b hb),
   λa o q=>by
    obtain⟨_,q⟩:=of_del q
    exact jz.stay (e0.hok a o q) (λb u _ z=>z) (λb z=>out z λ_ y=>by cases y) (λb xs z=>out z λ_ y=>by cases y) (λb _ _ z=>out z λ_ y=>by cases y),e0.bare⟩
  refine bO (F.run A0 outer s (del H A) args us vs _ E hr e1 hb rv h) λr s' hq=>?_;cases r with
  |error e=>exact(show False from hq).elim
  |ok fl =>
   cases fl with
   |next=>exact(show False from hq).elim
   |brk=>exact(show False from hq).elim
   |cont=>exact(show False from hq).elim
   |ret u =>
    obtain⟨v,H',os,bare,un,hok',rel,q⟩:=(show CE outer P w (del H A) s _ u s' from hq)
    have kept:∀a∈A,∃o,s.heap.get? a=aa o/\s'.heap.get? a=aa o/\H' a=ah:=λa ha=>by
     obtain⟨xs,e⟩:=hA a ha;obtain⟨_,its,n,_,z⟩:=(show jz P w H s.heap a (.lst xs)from e0.hok _ _ e)
     have nf:a∉frs outer:=λy=>by rw[e0.frf a y]at e;cases e
     exact⟨_,z,un.keep a _ z (vm ha) nf (by simp),un.free a _ z (vm ha) (by simp)⟩
    have hF:∀a∈A,H' a=ah:=λa ha=>let ⟨_,_,_,z⟩:=kept a ha;z;have outF:∀{b:ao}{o:HO},H' b=aa o->b∉A:=λ{b o} e z=>by rw[hF b z]at e;cases e
    refine⟨v,mrg A H H',os,bare,?_,λa o e=>?_,rel,q hF⟩
    .exact{
      keep:=λb o e n=>un.keep b o e (nd n)
      slot:=λb o e n=>un.slot b o e (nd n)
      free:=λb o e n hx=>by
       by_cases z:b∈A
       .rw[Jl z];exact n
       .rw[jw z];exact un.free b o e (nd n) hx
      there:=un.there
      tups:=λb xs e=>by
       have z:=un.tups b xs (out e λ_ y=>by cases y)
       rw[jw (outF z)];exact z
      frzs:=λb o u e=>by
       have z:=un.frzs b o u (out e λ_ y=>by cases y)
       rw[jw (outF z)];exact z
      tbls:=λb ps e=>by
       obtain⟨more,z⟩:=un.tbls b ps (out e λ_ y=>by cases y)
       exact⟨more,by rw[jw (outF z)];exact z⟩ }
    .by_cases z:a∈A
     .rw[Jl z]at e;obtain⟨xs,e'⟩:=hA a z;rw[e']at e;cases e;obtain⟨hl,its,n,r,y⟩:=(show jz P w H s.heap a (.lst xs)from e0.hok _ _ e')
      obtain⟨o',q1,q2,_⟩:=kept a z;rw[y]at q1;cases q1;exact⟨hl,its,n,r,q2⟩
     .rw[jw z]at e;refine jz.stay (hok' a o e) (λb u _ q=>q) (λb q=>?_) (λb xs q=>?_) (λb _ _ q=>?_)
      .rw[jw (outF q)];exact q
      .rw[jw (outF q)];exact q
      .rw[jw (outF q)];exact q
def spP(K:k7t)(S:List D->D->Prop):Sp:=λvs H Q _=>∃A ds d,TabOk K H/\(∀a∈A,∃xs,H a=aa (.lst xs))/\j6 K (del H A) ds vs/\S ds d/\∀v H',j4 H H'->Enc K (del H' A) d v->Q v H'
def spF(K:k7t)(S:List D->List D->Prop):Sp:=λvs H Q _=>∃A ds l,TabOk K H/\(∀a∈A,∃xs,H a=aa (.lst xs))/\j6 K (del H A) ds vs/\S ds l /\
 ∀a xs H',j4 H H'->H a=ah->H' a=aa (.lst xs)->j6 K (del H' (a::A)) l xs->Q (.ref a) H'
def jmn(K:k7t)(S:List D->D->Prop):Sp:=λvs H Q _=>∃ds d,TabOk K H/\j6 K H ds vs/\S ds d/\∀v H',j4 H H'->Enc K H' d v->Q v H'
def jmp(K:k7t)(S:List D->List D->Prop):Sp:=λvs H Q _=>∃ds l,TabOk K H/\j6 K H ds vs/\S ds l/\∀a xs H',j4 H H'->H a=ah->H' a=aa (.lst xs)->j6 K (del H' [a]) l xs->Q (.ref a) H'
section
variable{P:az}{w:aF}{K:k7t}{mg:k7w}{base:aH}{k:Nat}{f:ao}{fd:aN}{ps:List aq}
theorem FnOk.toP{S:List D->D->Prop}(F:FnOk P w K mg base CX0 k f fd ps (jmn K S)):FnOk P w K mg base CX0 k f fd ps (spP K S) :=
 F.framed.imp λvs H Q E ⟨A,ds,d,tb,hA,en,hS,q⟩=>⟨A,hA,ds,d,tb.del hA,en,hS,λv F g e hF=>q v _ (Bq g) (by rw[Zi hF];exact e)⟩
theorem FnOk.toF{S:List D->List D->Prop}(F:FnOk P w K mg base CX0 k f fd ps (jmp K S)):FnOk P w K mg base CX0 k f fd ps (spF K S) :=
 F.framed.imp λvs H Q E ⟨A,ds,l,tb,hA,en,hS,q⟩=>⟨A,hA,ds,l,tb.del hA,en,hS,λa xs F g n e l' hF=>by
  have na:a∉A:=λz=>by rw[hF a z]at e;cases e
  refine q a xs _ (Bq g) (by rw[j5 na]at n;exact n) (by rw[jw na];exact e) (l'.mono λb o z=>?_)
  obtain⟨n1,z⟩:=of_del z
  have nb:b∉A:=λy=>by rw[hF b y]at z;cases z
  rw[j5,jw nb];exact z
  intro y
  rcases xn.mp y with y|y
  .exact n1 (by rw[y];exact X4.mpr rfl)
  .exact nb y⟩
end
noncomputable def jin:List aq:=["dearest_way","cost_on_whole","worst_table","worst_plan","foe_answer","whole_table","whole_plan","mean_price"]
noncomputable def kG(us ws:List ak):List ak:=match ws with
 |[w]=>us++[w]
 |_=>[]
noncomputable def kGV(vs zs:List V):List V:=match zs with
 |[z]=>vs++[z]
 |_=>[]
def Dfl(K:k7t)(x:aq)(fd:aN)(ps:List aq):Prop:=x∈jin->Binds K fd ps [.none]/\KBinds K fd ps ["prices"] kG kGV
structure Cal(X:Cx)(x:aq)(sp:Sp):Prop where
 ex:∃(k:Nat)(f:ao)(fd:aN)(ps:List aq),FnOk X.prog X.w X.K X.mg X.base CX0 k f fd ps sp/\Room (k+1) X.A/\X.mg x=aa (.ref f)/\W.keepIn X.K (.ref f)=af/\Binds X.K fd ps []/\Dfl X.K x fd ps
section
variable{X:Cx}{ρ:Rho}{e a:au}{es:List au}{d:D}{ds l:List D}{pos p:aR}{x:aq}
theorem DE.call{S:List D->D->Prop}(c:Cal X x (spP X.K S))(ha:DA X ρ (e::es) ds)(hS:S ds d)(hg:Gl X x:=by rfl)(hdb:(x==k7x)=ae:=by decide)
  (he:aj (e::es) X.env=(ae,aD e X.env)::aj es X.env:=by rfl) (hpl:(aQ pos (aj es X.env)).any (·.1)=ae:=by rfl):DE X ρ (.Call (.Name x p) (e::es) [] pos) d:=λσ H Q R q=>by
 obtain⟨k,f,fd,ps,F,hr,hm,hk,hb,_⟩:=c.ex;refine(W6 F (hr.mono (ph _)) hg hm hk hb .nil Vi paS hdb he hpl).to (ha σ H _ R λvs H1 g1 e1=>?_);show spP X.K S (vs++[]) H1 Q E0;rw[Xo];exact⟨owns ρ,ds,d,R.tb.mono g1,(R.grow g1).owned,e1,hS,λv H2 g2 z=>q v H2 (g1.trans g2) z⟩
theorem DT.call{S:List D->D->Prop}(c:Cal X x (spP X.K S))(ha:DTA X ρ (e::es) ds)(hS:S ds d)(hg:Gl X x:=by rfl)(hdb:(x==k7x)=ae:=by decide)
  (he:aj (e::es) X.env=(ae,aD e X.env)::aj es X.env:=by rfl) (hpl:(aQ pos (aj es X.env)).any (·.1)=ae:=by rfl):DT X ρ (.Call (.Name x p) (e::es) [] pos) d:=λσ H Q R q=>by
 obtain⟨k,f,fd,ps,F,hr,hm,hk,hb,_⟩:=c.ex;refine(W6 F (hr.mono (ph _)) hg hm hk hb .nil Vi paS hdb he hpl).to (ha σ H _ R λvs H1 g1 e1=>?_);show spP X.K S (vs++[]) H1 Q E0;rw[Xo];exact⟨[],ds,d,R.tb.mono g1,(λa h=>nomatch h),by rw[Jh];exact e1,hS,λv H2 g2 z=>q v H2 (g1.trans g2) (by rw[Jh]at z;exact z)⟩
theorem DO.call{S:List D->List D->Prop}(c:Cal X x (spF X.K S))(ha:DA X ρ (e::es) ds)(hS:S ds l)(hg:Gl X x:=by rfl)(hdb:(x==k7x)=ae:=by decide)
  (he:aj (e::es) X.env=(ae,aD e X.env)::aj es X.env:=by rfl) (hpl:(aQ pos (aj es X.env)).any (·.1)=ae:=by rfl):DO X ρ (.Call (.Name x p) (e::es) [] pos) l:=λσ H Q R q=>by
 obtain⟨k,f,fd,ps,F,hr,hm,hk,hb,_⟩:=c.ex;refine(W6 F (hr.mono (ph _)) hg hm hk hb .nil Vi paS hdb he hpl).to (ha σ H _ R λvs H1 g1 e1=>?_);show spF X.K S (vs++[]) H1 Q E0;rw[Xo];exact⟨owns ρ,ds,l,R.tb.mono g1,(R.grow g1).owned,e1,hS,λa xs H2 g2 n m z=>q a xs H2 (g1.trans g2) (g1.free n) m z⟩
end
inductive Rt where
 |val (d:D)
 |fresh (ds:List D)
noncomputable def Rt.d:Rt->D
 |.val d=>d
 |.fresh l=>.lst l
structure Po where
 nx:Rho->Prop
 rt:Rt->Prop
 bk:Rho->Prop:=λ_=>False
 ct:Rho->Prop:=λ_=>False
 ex:aq->Rho->Prop:=λ_ _=>False
structure Fl(N:ao->Prop)(H:Hp)(h:aH)(e:ao)(C:ak):Prop where
 new:∀b,N b->b≠e
 free:H e=ah
 obj:∃(oe:dy)(vs:Array ak)(a0:ak),h.get? e=aa oe/\oe.cls=C/\oe.data=.fields vs/\vs[0]?=aa a0 /\
  (vs[1]?=aa .none\/∃(T:ao)(oT:dy)(ts:Array ak),vs[1]?=aa (.ref T)/\T≠e/\h.get? T=aa oT/\oT.data=.fields ts/\ts[3]?=aa .none/\H T=ah/\∀b,N b->b≠T)
def Old(X:Cx)(pins:k7v)(b:ao):Prop:=(∃o,X.s₀.heap.get? b=aa o/\b∉X.ex)\/(∃p∈X.pn++pins,p.1=b)\/b=X.env.locals\/∃x,X.env.cells.lookup x=aa b
def O6(X:Cx)(σ:St)(H:Hp)(x:aq):Prop:=∀(pins:k7v) (H':Hp) (s':ar) (e:ao) (C:ak),Inv X pins σ H' s'->j4 H H'->X.mg x=aa C->Fl (Old X pins) H' s'.heap e C->X.xe (.ref e) s'
def Fr0(ρ ρ':Rho)(H H':Hp):Prop:=j4 (del H (owns ρ)) (del H' (owns ρ'))
def K4(K:k7t)(ρ:Rho)(H H':Hp)(v:V):Rt->Prop
 |.val d=>j4 (del H (owns ρ)) H'/\Enc K H' d v
 |.fresh ds=>∃a xs,v=.ref a/\j4 (del H (owns ρ)) (del H' [a])/\H' a=aa (.lst xs)/\j6 K (del H' [a]) ds xs
structure EndsOk(X:Cx)(ρ:Rho)(H:Hp)(P:Po)(E:Ends):Prop where
 nx:∀ρ' σ' H',P.nx ρ'->Rep X.K ρ' σ' H'->Fr0 ρ ρ' H H'->E.nx σ' H'
 bk:∀ρ' σ' H',P.bk ρ'->Rep X.K ρ' σ' H'->Fr0 ρ ρ' H H'->E.bk σ' H'
 ct:∀ρ' σ' H',P.ct ρ'->Rep X.K ρ' σ' H'->Fr0 ρ ρ' H H'->E.ct σ' H'
 rt:∀r v H',P.rt r->K4 X.K ρ H H' v r->E.rt v H'
 ex:∀x ρ' σ' H',P.ex x ρ'->Rep X.K ρ' σ' H'->Fr0 ρ ρ' H H'->O6 X σ' H' x
theorem K4.step{K:k7t}{ρ ρ1:Rho}{H H1 H':Hp}{v:V}{r:Rt}(f:Fr0 ρ ρ1 H H1)(h:K4 K ρ1 H1 H' v r):K4 K ρ H H' v r:=by
 cases r with
 |val d=>exact⟨f.trans h.1,h.2⟩
 |fresh ds=>obtain⟨a,xs,e,g,m,l⟩:=h;exact⟨a,xs,e,f.trans g,m,l⟩
theorem EndsOk.step{X:Cx}{ρ ρ1:Rho}{H H1:Hp}{P:Po}{E:Ends}(h:EndsOk X ρ H P E)(f:Fr0 ρ ρ1 H H1):EndsOk X ρ1 H1 P E :=
 ⟨λρ' σ' H' n R g=>h.nx ρ' σ' H' n R (f.trans g),λρ' σ' H' n R g=>h.bk ρ' σ' H' n R (f.trans g),λρ' σ' H' n R g=>h.ct ρ' σ' H' n R (f.trans g),λr v H' n g=>h.rt r v H' n (K4.step f g),λx ρ' σ' H' n R g=>h.ex x ρ' σ' H' n R (f.trans g)⟩
theorem Fr0.grow{ρ:Rho}{H H':Hp}(g:j4 H H'):Fr0 ρ ρ H H':=je g
theorem Fr0.refl(ρ:Rho)(H:Hp):Fr0 ρ ρ H H:=j4.refl _
theorem Fr0.drop{ρ ρ':Rho}{H:Hp}(h:∀b∈owns ρ',b∈owns ρ):Fr0 ρ ρ' H H:=vd h
theorem Fr0.new{ρ:Rho}{H H':Hp}{i:Nat}{a:ao}{ds:List D}{K:k7t}{σ:St}(R:Rep K ρ σ H)(g:j4 H H')(n:H a=ah):Fr0 ρ (ρ.set i (.own a ds)) H H':=λb o q=>by
 obtain⟨nb,q⟩:=of_del q;rw[j5];exact g b o q;intro z;rcases(Q0 (ds:=ds) (i:=i) R.nd (R.fresh n)).2 b z with e|z
 .subst e;rw[n]at q;cases q
 .exact nb z
def DS(X:Cx)(ρ:Rho)(st:aS)(P:Po):Prop:=∀σ H E,Rep X.K ρ σ H->EndsOk X ρ H P E->j84 X st E σ H
def DSs(X:Cx)(ρ:Rho)(sts:List aS)(P:Po):Prop:=∀σ H E,Rep X.K ρ σ H->EndsOk X ρ H P E->Vh X sts E σ H
section
variable{X:Cx}{ρ:Rho}{e a b c:au}{es:List au}{st:aS}{rest sa sb body:List aS}{P:Po}{d:D}{ds ds':List D}{pos p p1 p2 p3:aR}{x:aq}{i:Nat}
theorem DSs.nil(h:P.nx ρ):DSs X ρ [] P:=λσ H E R q=>W5.to (q.nx ρ σ H h R (Fr0.refl ρ H))
theorem DSs.cons{N:Rho->Prop}(h1:DS X ρ st { P with nx:=N })(h2:∀ρ1,N ρ1->DSs X ρ1 rest P):DSs X ρ (st::rest) P:=λσ H E R q =>(zb psS vq).to (h1 σ H { E with nx:=Vh X rest E } R ⟨λρ' σ' H' n R' f=>h2 ρ' n σ' H' E R' (q.step f),q.bk,q.ct,q.rt,q.ex⟩)
theorem DSs.forget(i:Nat)(h2:DSs X (ρ.set i .un) body P):DSs X ρ body P:=λσ H E R q=>by
 have z:=R.set_un (i:=i) (v:=ah);have R':Rep X.K (ρ.set i .un) σ H:=by
  have q:=R.set_un (i:=i) (v:=(σ[i]?).join);have e:σ.set i ((σ[i]?).join)=σ:=by
   apply Py;intro j;rw[dM];split
   .rename_i h;subst h;split
    .rename_i h;rw[kh h];rfl
    .rename_i h;rw[Xj nofun]
   .rfl
  rw[e]at q;exact q
 exact h2 σ H E R' (q.step (.drop λb hb=>(jh rfl).subset hb))
theorem DS.set(i:Nat)(he:DE X ρ e d)(h:P.nx (ρ.set i (.val d)))(hN:X.N.Nodup)(hi:X.N[i]?=aa x:=by rfl)(hx:Loc X.env.scope x:=by first|exact aZ rfl|exact cg rfl)
  (hs:aM e (aa (.Name x p)) pos.line X.env=pure ae:=by rfl) (hf:X.fn x=af\/X.env.scope.names.lookup x=aa .local:=by first|exact .inl rfl|exact .inr rfl):DS X ρ (.Assign [.Name x p] e pos) P:=λσ H E R q =>
 (Z2 hN hi hx peS hs hf).to (he σ H _ R λv H1 g1 e1=>q.nx _ _ H1 h ((R.grow g1).set_val e1) (j4.trans (Fr0.grow g1) (Fr0.drop λb hb=>(jh rfl).subset hb)))
theorem DS.setO(i:Nat)(he:DO X ρ e ds)(h:∀l,P.nx (ρ.set i (.own l ds)))(hN:X.N.Nodup)(hi:X.N[i]?=aa x:=by rfl)(hx:Loc X.env.scope x:=by first|exact aZ rfl|exact cg rfl)
  (hs:aM e (aa (.Name x p)) pos.line X.env=pure ae:=by rfl) (hf:X.fn x=af\/X.env.scope.names.lookup x=aa .local:=by first|exact .inl rfl|exact .inr rfl):DS X ρ (.Assign [.Name x p] e pos) P:=λσ H E R q =>
 (Z2 hN hi hx peS hs hf).to (he σ H _ R λl xs H1 g1 n m e1=>q.nx _ _ H1 (h l) (R.set_own g1 n m e1) (.new R g1 n))
theorem DS.if{k:Bool}(hc:DB X ρ c k)(ha:k=af->DSs X ρ sa P)(hb:k=ae->DSs X ρ sb P):DS X ρ (.If c sa sb pos) P:=λσ H E R q =>
 (Ec ptS vq vq).to (hc σ H _ R λH1 g1=>by
  cases k with
  |true=>exact Mt (ha rfl σ H1 E (R.grow g1) (q.step (.grow g1)))
  |false=>exact Mu (hb rfl σ H1 E (R.grow g1) (q.step (.grow g1))))
theorem DS.ret(he:DT X ρ e d)(h:P.rt (.val d)):DS X ρ (.Return (aa e) pos) P:=λσ H E R q =>(Z3 peS).to (he σ H _ R λv H1 g1 e1=>q.rt _ v H1 h ⟨jk.trans g1,e1⟩)
theorem DS.retO(he:DO X ρ e ds)(h:P.rt (.fresh ds)):DS X ρ (.Return (aa e) pos) P:=λσ H E R q =>
 (Z3 peS).to (he σ H _ R λl xs H1 g1 n m e1=>q.rt _ _ H1 h ⟨l,xs,rfl,(λb o z=>by
  obtain⟨nb,z⟩:=of_del z
  rw[j5];exact g1 b o z
  intro y;rw[X4.mp y,n]at z;cases z),m,e1.mono (vd λb hb=>by rw[X4.mp hb];exact xj ..)⟩)
theorem DS.retV(k:Nat){l:ao}(hk:ρ[k]?=aa (.own l ds))(h:P.rt (.fresh ds))(hN:X.N[k]?=aa x:=by rfl)(hv:Vis X.env.scope x:=by first|exact aZ rfl|exact cg (aZ rfl)|exact cg (cg rfl))
  (hd:(x==k7x)=ae:=by decide) (hcd:(x==k7y)=ae:=by decide):DS X ρ (.Return (aa (.Name x p)) pos) P:=λσ H E R q=>by
 obtain⟨hs,xs,m,en⟩:=R.own k l ds hk;have g:j4 (del H (owns ρ)) (del H [l]):=vd λb hb=>by rw[X4.mp hb];exact Jr hk
 exact(Z3 (qz hN hv hd hcd)).to ⟨_,hs,q.rt _ _ H h ⟨l,xs,rfl,g,m,en.mono g⟩⟩
theorem DS.expr(he:DT X ρ e d)(h:P.nx ρ)(hs:aM e ah pos.line X.env=pure ae:=by rfl):DS X ρ (.Expr e pos) P:=λσ H E R q =>(Zg peS hs).to (he σ H _ R λv H1 g1 e1=>q.nx ρ σ H1 h (R.grow g1) (.grow g1))
theorem Mw{σ:St}{H H':Hp}{l:ao}{o:HO}(hk:ρ[i]?=aa (.own l ds))(g:j4 H H'):Fr0 ρ (ρ.set i (.own l ds')) H (upd H' l o):=by unfold Fr0;rw[Qh hk,Ve (Jr hk)];exact je g
theorem DS.append(i:Nat){l:ao}(hk:ρ[i]?=aa (.own l ds))(he:DE X ρ e d)(hl:ds.length<av)(h:P.nx (ρ.set i (.own l (ds++[d]))))
  (hN:X.N[i]?=aa x:=by rfl) (hv:Vis X.env.scope x:=by first|exact aZ rfl|exact cg (aZ rfl)|exact cg (cg rfl)) (hd:(x==k7x)=ae:=by decide) (hcd:(x==k7y)=ae:=by decide)
  (hst:aj [e] X.env=[(ae,aD e X.env)]:=by rfl) (hline:(p1.endLine==p2.line)=af:=by rfl)
  (hbase:aW (.Name x p) "append" X.env (aD (.Name x p) X.env)=aD (.Name x p) X.env:=by rfl) (hfew:((aQ p2 (aj [e] X.env)).all (λx=>!x.1)&&(bP p2 (b8 [] X.env)).all (λx=>x.1.isSome)
   && decide (([e]:List au).length+([]:List b7).length+(if ([]:List b7).isEmpty then 0 else 1)<30))=af:=by rfl)
  (hs:aM (.Call (.Attribute (.Name x p) "append" p1) [e] [] p2) ah pos.line X.env=pure ae:=by rfl) :
  DS X ρ (.Expr (.Call (.Attribute (.Name x p) "append" p1) [e] [] p2) pos) P:=λσ H E R q=>by
 obtain⟨hσ,xs,m,en⟩:=R.own i l ds hk;refine(Zg (Ui Pu bK cE Vs (qz hN hv hd hcd) (jc peS qb hst) hbase hfew hline hst rfl) hs).to ?_;refine⟨_,hσ,.inl ⟨rfl,xs,.inl (.inl m)⟩,he σ H _ R λv H1 g1 e1=>⟨l,xs,v,rfl,rfl,g1 _ _ m,by rw[en.length];exact hl,?_⟩⟩;exact q.nx _ σ _ h ((R.grow g1).upd_own hk ((en.mono (je g1)).append (.one e1))) (Mw (σ:=σ) hk g1)
theorem DS.extend(i:Nat){l:ao}(hk:ρ[i]?=aa (.own l ds))(he:DO X ρ e ds')(hl:ds.length+ds'.length<=av)(h:P.nx (ρ.set i (.own l (ds++ds'))))
  (hN:X.N[i]?=aa x:=by rfl) (hv:Vis X.env.scope x:=by first|exact aZ rfl|exact cg (aZ rfl)|exact cg (cg rfl)) (hd:(x==k7x)=ae:=by decide) (hcd:(x==k7y)=ae:=by decide)
  (hst:aj [e] X.env=[(ae,aD e X.env)]:=by rfl) (hline:(p1.endLine==p2.line)=af:=by rfl)
  (hbase:aW (.Name x p) "extend" X.env (aD (.Name x p) X.env)=aD (.Name x p) X.env:=by rfl) (hfew:((aQ p2 (aj [e] X.env)).all (λx=>!x.1)&&(bP p2 (b8 [] X.env)).all (λx=>x.1.isSome)
   && decide (([e]:List au).length+([]:List b7).length+(if ([]:List b7).isEmpty then 0 else 1)<30))=af:=by rfl)
  (hs:aM (.Call (.Attribute (.Name x p) "extend" p1) [e] [] p2) ah pos.line X.env=pure ae:=by rfl) :
  DS X ρ (.Expr (.Call (.Attribute (.Name x p) "extend" p1) [e] [] p2) pos) P:=λσ H E R q=>by
 obtain⟨hσ,xs,m,en⟩:=R.own i l ds hk;refine(Zg (Ui Pu hR PySem.F.type_list_extend j5u (qz hN hv hd hcd) (jc peS qb hst) hbase hfew hline hst rfl) hs).to ?_;refine⟨_,hσ,.inl ⟨rfl,xs,.inl (.inl m)⟩,he σ H _ R λb ys H1 g1 n1 m1 e1=>⟨l,b,xs,ys,rfl,rfl,g1 _ _ m,m1,by rw[en.length,e1.length];exact hl,?_⟩⟩;exact q.nx _ σ _ h ((R.grow g1).upd_own hk ((en.mono (je g1)).append (e1.mono (vd λc hc=>xf _ hc)))) (Mw (σ:=σ) hk g1)
def Uw(K:k7t)(F:Hp)(J:It)(ds:List D):Prop:=∀(i:Nat)(H:Hp)(A:List ao),j4 F (del H A)->(∀a∈A,H a≠ah) ->
 (i<ds.length->J.go i H)/\(ds.length<=i->J.stop i H)/\∀x H',J.yld i H x H'->j4 H H'/\∀d,ds[i]?=aa d->Enc K (del H' A) d x
def DI(X:Cx)(ρ:Rho)(tg it:au)(ds:List D):Prop:=∀σ H R,Rep X.K ρ σ H->(∀J H',j4 H H'->Uw X.K (del H' (owns ρ)) J ds->R J H')->j85 X tg it σ H R
variable{tg it:au}
theorem j69{K:k7t}{F:Hp}{l:ao}{xs:List V}(sq:SqL K F l xs)(en:j6 K F ds xs):Uw K F (Itl K l) ds:=λi H A g hA=>by
 have sq':SqL K H l xs:=jk.seq (g.seq sq);refine⟨λh=>?_,λh=>⟨xs,sq',by rw[en.length];exact h⟩,λx H' ⟨e,y⟩=>?_⟩
 .obtain⟨v,hv,_⟩:=en.get (kh h);exact⟨xs,v,sq',hv⟩
 .subst e;refine⟨j4.refl _,λd hd=>?_⟩;obtain⟨v,hv,ev⟩:=en.get hd;have e:=y xs sq';rw[hv]at e;cases e;exact ev.mono g
theorem j9c{K:k7t}{F:Hp}{l:ao}{xs:List V}(sq:SqT K F l xs)(en:j6 K F ds xs):Uw K F (Itt K l) ds:=λi H A g hA=>by
 have sq':SqT K H l xs:=jk.seqT (g.seqT sq);refine⟨λh=>?_,λh=>⟨xs,sq',by rw[en.length];exact h⟩,λx H' ⟨e,y⟩=>?_⟩
 .obtain⟨v,hv,_⟩:=en.get (kh h);exact⟨xs,v,sq',hv⟩
 .subst e;refine⟨j4.refl _,λd hd=>?_⟩;obtain⟨v,hv,ev⟩:=en.get hd;have e:=y xs sq';rw[hv]at e;cases e;exact ev.mono g
theorem DI.lst(h:DE X ρ it (.lst ds)):DI X ρ tg it ds:=λσ H R r q=>(jd6 peS).to (h σ H _ r λv H1 g1 ⟨l,xs,e,sq,en⟩=>⟨l,e,⟨xs,jk.seq sq⟩,q _ H1 g1 (j69 sq en)⟩)
theorem DI.tup(h:DE X ρ it (.tup ds)):DI X ρ tg it ds:=λσ H R r q=>(jgg peS).to (h σ H _ r λv H1 g1 ⟨l,xs,e,sq,en⟩=>⟨l,e,⟨xs,jk.seqT sq⟩,q _ H1 g1 (j9c sq en)⟩)
noncomputable def upto(lo:Int)(n:Nat):List D:=(aB n).map λk=>D.int (lo+(k:Nat))
theorem De{K:k7t}{F:Hp}(lo:Int)(n:Nat):Uw K F (Itr lo n) (upto lo n):=λi H A g hA=>by
 have hl:(upto lo n).length=n:=by unfold upto;rw[xg,Xh]
 rw[hl];refine⟨λh=>h,λh=>h,λx H' ⟨e,y⟩=>?_⟩;subst e;refine⟨j4.refl _,λd hd=>?_⟩;unfold upto at hd;rw[xu]at hd;cases z:(aB n)[i]? with
 |none=>rw[z]at hd;cases hd
 |some k =>
  rw[z]at hd;have ek:k=i:=by have:=T4 (n:=n) (i:=i) (by have:=(Xf.mp z).1;rwa [Xh]at this);rw[this]at z;exact(aE z).symm
  subst ek;cases hd;exact y
theorem DI.range1 {n:Int} (h:DT X ρ a (.int n)) (hm:X.mg "range" = ah) (h1:-(2^62)<=n) (h2:n<2^62) (hg:Gl X "range":=by rfl) (hs:aj [a] X.env=[(ae,aD a X.env)]:=by rfl):DI X ρ tg (.Call (.Name "range" p) [a] [] pos) (upto 0 n.toNat):=λσ H R r q =>(j5l hg hm (jc peS qb hs) hs).to (h σ H _ r λv H1 g1 e=>⟨n,by rw[show v=.int n from e],h1,h2,q _ H1 g1 (De 0 _)⟩)
theorem DI.range2 {m n:Int} (h:DT X ρ a (.int m)) (h':DT X ρ b (.int n)) (hm:X.mg "range" = ah) (h1:-(2^62)<=m) (h2:m<2^62) (h3:-(2^62)<=n) (h4:n<2^62) (hg:Gl X "range":=by rfl) (hs:aj [a,b] X.env=[(ae,aD a X.env),(ae,aD b X.env)]:=by rfl)
  (hs2:aj [b] X.env=[(ae,aD b X.env)]:=by rfl) (hs3:aj [a,b] X.env=(ae,aD a X.env)::aj [b] X.env:=by rfl):DI X ρ tg (.Call (.Name "range" p) [a,b] [] pos) (upto m (n-m).toNat):=λσ H R r q =>
 (j5k hg hm (jc peS (jc peS qb hs2) hs3) hs hs2).to (h σ H _ r λv H1 g1 e=>h' σ H1 _ (r.grow g1) λu H2 g2 e2=>⟨m,n,by rw[show v=.int m from e,show u=.int n from e2],⟨h1,h2,h3,h4⟩,q _ H2 (g1.trans g2) (De m _)⟩)
def j86(X:Cx)(tg:au):TG:=λv σ H Q=>∀pins s u,Inv X pins σ H s->RelV v u->ay (aC X.prog X.w) X.A (eV tg X.env u) (λ_ s'=>∃σ' H',Inv X pins σ' H' s'/\Q σ' H') X.xe s
theorem pgS:PG X tg (j86 X tg):=λpins s σ H v u Q I r h=>h pins s u I r
theorem PG.to{t:TG}{σ:St}{H:Hp}{v:V}{Q:St->Hp->Prop}(h:PG X tg t)(q:t v σ H Q):j86 X tg v σ H Q:=λpins s u I r=>h pins s σ H v u Q I r q
def DG(X:Cx)(ρ:Rho)(tg:au)(d:D)(ρ':Rho):Prop:=(∀b∈owns ρ',b∈owns ρ)/\∀σ H v Q,Rep X.K ρ σ H->Enc X.K (del H (owns ρ)) d v->(∀σ',Rep X.K ρ' σ' H->Q σ' H)->j86 X tg v σ H Q
theorem DG.name(i:Nat)(hN:X.N.Nodup)(hi:X.N[i]?=aa x:=by rfl)(hx:Loc X.env.scope x:=by first|exact aZ rfl|exact cg rfl)(hf:X.fn x=af\/X.env.scope.names.lookup x=aa .local:=by first|exact .inl rfl|exact .inr rfl):DG X ρ (.Name x p) d (ρ.set i (.val d)) :=
 ⟨λb hb=>(jh rfl).subset hb,λσ H v Q R en q=>(Cy hN hi hx hf).to (q _ (R.set_val en))⟩
theorem DS.for(W:Nat->Rho->Prop)(hi:DI X ρ tg it ds)(h0:W 0 ρ)(hs:∀i d ρ',ds[i]?=aa d->W i ρ'->∃ρ2,DG X ρ' tg d ρ2/\DSs X ρ2 body { nx:=W (i+1),rt:=P.rt,bk:=P.nx,ct:=W (i+1),ex:=P.ex })
  (hd:∀ρ',W ds.length ρ'->P.nx ρ') (hc:X.calm=af) (hp:fD (aC X.prog X.w) X.A X.env X.xe) (hf:∀x,aV it X.env x=pure x:=by intro _;rfl):DS X ρ (.For tg it body [] pos) P:=λσ H E R q=>by
 refine(jgd hp hc piS pgS vq hf).to (hi σ H _ R λJ H1 g1 ok=>?_);refine⟨λi m σ' H'=>∃ρ',W i ρ'/\Rep X.K ρ' σ' H'/\Fr0 ρ ρ' H1 H'/\m=ds.length-i/\i<=ds.length,⟨ds.length,ρ,h0,R.grow g1,Fr0.refl _ _,rfl,d5 _⟩,?_⟩;rintro i m σ' H' ⟨ρ',w,R',f,rfl,hle⟩;obtain⟨go,stop,yld⟩:=ok i H' (owns ρ') f λa ha=>by obtain⟨xs,e⟩:=R'.owned a ha;rw[e];simp
 by_cases hlt:i<ds.length
 .refine .inr ⟨go hlt,λσ2 H2=>∃ρ2,W (i+1) ρ2/\Rep X.K ρ2 σ2 H2/\Fr0 ρ ρ2 H1 H2,λσ2 H2 ⟨ρ2,w2,R2,f2⟩=>⟨ds.length-(i+1),by omega,ρ2,w2,R2,f2,rfl,hlt⟩,λx H2 y=>?_⟩;obtain⟨g2,en⟩:=yld x H2 y;obtain⟨ρ2,⟨sub,hG⟩,hB⟩:=hs i ds[i] ρ' (kh hlt) w;refine hG σ' H2 x _ (R'.grow g2) (en _ (kh hlt)) λσ3 R3=>?_;have f2:Fr0 ρ ρ2 H1 H2:=j4.trans f (j4.trans (Fr0.grow g2) (Fr0.drop sub));refine hB σ3 H2 _ R3 ⟨λρ3 σ4 H4 n R4 f4=>⟨ρ3,n,R4,f2.trans f4⟩,λρ3 σ4 H4 n R4 f4=>q.nx ρ3 σ4 H4 n R4 ((Fr0.grow g1).trans (f2.trans f4)),λρ3 σ4 H4 n R4 f4=>⟨ρ3,n,R4,f2.trans f4⟩,λr v H4 n z=>q.rt r v H4 n (K4.step ((Fr0.grow g1).trans f2) z),λx ρ3 σ4 H4 n R4 f4=>q.ex x ρ3 σ4 H4 n R4 ((Fr0.grow g1).trans (f2.trans f4))⟩
 .have e:i=ds.length:=by omega
  subst e;exact .inl ⟨stop (X7 _),q.nx ρ' σ' H' (hd ρ' w) R' ((Fr0.grow g1).trans f)⟩
end
noncomputable def qy(N:List aq)(ds:List D):Rho:=ds.map Sl.val++aA (N.length-ds.length) Sl.un
theorem Z4(N:List aq)(ds:List D):owns (qy N ds)=[]:=by
 unfold owns qy;rw[List.filterMap_append];have h1:(ds.map Sl.val).filterMap Sl.addr=[]:=List.filterMap_eq_nil_iff.mpr λs hs=>by obtain⟨d,_,rfl⟩:=Xa.mp hs;rfl
 have h2:(aA (N.length-ds.length) Sl.un).filterMap Sl.addr=[]:=List.filterMap_eq_nil_iff.mpr λs hs=>by rw[(List.mem_replicate.mp hs).2];rfl
 rw[h1,h2];rfl
theorem Vq{K:k7t}{H:Hp}{N:List aq}{ds:List D}{vs:List V}(tb:TabOk K H)(h:j6 K H ds vs):Rep K (qy N ds) (start N vs) H:=by
 have ho:=Z4 N ds;have hl:=h.length;refine⟨by unfold qy start;simp[hl],λi d e=>?_,λi a l e=>?_,by rw[ho];exact jS,λi a o y e=>?_,tb⟩
 .rw[ho,Jh];unfold qy at e;by_cases z:i<ds.length
  .rw[Pq (by simpa using z),xu]at e;rw[kh z]at e;cases e;obtain⟨v,hv,en⟩:=h.get (kh z);refine⟨v,?_,en⟩;unfold start;rw[Pq (by rw[xg,hl];exact z),xu,hv];rfl
  .rw[dr (by simpa using z)]at e;have:=Xv e;cases(List.mem_replicate.mp this).2
 .have:=Jr e;rw[ho]at this;cases this
 .unfold qy at e;rcases Pn.mp (Xv e)with z|z
  .obtain⟨d,_,q⟩:=Xa.mp z;cases q
  .cases(List.mem_replicate.mp z).2
section
variable{P:az}{w:aF}{K:k7t}{mg:k7w}{base:aH}{x qual:aq}{st:aS}{f:ao}{fd:aN}{N ps:List aq}{k:Nat}
def Ux(K:k7t)(f:ao)(cdv:ak):Prop:=∃(oc:ak)(od:Option ao)(fd:aN)(sl:Array (Option ak)),K.lookup f=aa ⟨oc,od,.func fd,sl⟩/\fd.code=cdv
theorem Fun.okC{sp:Sp}(F:Fun K x qual st f fd)(S:FnScope N ps (j0 st))(len:∀vs H Q E,sp vs H Q E->vs.length=ps.length)
  (hbody:∀(cdv:ak)(A:aI)(outer:List dz)(s:ar)(H:Hp)(vs:List V)(Q:VK) (E:XK),Ux K f cdv->Room k (A.deeper (bB qual (j0 st) s.heap.objs.size f cdv))->sp vs H Q E ->
   ∃t,PSs (zm CX0 P w K mg base N qual (j0 st) f cdv A outer s H E).nox (jg st) t/\t { nx:=λ_ H'=>Q .non H',rt:=Q } (start N vs) H):FnOk P w K mg base CX0 (k+1) f fd ps sp:=by
 obtain⟨oc,od,dV,kV,doc,pm,an,cdv,ct,osl,rfl,lk,hcd⟩:=F.ex;refine Ek lk hcd S len λA outer s H vs Q E hr hsp=>?_;obtain⟨t,h,q⟩:=hbody cdv A outer s H vs Q E ⟨oc,od,_,osl,lk,rfl⟩ hr hsp;exact⟨t,h.nox,q⟩
theorem Ln{S:List D->D->Prop}(F:Fun K x qual st f fd)(Sc:FnScope N ps (j0 st))(hl:∀ds d,S ds d->ds.length=ps.length)
  (hbody:∀(cdv:ak)(A:aI)(outer:List dz)(s:ar)(H:Hp)(E:XK),Ux K f cdv->Room k (A.deeper (bB qual (j0 st) s.heap.objs.size f cdv))->∀ds d,S ds d ->
   DSs (zm CX0 P w K mg base N qual (j0 st) f cdv A outer s H E).nox (qy N ds) (jg st) { nx:=λ_=>d=.non,rt:=λr=>r.d=d }):FnOk P w K mg base CX0 (k+1) f fd ps (spP K S):=by
 refine FnOk.toP (F.okC Sc (λvs H Q E ⟨ds,d,tb,en,hS,_⟩=>by rw[en.length];exact hl ds d hS) λcdv A outer s H vs Q E hcv hr ⟨ds,d,tb,en,hS,q⟩=>⟨_,vq,?_⟩);have ho:=Z4 N ds;refine hbody cdv A outer s H E hcv hr ds d hS (start N vs) H _ (Vq tb en) ⟨λρ' σ' H' n R f=>?_,λ_ _ _ z=>z.elim,λ_ _ _ z=>z.elim,λr v H' n z=>?_,λ_ _ _ _ z=>z.elim⟩
 .subst n;unfold Fr0 at f;rw[ho,Jh]at f;exact q _ H' (f.trans jk) rfl
 .cases r with
  |val d' =>cases(show d'=d from n);obtain⟨g,en'⟩:=z;rw[ho,Jh]at g;exact q v H' g en'
  |fresh l =>cases(show D.lst l=d from n);obtain⟨a,xs,e,g,m,en'⟩:=z;rw[ho,Jh]at g;exact q v H' (g.trans jk) ⟨a,xs,e,.inl (.inl m),en'.mono jk⟩
theorem ja0{S:List D->List D->Prop}(F:Fun K x qual st f fd)(Sc:FnScope N ps (j0 st))(hl:∀ds d,S ds d->ds.length=ps.length)
  (hbody:∀(cdv:ak)(A:aI)(outer:List dz)(s:ar)(H:Hp)(E:XK),Ux K f cdv->Room k (A.deeper (bB qual (j0 st) s.heap.objs.size f cdv))->∀ds l,S ds l ->
   DSs (zm CX0 P w K mg base N qual (j0 st) f cdv A outer s H E).nox (qy N ds) (jg st) { nx:=λ_=>False,rt:=λr=>r=.fresh l }):FnOk P w K mg base CX0 (k+1) f fd ps (spF K S):=by
 refine FnOk.toF (F.okC Sc (λvs H Q E ⟨ds,d,tb,en,hS,_⟩=>by rw[en.length];exact hl ds d hS) λcdv A outer s H vs Q E hcv hr ⟨ds,l,tb,en,hS,q⟩=>⟨_,vq,?_⟩);have ho:=Z4 N ds;refine hbody cdv A outer s H E hcv hr ds l hS (start N vs) H _ (Vq tb en) ⟨λρ' σ' H' n R f=>n.elim,λ_ _ _ z=>z.elim,λ_ _ _ z=>z.elim,λr v H' n z=>?_,λ_ _ _ _ z=>z.elim⟩;cases(show r=.fresh l from n);obtain⟨a,xs,e,g,m,en'⟩:=z;rw[ho,Jh]at g;subst e;refine q a xs H' (g.trans jk) ?_ m en';cases y:H a with
 |none=>rfl
 |some o=>have:=g a o y;rw[vm (X4.mpr rfl)]at this;cases this
end
section
variable{prog:az}{w:aF}{A:aI}{R:fm->ar->Prop}{s:ar}
theorem j15{elt target iter:au}{ifs:List au}{scope:bC}{pos:aR}{it acc:ak}{env:dz}(I:Nat->ar->Prop)
  (turn:∀n s,I n s->ay (aC prog w) A (dS it) (λr s₁=>match r with
   |none=>R (.ok .next) s₁
   |some v=>ay (aC prog w) A (eY target it v) (λ_ s₁'=>ay (aC prog w) A (eV target env v) (λ_ s₂ =>
     ay (aC prog w) A (forIn ifs af λc r=>if r=af then do let ok <-eU c env (aD c env);pure (cC ok)else pure (cC r)) (λok s₃ =>
      if ok=af then ay (aC prog w) A (aD elt env) (λx s₄ =>
       ay (aC prog w) A (call (.builtin "list.append") [acc,x]) (λ_ s₅=>∃m,m<n/\I m s₅) (λ_ _=>False) s₄) (λ_ _=>False) s₃
      else ∃m,m<n/\I m s₃) (λ_ _=>False) s₂) (λ_ _=>False) s₁') (λ_ _=>False) s₁) (λ_ _=>False) s)
  (n:Nat) (h:I n s) :
  cK (aC prog w) A (.compLoop (.ListComp elt [⟨target,iter,ifs,0⟩] scope pos) 0 it acc env) R s:=by
 refine codeAny_loop rfl I (λn s hI=>?_) n h;show ay _ A ((compTurn (.ListComp elt [⟨target,iter,ifs,0⟩] scope pos) 0 it acc env).onRaise (λx=>do noteFrame x env;theTreesLotGoes x)) _ _ s;refine wpAny_noted ?_;rw[compTurn_list];refine ai (ie (ai (bS (turn n s hI) (λr s₁ h₁=>?_) λ_ _ h'=>h'.elim)));cases r with
 |none=>exact aw h₁
 |some v =>
  refine ai (bS h₁ (λ_ s₁' h₁'=>?_) λ_ _ h'=>h'.elim);refine ai (bS h₁' (λ_ s₂ h₂=>ai (bS h₂ (λok s₃ h₃=>?_) λ_ _ h'=>h'.elim)) λ_ _ h'=>h'.elim);cases ok with
  |false=>exact aw ⟨rfl,h₃⟩
  |true =>exact ai (ai (bS h₃ (λx s₄ h₄=>ai (bS h₄ (λ_ s₅ h₅=>aw (aw ⟨rfl,h₅⟩)) λ_ _ h'=>h'.elim)) λ_ _ h'=>h'.elim))
end
noncomputable def vz(env:dz):List (aq×bH)->List (aq×ao)->List (aq×ao)
 |[],acc=>acc
 |(n,k)::r,acc=>vz env r (if k==.free then(match env.cells.lookup n with|some a=>(n,a)::acc|none=>acc)else acc)
theorem Ds{scope:bC}{env:dz}(h:∀y∈scope.names,y.2=.free->(env.cells.lookup y.1).isSome=af):closureFor scope env=pure (vz env scope.names []):=by
 simp only[closureFor];have step:∀(names:List (aq×bH)) (acc:List (aq×ao)),(∀y∈names,y.2=.free->(env.cells.lookup y.1).isSome=af) ->
   (forIn names acc (λx r=>(do if (x.2==bq)=af then(do let a <-cellOf env x.1;pure (cC ((x.1,a)::r)))else pure (cC r):lG _)):lG _)=pure (vz env names acc):=by
  intro names;induction names with
  |nil=>intro acc _;rfl
  |cons y r ih =>
   intro acc hy;obtain⟨n,k⟩:=y;rw[d7];by_cases e:(k==bq)=af
   .have hk:k=.free:=by simpa using e
    have hs:=hy (n,k) (xj ..) hk;obtain⟨a,ha⟩:=Xr.mp hs;have hc:cellOf env n=pure a:=by unfold cellOf;rw[ha]
    simp only[e,if_true,hc,pure_bind];rw[ih _ λz hz=>hy z (xf _ hz)];simp only[vz,e,if_true,ha]
   .have e':(k==bq)=ae:=by simpa using e
    simp only[e',Xx,if_false,pure_bind];rw[ih _ λz hz=>hy z (xf _ hz)];simp only[vz,e',Xx,if_false]
 have:=step scope.names [] h;rw[show(forIn scope.names ([]:List (aq×ao)) λx r=>_)=_ from this];rfl
theorem Ia{env:dz}{y:aq}{c:ao}:∀{names:List (aq×bH)} {acc:List (aq×ao)},(∀y c,acc.lookup y=aa c->env.cells.lookup y=aa c)->(vz env names acc).lookup y=aa c->env.cells.lookup y=aa c
 |[],acc,h,q=>h y c q
 |(n,k)::r,acc,h,q=>by
  unfold vz at q;refine Ia (acc:=_) ?_ q;intro z d hz;split at hz
  .split at hz
   .rename_i a ha;rw[Xi]at hz;split at hz
    .rename_i e;have e':z=n:=by simpa using e
     subst e';cases hz;exact ha
    .exact h z d hz
   .exact h z d hz
  .exact h z d hz
theorem Dt{env:dz}{y:aq}:∀{names:List (aq×bH)} {acc:List (aq×ao)},(acc.lookup y).isSome=af->((vz env names acc).lookup y).isSome=af
 |[],acc,h=>h
 |(n,k)::r,acc,h=>by
  unfold vz;refine Dt ?_;split
  .split
   .rw[Xi];split
    .rfl
    .exact h
   .exact h
  .exact h
theorem Rj{env:dz}{y:aq}(hs:(env.cells.lookup y).isSome=af):∀{names:List (aq×bH)} {acc:List (aq×ao)},(y,bq)∈names->((vz env names acc).lookup y).isSome=af
 |[],acc,h=>nomatch h
 |(n,k)::r,acc,h=>by
  unfold vz;rcases xn.mp h with e|h
  .cases e;refine Dt ?_;obtain⟨a,ha⟩:=Xr.mp hs;rw[if_pos (by rfl),ha];rw[Xi];simp
  .exact Rj hs h
noncomputable def Q8(scope:bC)(env:dz)(N:List aq)(cs:List Nat):Bool :=
 scope.names.all (λy=>(y.2 != .cell || scope.names.lookup y.1==aa .cell)&&(y.2 != .local || scope.names.lookup y.1==aa .local)&&(y.2 != .free || ((env.cells.lookup y.1).isSome&&(env.kindOf y.1==aa .cell || env.kindOf y.1==aa .free)))) &&
 (aB N.length).all (λj=>cs.contains j || (match N[j]? with|some y=>scope.names.lookup y != aa .local&&scope.names.lookup y != aa .cell|none=>af))
theorem lookup_mem{α β:Type}[BEq α][LawfulBEq α]{l:List (α×β)}{a:α}{b:β}(h:l.lookup a=aa b):(a,b)∈l:=by
 induction l with
 |nil=>cases h
 |cons x r ih =>
  obtain⟨c,d⟩:=x;rw[Xi]at h;split at h
  .rename_i e;cases h;have e':a=c:=by simpa using e
   subst e';exact xj ..
  .exact xf _ (ih h)
theorem Jm{env:dz}{x:aq}{k':bH}:∀{names:List (aq×bH)},
  (names.map λ(n,k)=>if (k==bq&&env.scope.kind==.function&&env.kindOf n==aa .cell) then(n,bW) else(n,k)).lookup x=aa k' ->
  ∃k,names.lookup x=aa k/\(k'=k\/(k=.free/\k'=.cell))
 |[],h=>by cases h
 |(n,k)::r,h=>by
  rw[xx]at h;rw[Xi];by_cases hc:(k==bq&&env.scope.kind==.function&&env.kindOf n==aa .cell)=af
  .dsimp only at h;rw[if_pos hc,Xi]at h;cases e:x==n with
   |true =>
    rw[e]at h;cases h;have:(k==bq)=af:=by
     cases z:k==bq with
     |true=>rfl
     |false=>rw[z]at hc;simp at hc
    exact⟨k,rfl,.inr ⟨by simpa using this,rfl⟩⟩
   |false=>rw[e]at h;exact Jm h
  .dsimp only at h;rw[if_neg hc,Xi]at h;cases e:x==n with
   |true=>rw[e]at h;cases h;exact⟨_,rfl,.inl rfl⟩
   |false=>rw[e]at h;exact Jm h
theorem U5:∀(names:List (aq×bH)) (n:Nat) (acc:List (aq×ao)),aY n names acc=aY n names []++acc
 |[],_,_=>rfl
 |(x,k)::r,n,acc=>by
  unfold aY;split
  .rw[U5 r (n+1) ((x,n)::acc),U5 r (n+1) [(x,n)],pq];rfl
  .exact U5 r n acc
theorem Du:∀{names:List (aq×bH)} {n:Nat} {x:aq} {c:ao},(x,c)∈aY n names []->(x,bW)∈names/\n<=c
 |[],_,_,_,h=>nomatch h
 |(y,k)::r,n,x,c,h=>by
  unfold aY at h;split at h
  .rename_i hk;rw[U5]at h;rcases Pn.mp h with h|h
   .have q:=Du h;exact⟨xf _ q.1,Nat.le_of_succ_le q.2⟩
   .cases X4.mp h;have hk:k=bW:=by simpa using hk
    subst hk;exact⟨xj ..,X7 _⟩
  .have q:=Du h;exact⟨xf _ q.1,q.2⟩
theorem Yc{β:Type}:∀{l m:List (aq×β)} {y:aq},(l++m).lookup y=(l.lookup y).or (m.lookup y)
 |[],m,y=>rfl
 |(x,b)::r,m,y=>by
  rw[T7,Xi,Xi];split
  .rfl
  .exact Yc
theorem Ib{names:List (aq×bH)}{n:Nat}{acc:List (aq×ao)}{y:aq}{c:ao}(h:(aY n names acc).lookup y=aa c) :
  ((y,c)∈aY n names []/\(y,bW)∈names/\n<=c)\/((aY n names []).lookup y=ah/\acc.lookup y=aa c):=by
 rw[U5,Yc]at h;cases e:(aY n names []).lookup y with
 |some c'=>rw[e]at h;cases h;have q:=lookup_mem e;exact .inl ⟨q,Du q⟩
 |none=>rw[e]at h;exact .inr ⟨rfl,h⟩
theorem jiv{names:List (aq×bH)}{n:Nat}{acc:List (aq×ao)}{y:aq}(h:(y,bW)∉names):(aY n names acc).lookup y=acc.lookup y:=by
 rw[U5,Yc];cases e:(aY n names []).lookup y with
 |some c'=>exact absurd (Du (lookup_mem e)).1 h
 |none=>rfl
theorem jeq{names:List (aq×bH)}{n:Nat}{acc:List (aq×ao)}{y:aq}(h:(acc.lookup y).isSome=af):∃c,(aY n names acc).lookup y=aa c:=by
 rw[U5,Yc];cases e:(aY n names []).lookup y with
 |some c'=>exact⟨c',rfl⟩
 |none=>obtain⟨c,hc⟩:=Xr.mp h;exact⟨c,hc⟩
theorem j0k{M:jI}{A:aI}{E:k7u}{s:ar}{scope:bC}{globals:ao}{closure:List (aq×ao)}{qual:aq}{env:dz}{Q:dz->ar->Prop}
  (hQ:Q { scope:=scope,locals:=s.heap.objs.size,globals:=globals,cells:=aY (s.heap.objs.size+1) scope.names closure,qual:=qual,func:=ah,code:=env.code,frame:=env.frame,builtins:=env.builtins }
   { s with heap:=iz (s.heap.push { cls:=.type "dict",data:=.dict #[] }) scope.names }) :
  ay M A (i0 scope globals closure [] qual ah .none (aa env)) Q E s:=by
 simp only[i0,eZ,if_true];refine ai (wpAny_alloc ?_);refine ai (wpAny_layCells _ (λname kind cells=>by cases hkc:kind==bW<;>simp[hkc]) _ _ _ _ ?_);rw[show({ s with heap:=s.heap.push { cls:=.type "dict",data:=.dict #[] } }:ar).heap.objs.size=s.heap.objs.size+1 from Xk ..];exact ai (aw (aw hQ))
noncomputable abbrev cCx(X:Cx)(scope:bC)(C:ao)(s:ar)(H:Hp)(fp:List ao)(pn:k7v):Cx :=
 { X with env:=compEnvC scope (aY (C+1) scope.names (vz X.env scope.names [])) C X.env,s₀:=s,H₀:=H,outer:=X.stack,stack:=X.stack,ex:=fp,fn:=λx=>scope.names.lookup x==aa .cell,pn:=pn,xe:=λ_ _=>False }
noncomputable def Uc(scope:bC)(y:aq):Bool:=scope.names.lookup y==aa .local || scope.names.lookup y==aa .cell
theorem V8{env:dz}:∀{names:List (aq×bH)} {x:aq},names.lookup x=aa .cell ->
  (names.map λ(n,k)=>if (k==bq&&env.scope.kind==.function&&env.kindOf n==aa .cell) then(n,bW) else(n,k)).lookup x=aa .cell
 |[],_,h=>by simp at h
 |(n,k)::r,x,h=>by
  have ih:=@V8 env r x;rw[xx];cases hx:x==n with
  |true =>simp only[Xi,hx]at h;cases h;simp[Xi,hx]
  |false =>
   simp only[Xi,hx]at h;dsimp only;by_cases hc:(k==bq&&env.scope.kind==.function&&env.kindOf n==aa .cell)=af
   .rw[if_pos hc];simp only[Xi,hx];exact ih h
   .rw[if_neg hc];simp only[Xi,hx];exact ih h
theorem O7{X:Cx}{scope:bC}{C:ao}{s:ar}{H:Hp}{fp:List ao}{pn:k7v}{y:aq}(h:Uc scope y=af):Loc (cCx X scope C s H fp pn).env.scope y:=by
 unfold Uc at h;rw[cM]at h;rcases h with h|h
 .exact .inl (jF (by simpa using h))
 .exact .inr (V8 (by simpa using h))
theorem Nu{X:Cx}{scope:bC}{C:ao}{s:ar}{H:Hp}{fp:List ao}{pn:k7v}{y:aq}(h:Uc scope y=af):(cCx X scope C s H fp pn).fn y=af\/(cCx X scope C s H fp pn).env.scope.names.lookup y=aa .local:=by
 unfold Uc at h;rw[cM]at h;rcases h with h|h
 .exact .inr (jF (by simpa using h))
 .exact .inl h
def DTs(X:Cx)(ρ:Rho)(ifs:List au)(b:Bool):Prop:=match ifs with
 |[]=>b=af
 |[c]=>DB X ρ c b
 |_=>False
theorem DTs.nil{X:Cx}{ρ:Rho}:DTs X ρ [] af:=rfl
theorem DTs.one{X:Cx}{ρ:Rho}{c:au}{b:Bool}(h:DB X ρ c b):DTs X ρ [c] b:=h
theorem DTs.run{X:Cx}{ρ:Rho}{ifs:List au}{b:Bool}(h:DTs X ρ ifs b){pins:k7v}{σ:St}{H:Hp}{s:ar}(I:Inv X pins σ H s)(R:Rep X.K ρ σ H) :
  ay (aC X.prog X.w) X.A (forIn ifs af λc r=>if r=af then do let ok <-eU c X.env (aD c X.env);pure (cC ok)else pure (cC r)) (λok s'=>ok=b/\∃H',Inv X pins σ H' s'/\j4 H H') X.xe s:=by
 match ifs,h with
 |[],h=>exact wpAny_tests_nil ⟨h.symm,H,I,j4.refl H⟩
 |[c],h=>exact wpAny_tests_one (thn (h σ H (λk H'=>k=b/\j4 H H') R (λH' g=>⟨rfl,g⟩) pins s I) λk s' ⟨H',I',e,g⟩=>⟨e,H',I',g⟩)
theorem Rep.weaken{K:k7t}{ρ:Rho}{σ σ':St}{H:Hp}(R:Rep K ρ σ H)(hl:σ'.length=σ.length)(h:∀(i:Nat),ρ[i]?≠aa .un->σ'[i]?=σ[i]?):Rep K ρ σ' H :=
 ⟨by rw[hl,R.len],λi d e=>let ⟨v,q,z⟩:=R.val i d e;⟨v,by rw[h i (by rw[e];simp)];exact q,z⟩,λi a ds e=>let ⟨q,z⟩:=R.own i a ds e;⟨by rw[h i (by rw[e];simp)];exact q,z⟩,R.nd,λi a o x e=>let ⟨q,z⟩:=R.raw i a o x e;⟨by rw[h i (by rw[e];simp)];exact q,z⟩,R.tb⟩
noncomputable def mask(cs:List Nat)(σ:St):St:=σ.mapIdx λj v=>if cs.contains j then ah else v
theorem Be(cs:List Nat)(σ:St):(mask cs σ).length=σ.length:=by unfold mask;simp
theorem j92{cs:List Nat}{σ:St}{j:Nat}{v:V}(h:(mask cs σ)[j]?=aa (aa v)):j∉cs/\σ[j]?=aa (aa v):=by
 unfold mask at h;rw[ia]at h;cases e:σ[j]? with
 |none=>rw[e]at h;cases h
 |some u =>
  rw[e]at h;have h':(if cs.contains j then ah else u)=aa v:=aE h;by_cases z:cs.contains j=af
  .rw[if_pos z]at h';cases h'
  .rw[if_neg z]at h';subst h';exact⟨λy=>z (by simpa using y),rfl⟩
theorem j91{cs:List Nat}{σ:St}{j:Nat}(h:j∉cs):(mask cs σ)[j]?=σ[j]?:=by
 unfold mask;rw[ia];cases e:σ[j]? with
 |none=>rfl
 |some u=>simp[h]
def Wk(ρ2 ρ:Rho):Prop:=∀K σ H,Rep K ρ2 σ H->Rep K ρ σ H
theorem Vf(H:Hp)(A B:List ao):del (del H A) B=del H (A++B):=funext λb=>by unfold del;by_cases h1:b∈A<;>by_cases h2:b∈B<;>simp[h1,h2]
structure Loose(X:Cx)(pins:k7v)(H:Hp)(C:ao):Prop where
 free:H C=ah
 loc:C≠X.env.locals
 new:X.s₀.heap.objs.size<=C
 cell:∀x c,X.env.cells.lookup x=aa c->c≠C
 pin:∀p∈X.pn++pins,p.1≠C
section
variable{X:Cx}{pins:k7v}{σ:St}{H2:Hp}{s2:ar}{ρ:Rho}{tg elt iter:au}{ifs:List au}{scope:bC}{pos:aR}{ds:List D}{cs:List Nat}{p:D->Bool}{g:D->D}
theorem Ky{J:It}{fp:List ao}{it:ao}{tn:Nat->aH->Prop}(I2:Inv X pins σ H2 s2)(R2:Rep X.K ρ σ H2)(T:Turn X.prog X.w X.K tg J fp it tn)(st2:tn 0 s2.heap)(f2:∀b∈fp,Z1 X pins H2 b)
  (ok:Uw X.K (del H2 (owns ρ)) J ds) (hc:X.calm=af) (hkind:scope.kind=.function) (hok:Q8 scope X.env X.N cs=af) (hcs:∀j∈cs,ρ[j]?=aa .un) (hsz:ds.length<=av)
  (hb:∀C s H fp pn,∀d∈ds,∃ρ2,DG (cCx X scope C s H fp pn) ρ tg d ρ2/\Wk ρ2 ρ/\owns ρ2=owns ρ/\DTs (cCx X scope C s H fp pn) ρ2 ifs (p d)/\(p d=af->DE (cCx X scope C s H fp pn) ρ2 elt (g d)))
  {E:k7u} {RR:ak->ao->fm->ar->Prop}
  (hRR:∀D C xs H' s' m,Inv X pins σ H' s'->j4 H2 H'->H2 D=ah->H' D=aa (.lst xs)->j6 X.K (del H' (D::owns ρ)) ((ds.filter p).map g) xs->s'.heap.Ns C m->Loose X pins H' C->RR (.ref D) C (.ok .next) s') :
  ay (aC X.prog X.w) X.A (newList []) (λacc s₃=>ay (aC X.prog X.w) X.A (i0 scope X.env.globals (vz X.env scope.names []) [] X.env.qual ah .none (aa X.env)) (λcenv s₄ =>
   cK (aC X.prog X.w) X.A (.compStart (.ListComp elt [⟨tg,iter,ifs,0⟩] scope pos) 0 (.ref it) acc { cenv with scope:=relabel scope X.env }) (RR acc cenv.locals) s₄) E s₃) E s2:=by
 unfold Q8 at hok;rw[X8]at hok;obtain⟨hn,hN⟩:=hok;have hn':∀y∈scope.names,(y.2=.cell->scope.names.lookup y.1=aa .cell)/\(y.2=.free->(X.env.cells.lookup y.1).isSome=af/\(X.env.kindOf y.1=aa .cell\/X.env.kindOf y.1=aa .free)):=λy hy=>by have:=Xp.mp hn y hy;simp only[X8,bne_iff_ne,ne_eq,cM,beq_iff_eq]at this;obtain⟨⟨a,_⟩,c⟩:=this;exact⟨λe=>a.elim (λz=>absurd e z) id,λe=>c.elim (λz=>absurd e z) id⟩
 have nocell:∀{y:aq},scope.names.lookup y=aa .free->(y,bW)∉scope.names:=λ{y} h z=>by have q:=(hn' _ z).1 rfl;rw[h]at q;cases q
 have hloc:∀(j:Nat)(y:aq),X.N[j]?=aa y->j∉cs->scope.names.lookup y≠aa .local/\scope.names.lookup y≠aa .cell:=λj y hj hc=>by
  have hlt:j<X.N.length:=(Xf.mp hj).1;have:=Xp.mp hN j (Xc.mpr hlt);rw[hj]at this;simp only[cM,X8,bne_iff_ne,ne_eq]at this;rcases this with z|z
  .exact absurd (by simpa using z) hc
  .exact z
 have cl_of:∀{y:aq}{c:ao},(vz X.env scope.names []).lookup y=aa c->X.env.cells.lookup y=aa c:=λ{y c} h=>Ia (λ_ _ z=>by cases z) h;refine bN (j0k ?_);dsimp only;generalize hH2:s2.heap.push { cls:=.type "list",dict:=ah,data:=.seq ([]:List ak).toArray }=hp2;have keep1:∀b o,hp2.get? b=aa o->(iz (hp2.push { cls:=.type "dict",data:=.dict #[] }) scope.names).get? b=aa o:=λb o e=>lF _ _ b o (km _ e);have hns₁:(iz (hp2.push { cls:=.type "dict",data:=.dict #[] }) scope.names).Ns hp2.objs.size (λ_=>ah):=(Heap.Ns.new hp2 (.type "dict")).keeps (lF _ _);have okl:=cellsFrom_ok scope.names (hp2.push { cls:=.type "dict",data:=.dict #[] }) (hp2.objs.size+1) [] ⟨λ_ _ hm=>(nomatch hm),gm⟩ (by rw[Xk];exact X7 _);rw[Xk]at okl;generalize iz (hp2.push { cls:=.type "dict",data:=.dict #[] }) scope.names=h₁ at keep1 hns₁ okl ⊢;have hC:hp2.objs.size=s2.heap.objs.size+1:=by rw[<-hH2,Xk]
 have hDC:s2.heap.objs.size≠hp2.objs.size:=by rw[hC];exact Xd (Th _)
 have hCle:s2.heap.objs.size<=hp2.objs.size:=by rw[hC];exact ph _
 have below:∀b,b<s2.heap.objs.size->b≠hp2.objs.size/\b≠s2.heap.objs.size:=λb hb=>⟨by rw[hC];exact Xd (su hb),Xd hb⟩
 have old:∀b o,s2.heap.get? b=aa o->h₁.get? b=aa o:=λb o e=>keep1 b o (hH2▸km _ e);have hacc:h₁.get? s2.heap.objs.size=aa { cls:=.type "list",dict:=ah,data:=.seq ([]:List ak).toArray }:=keep1 _ _ (hH2▸X3 _ rfl);have none_of:∀b,s2.heap.objs.size<=b->s2.heap.get? b=ah:=λb hb=>by
  cases e:s2.heap.get? b with
  |none=>rfl
  |some o'=>exact absurd (xr e) (Nat.not_lt.mpr hb)
 have hD0:H2 s2.heap.objs.size=ah:=I2.fresh;generalize hDd:s2.heap.objs.size=Dd at *;generalize hCc:hp2.objs.size=C at *;have hC0:H2 C=ah:=I2.hok.fresh (by rw[hDd];exact hCle);have pinlt:∀p∈X.pn++pins,p.1<Dd:=λp hp=>by rw[<-hDd];exact xr (I2.pin p hp).1
 have celllt:∀y c,X.env.cells.lookup y=aa c->c<Dd:=λy c h=>by obtain⟨v,o,e,_⟩:=I2.cell y c h;rw[<-hDd];exact xr e
 have loclt:X.env.locals<Dd:=by rw[<-hDd];exact I2.lt
 have fplt:∀b∈fp,b<Dd:=λb hb=>by obtain⟨o,e,_⟩:=T.obj _ _ st2 b hb;rw[<-hDd];exact xr e
 have hDlt:Dd<C:=by omega
 have cellD:∀{y:aq}{c:ao},(aY (C+1) scope.names (vz X.env scope.names [])).lookup y=aa c->((y,c)∈aY (C+1) scope.names []/\C+1<=c)\/X.env.cells.lookup y=aa c:=λ{y c} h=>by
  rcases Ib h with ⟨q,_,z⟩|⟨_,q⟩
  .exact .inl ⟨q,z⟩
  .exact .inr (cl_of q)
 have celln:∀{y:aq}{c b:ao},(aY (C+1) scope.names (vz X.env scope.names [])).lookup y=aa c->b<Dd->(∀c,X.env.cells.lookup y=aa c->c≠b)->c≠b:=λ{y c b} h hb ho=>by
  rcases cellD h with ⟨_,z⟩|q
  .exact Pg (Xz hb (Xz hDlt (S5 z)))
  .exact ho c q
 have okc:(cCx X scope C s2 H2 fp (X.pn++pins)).Ok:={
  mod:=I2.ok.mod
  kind:=hkind
  glob:=I2.ok.glob
  blt:=I2.ok.blt
  above:=by show s2.heap.objs.size<=C;rw[hDd];exact hCle
  inj:=λx y c h1 h2=>by
   rcases cellD h1 with ⟨m1,z1⟩|q1<;>rcases cellD h2 with ⟨m2,z2⟩|q2
   .exact name_of_addr okl.apart m1 m2
   .exact absurd (Xz (celllt y c q2) (Xz hDlt (S5 z1))) (Pj _)
   .exact absurd (Xz (celllt x c q1) (Xz hDlt (S5 z2))) (Pj _)
   .exact I2.ok.inj x y c q1 q2
  has:=λx h=>by
   have key:∀k',(relabel scope X.env).names.lookup x=aa k'->(k'=.cell\/k'=.free)->∃c,(aY (C+1) scope.names (vz X.env scope.names [])).lookup x=aa c:=λk' hk hk'=>by
    obtain⟨k,hl,e⟩:=Jm hk
    have hm:=lookup_mem hl
    have hk0:k=.free\/k=.cell:=by
     rcases e with e|e
     .subst e
      exact hk'.symm
     .exact .inl e.1
    rcases hk0 with hk0|hk0
    .subst hk0
     exact jeq (Rj ((hn' _ hm).2 rfl).1 hm)
    .subst hk0
     exact Xr.mp (W.cellsFrom_some _ _ _ (.inl hl))
   rcases h with h|h
   .exact key _ h (.inl rfl)
   .exact key _ h (.inr rfl)
  cab:=λx c h h2=>by
   have hx:scope.names.lookup x=aa .cell:=by simpa using h
   show s2.heap.objs.size<=c
   rw[hDd]
   rcases Ib h2 with ⟨_,_,z⟩|⟨z,_⟩
   .exact eG (Xz hDlt (S5 z))
   .obtain⟨c',hc'⟩:=Xr.mp (W.cellsFrom_some scope.names (C+1) [] (.inl hx))
    rw[z]at hc';cases hc'
  hd:=I2.ok.hd
  frames:=I2.ok.frames
  stk:=.inl rfl
  exf:=λb hb=>⟨Xd (Xz (fplt b hb) hDlt),λx c h=>celln h (fplt b hb) λc q=>(f2 b hb).2.2.2.2.1 x c q⟩
  bs:=I2.bs
  bsz:=Xg I2.ok.bsz I2.sz
  noex:=λb o e hb=>by
   rcases(f2 b hb).2.2.2.1 with z|z
   .exact I2.ok.noex b o e z
   .exact absurd (xr e) (Nat.not_lt.mpr (Xg I2.ok.bsz z))
  exfs:=λb hb hf=>by
   rcases xn.mp (I2.stkSub b hf)with z|z
   .exact(f2 b hb).2.1 z
   .exact(f2 b hb).2.2.1 z
  funs:=I2.stack
  frf:=I2.stkFree }
 have hpush:HOk X.prog X.w (upd H2 Dd (.lst [])) h₁:=HOk.laid I2.hok old (by rw[hDd];exact X7 _) ⟨d5 _,[],_,.nil,hacc⟩;have I0:Inv (cCx X scope C s2 H2 fp (X.pn++pins)) [] (mask cs σ) (upd H2 Dd (.lst [])) { s2 with heap:=h₁ }:={
  ok:=okc
  os:=rfl
  bare:=I2.bare
  base:=Un.laid old (by rw[hDd];exact X7 _) hD0
  loc:=by
   refine⟨_,hns₁,λj y v hj hv hvis=>?_⟩
   obtain⟨hjc,hσ⟩:=j92 hv
   obtain⟨m,hm,hlook⟩:=I2.loc
   have key:∀k',(relabel scope X.env).names.lookup y=aa k'->scope.names.lookup y=aa .free:=λk' hk=>by
    obtain⟨k,hl,e⟩:=Jm hk
    have hmm:=lookup_mem hl
    have:k=.free:=by
     rcases e with e|e
     .subst e
      rcases hvis with z|z|z
      .have z:=hk.symm.trans z;cases z;exact absurd hl (hloc j y hj hjc).1
      .have z:=hk.symm.trans z;cases z;exact absurd hl (hloc j y hj hjc).2
      .have z:=hk.symm.trans z;cases z;rfl
     .exact e.1
    rw[hl,this]
   have hfree:scope.names.lookup y=aa .free:=by rcases hvis with z|z|z<;>exact key _ z
   have hmm:=lookup_mem hfree
   obtain⟨hs,hk⟩:=(hn' _ hmm).2 rfl
   have hvis':Vis X.env.scope y:=by rcases hk with z|z;exact .inr (.inl z);exact .inr (.inr z)
   obtain⟨u,ru,look⟩:=hlook j y v hj hσ hvis'
   refine⟨u,ru,?_⟩
   rcases look with ⟨z,_⟩|⟨_,c,hcl,hcv⟩
   .rcases hk with y'|y'<;>rw[y']at z<;>cases z
   .refine .inr ⟨?_,c,?_,?_⟩
    .rcases hvis with z|z|z
     .exfalso
      obtain⟨k,hl,e⟩:=Jm z
      rw[hfree]at hl;cases hl
      rcases e with e|e
      .cases e
      .cases e.2
     .exact .inl z
     .exact .inr z
    .obtain⟨c',hc'⟩:=Xr.mp (Rj (acc:=[]) hs hmm)
     have:=cl_of hc'
     rw[hcl]at this;cases this
     exact(jiv (nocell hfree)).trans hc'
    .obtain⟨o,e,d⟩:=hcv
     exact⟨o,old _ _ e,d⟩
  cell:=λx c h=>by
   rcases cellD h with ⟨q,_⟩|q
   .exact⟨_,(okl.empty x c q).1⟩
   .obtain⟨v,o,e,d⟩:=I2.cell x c q
    exact⟨v,o,old _ _ e,d⟩
  free:=by show upd H2 Dd (.lst []) C=ah;rw[jj (Pg hDlt)];exact hC0
  freeC:=λx c h=>by
   rcases cellD h with ⟨_,z⟩|q
   .rw[jj (Pg (Xz hDlt (S5 z)))];exact I2.hok.fresh (by rw[hDd];exact eG (Xz hDlt (S5 z)))
   .rw[jj (Xd (celllt x c q))];exact I2.freeC x c q
  pin:=λp hp=>by
   rw[Xo]at hp
   obtain⟨h1,h2,h3,h4,h5⟩:=I2.pin p hp
   have hlt:=pinlt p hp
   refine⟨old _ _ h1,by rw[jj (Xd hlt)];exact h2,Xd (Xz hlt hDlt),λz=>?_,h5⟩
   rcases xn.mp (I2.stkSub _ z)with y|y
   .exact h3 y
   .exact h4 y
  hok:=hpush
  len:=by rw[Be];exact I2.len }
 have hDo:Dd∉owns ρ:=R2.fresh hD0;have fpok:∀{H':Hp},(∀b∈fp,H' b=ah)->∀b∈fp,Z1 (cCx X scope C s2 H2 fp (X.pn++pins)) [] H' b:=λ{H'} hn b hb =>⟨hn b hb,Xd (Xz (fplt b hb) hDlt),okc.exfs b hb,.inl hb,λx c h=>celln h (fplt b hb) λc q=>(f2 b hb).2.2.2.2.1 x c q,λp hp=>by rw[Xo]at hp;exact(f2 b hb).2.2.2.2.2 p hp⟩
 have R0:Rep X.K ρ (mask cs σ) H2:=R2.weaken (Be _ _) λj hj=>j91 λz=>hj (hcs j z);have e0:del (upd H2 Dd (.lst [])) [Dd]=H2:=by
  rw[Ve (X4.mpr rfl)]
  funext b
  by_cases z:b∈[Dd]
  .rw[vm z,X4.mp z,hD0]
  .exact j5 z
 have loop:∀s₃:ar,s₃={ s2 with heap:=h₁ } ->
   cK (aC X.prog X.w) X.A (.compLoop (.ListComp elt [⟨tg,iter,ifs,0⟩] scope pos) 0 (.ref it) (.ref Dd) (compEnvC scope (aY (C+1) scope.names (vz X.env scope.names [])) C X.env)) (RR (.ref Dd) C) s₃:=by
  rintro s₃ rfl;refine j15 (λn s=>∃i σ' H' ys,Inv (cCx X scope C s2 H2 fp (X.pn++pins)) [] σ' H' s/\tn i s.heap/\(∀b∈fp,H' b=ah)/\i<=ds.length/\n=ds.length-i/\Rep X.K ρ σ' (del H' [Dd])/\j4 H2 (del H' [Dd])/\H' Dd=aa (.lst ys) /\
   j6 X.K (del H' (Dd::owns ρ)) (((ds.take i).filter p).map g) ys) ?_ ds.length
   ⟨0,mask cs σ,upd H2 Dd (.lst []),[],I0,T.keep _ _ _ st2 (λb _ o e=>old b o e),λb hb=>by rw[jj (Xd (fplt b hb))];exact(f2 b hb).1,d5 _,rfl,by rw[e0];exact R0,by rw[e0];exact j4.refl _,jx,rfl⟩
  rintro n s3 ⟨i,σ3,H3,ys,I3,st3,fr3,hle,rfl,R3,g3,m3,en3⟩;have F3:j4 (del H2 (owns ρ)) (del H3 (Dd::owns ρ)):=by
   have:del H3 (Dd::owns ρ)=del (del H3 [Dd]) (owns ρ):=by rw[Vf];rfl
   rw[this];exact je g3
  obtain⟨go,stop,yld⟩:=ok i H3 (Dd::owns ρ) F3 λa ha=>by
   rcases xn.mp ha with e|ha
   .rw[e,m3];simp
   .obtain⟨xs,e⟩:=R3.owned a ha;rw[(of_del e).2];simp
  by_cases hlt:i<ds.length
  .refine thn (T.item (cCx X scope C s2 H2 fp (X.pn++pins)) rfl rfl rfl hc i [] s3 σ3 H3 (λ_ _=>False) I3 (fpok fr3) st3 (go hlt)) λr s4 ⟨u,hr,h4⟩=>?_;subst hr;refine thn h4 λ_ s5 ⟨x,H5,I5,r5,y5,st5,fr5⟩=>?_;obtain⟨g5,en5⟩:=yld x H5 y5;have hd:ds[i]?=aa ds[i]:=kh hlt;obtain⟨ρ2,⟨sub,hG⟩,wk,eo,hT,hE⟩:=hb C s2 H2 fp (X.pn++pins) ds[i] (Xy hlt);have m5:H5 Dd=aa (.lst ys):=g5 _ _ m3;have hA:∀a∈[Dd],Hd (H5 a):=λa ha=>.inl ⟨ys,by rw[X4.mp ha];exact m5⟩;have I5p:=I5.pinned (fpok fr5) (T.obj _ _ st5);have I5h:=I5p.hide hA;have R5:Rep X.K ρ σ3 (del H5 [Dd]):=R3.grow (je g5);have en5':Enc X.K (del (del H5 [Dd]) (owns ρ)) ds[i] x:=by rw[Vf];exact en5 _ hd
   refine thn (hG σ3 (del H5 [Dd]) x (λσ6 F6=>F6=del H5 [Dd]/\Rep X.K ρ2 σ6 F6) R5 en5' (λσ6 R6=>⟨rfl,R6⟩) _ s5 u I5h r5) λ_ s6 ⟨σ6,F6,I6,e6,R6⟩=>?_;subst e6;refine thn (hT.run I6 R6) λokv s7 ⟨e7,F7,I7,g7⟩=>?_;subst e7;have R7:Rep X.K ρ σ6 F7:=wk _ _ _ (R6.grow g7);have g27:j4 H2 F7:=g3.trans ((je g5).trans g7);have en7:j6 X.K (del F7 (owns ρ)) (((ds.take i).filter p).map g) ys:=en3.mono (by
    have:del H3 (Dd::owns ρ)=del (del H3 [Dd]) (owns ρ):=by rw[Vf];rfl
    rw[this];exact je ((je g5).trans g7))
   have ky:∀{F:Hp}{s':ar},Inv (cCx X scope C s2 H2 fp (X.pn++pins)) ([]++Yt fp s5.heap) σ6 F s'->Inv (cCx X scope C s2 H2 fp (X.pn++pins)) [] σ6 F s'/\tn (i+1) s'.heap/\∀b∈fp,F b=ah:=λ{F s'} I=>by refine⟨I.unpinned,T.keep _ _ _ st5 λb hb o e=>(I.pin (b,o) (Xm _ (Xm _ (Zq hb e)))).1,λb hb=>?_⟩;obtain⟨o,e,d⟩:=T.obj _ _ st5 b hb;exact(I.pin (b,o) (Xm _ (Xm _ (Zq hb e)))).2.1
   have tk:ds.take (i+1)=ds.take i++[ds[i]]:=by rw[S6,hd];rfl
   cases hp:p ds[i] with
   |false =>
    rw[if_neg xm];obtain⟨hF,I8⟩:=I5p.unhide hA I7;obtain⟨I9,st9,fr9⟩:=ky I8;refine⟨ds.length-(i+1),by omega,i+1,σ6,_,ys,I9,st9,fr9,hlt,rfl,by rw[Zi hF];exact R7,by rw[Zi hF];exact g27,by rw[Jl (X4.mpr rfl)];exact m5,?_⟩;have:del (mrg [Dd] H5 F7) (Dd::owns ρ)=del F7 (owns ρ):=by
     have e:del (mrg [Dd] H5 F7) (Dd::owns ρ)=del (del (mrg [Dd] H5 F7) [Dd]) (owns ρ):=by rw[Vf];rfl
     rw[e,Zi hF]
    rw[this,tk,dt];have e:[ds[i]].filter p=[]:=by simp[hp]
    rw[e,Xo];exact en7
   |true =>
    rw[if_pos rfl];refine thn (hE hp σ6 F7 (λv F8=>j4 F7 F8/\Enc X.K (del F8 (owns ρ2)) (g ds[i]) v) (R6.grow g7) (λv F8 g8 e8=>⟨g8,e8⟩) _ s7 I7) λy s8 ⟨v,F8,I8,r8,g8,e8⟩=>?_;obtain⟨hF,I8'⟩:=I5p.unhide hA I8;rw[eo]at e8;have eH:del (mrg [Dd] H5 F8) (Dd::owns ρ)=del F8 (owns ρ):=by
     have e:del (mrg [Dd] H5 F8) (Dd::owns ρ)=del (del (mrg [Dd] H5 F8) [Dd]) (owns ρ):=by rw[Vf];rfl
     rw[e,Zi hF]
    have hlen:ys.length<av:=by have e1:=en7.length;have e2:((ds.take i).filter p).length<=(ds.take i).length:=Tq _ _;rw[xg]at e1;rw[Xu]at e2;omega
    refine thn (Vs _ s8 σ6 (mrg [Dd] H5 F8) (.ref Dd) [v] (.ref Dd) [y] (λ_ H9=>H9=upd (mrg [Dd] H5 F8) Dd (.lst (ys++[v]))) I8' rfl (.cons r8 .nil)
     ⟨Dd,ys,v,rfl,rfl,by rw[Jl (X4.mpr rfl)];exact m5,hlen,rfl⟩) λ_ s9 ⟨_,H9,I9,_,e9⟩=>?_
    subst e9;obtain⟨I10,st10,fr10⟩:=ky I9;have ed:del (upd (mrg [Dd] H5 F8) Dd (.lst (ys++[v]))) [Dd]=F8:=by rw[Ve (X4.mpr rfl),Zi hF]
    refine⟨ds.length-(i+1),by omega,i+1,σ6,_,ys++[v],I10,st10,fr10,hlt,rfl,by rw[ed];exact R7.grow g8,by rw[ed];exact g27.trans g8,jx,?_⟩;rw[Ve (xj ..),eH,tk,dt,Xw];have e:[ds[i]].filter p=[ds[i]]:=by simp[hp]
    rw[e];exact(en7.mono (je g8)).append (.one e8)
  .have hi:i=ds.length:=by omega
   subst hi;refine thn (T.done (cCx X scope C s2 H2 fp (X.pn++pins)) rfl rfl rfl hc ds.length [] s3 σ3 H3 (λ_ _=>False) I3 (fpok fr3) st3 (stop (X7 _))) λr s4 ⟨hr,I4⟩=>?_;subst hr;rw[cU]at en3;obtain⟨m,hm,_⟩:=I4.loc;refine hRR Dd C ys H3 s4 m ?_ (g3.trans jk) hD0 m3 en3 hm ⟨I4.free,Pg (Xz loclt hDlt),?_,λx c h=>Xd (Xz (celllt x c h) hDlt),λp hp=>Xd (Xz (pinlt p hp) hDlt)⟩
   .exact I2.call' (ch:=fp) I4.os I4.base I4.hok I4.bare λb hb=>⟨(f2 b hb).2.2.2.1,(f2 b hb).2.1,(f2 b hb).2.2.2.2.1,(f2 b hb).2.2.2.2.2⟩
   .have:=I2.sz;omega
 exact codeAny_compStart_list (loop _ rfl) (T.self _ 0 _ _ _ (T.keep _ _ _ st2 (λb _ o e=>old b o e)) (loop _ rfl))
end
section
variable{X:Cx}{ρ:Rho}{tg elt iter:au}{ifs:List au}{scope:bC}{pos p1 spos:aR}{ds:List D}{cs:List Nat}{p:D->Bool}{g:D->D}{x:aq}{P:Po}
theorem Bl{env:dz}{N:List aq}(h:Q8 scope env N cs=af):∀y∈scope.names,y.2=.free->(env.cells.lookup y.1).isSome=af:=λy hy e=>by unfold Q8 at h;rw[X8]at h;have:=Xp.mp h.1 y hy;simp only[X8,bne_iff_ne,ne_eq,cM]at this;exact this.2.elim (λz=>absurd e z) λz=>z.1
theorem O3{env:dz}{N:List aq}(h:Q8 scope env N cs=af):∀y∈scope.names,y.2=.local->scope.names.lookup y.1=aa .local:=λy hy e=>by unfold Q8 at h;rw[X8]at h;have:=Xp.mp h.1 y hy;simp only[X8,bne_iff_ne,ne_eq,cM,beq_iff_eq]at this;exact this.1.2.elim (λz=>absurd e z) λz=>z
theorem Inv.loose{pins:k7v}{σ:St}{H:Hp}{s:ar}{C:ao}{h':aH}(I:Inv X pins σ H s)(L:Loose X pins H C)(sb:cw C s.heap h'):Inv X pins σ H { s with heap:=h' } :=
 I.turned (t':=s.toks) (λb o hb e=>sb.extBut b o hb e) L.free L.loc (.inr L.new) L.cell L.pin
theorem DO.comp(cs:List Nat)(p:D->Bool)(g:D->D)(hi:DI X ρ tg iter ds)
  (hb:∀C s H fp pn,∀d∈ds,∃ρ2,DG (cCx X scope C s H fp pn) ρ tg d ρ2/\Wk ρ2 ρ/\owns ρ2=owns ρ/\DTs (cCx X scope C s H fp pn) ρ2 ifs (p d)/\(p d=af->DE (cCx X scope C s H fp pn) ρ2 elt (g d)))
  (hcs:∀j∈cs,ρ[j]?=aa .un) (hsz:ds.length<=av) (hc:X.calm=af:=by rfl) (hkind:scope.kind=.function:=by rfl) (hok:Q8 scope X.env X.N cs=af:=by rfl)
  (hs:∀x,aV iter X.env x=pure x:=by intro _;rfl):DO X ρ (.ListComp elt [⟨tg,iter,ifs,0⟩] scope pos) ((ds.filter p).map g):=λσ H Q R q pins s I=>by
 rw[eval_ListComp];refine ig (use:=ah) rfl hs (Ds (Bl hok)) hkind (O3 hok) (thn (hi σ H (λJ H'=>j4 H H'/\Uw X.K (del H' (owns ρ)) J ds) R (λJ H' g1 ok=>⟨g1,ok⟩) pins s I) λv s1 h1=>thn h1 λitv s2 h2=>?_);obtain⟨it,fp,tn,J,H2,e,I2,T,st2,f2,g2,ok⟩:=h2;subst e;refine Ky (RR:=λacc C=>compPost (aC X.prog X.w) X.A X.xe ah (EP X pins σ Q) acc C) I2 (R.grow g2) T st2 f2 ok hc hkind hok hcs hsz hb ?_;intro D C xs H' s' m I' gg n m' en hm L;exact⟨m,hm,λh' sb=>⟨.ref D,H',I'.loose L sb,rfl,q D xs H' (g2.trans gg) (g2.free n) m' en⟩⟩
theorem Wk.set{i:Nat}{d:D}(h:ρ[i]?=aa .un):Wk (ρ.set i (.val d)) ρ:=λK σ H R=>by
 have q:=R.set_un (i:=i) (v:=(σ[i]?).join);have e:σ.set i ((σ[i]?).join)=σ:=by
  apply Py;intro j;rw[dM];split
  .rename_i h;subst h;split
   .rename_i h;rw[kh h];rfl
   .rename_i h;rw[Xj nofun]
  .rfl
 have e2:(ρ.set i (.val d)).set i .un=ρ:=by
  rw[List.set_set];apply Py;intro j;rw[dM];split
  .rename_i z;subst z;split
   .rw[h]
   .rename_i z;rw[Xj nofun]at h;cases h
  .rfl
 rw[e,e2]at q;exact q
theorem Vj{i:Nat}{d:D}(h:ρ[i]?=aa .un):owns (ρ.set i (.val d))=owns ρ:=Bb rfl λa l z=>by rw[h]at z;cases z
end
section
variable{prog:az}{w:aF}{A:aI}{E:k7u}{s:ar}
theorem j48{j t:ao}{k:Nat}{its:Array ak}{y:ak}{Q:k7u}(hj:s.heap.IsTupleIter j t k)(ht:s.heap.IsTuple t its)(hy:its[k]?=aa y)
  (q:∀h',h'.IsTupleIter j t (k+1)->cw j s.heap h'->Q y { s with heap:=h' }):ay (aC prog w) A (aG (.ref j)) Q E s:=by
 obtain⟨o,ho,hc,hd⟩:=id hj;obtain⟨ot,hot,_,m,hdt⟩:=ht;unfold aG;refine ai (be (name:=cD "__next__") hj.typeIs cF (bY cF hj.typeIs gC ?_ (gu _)));show ay _ _ (fQ (.ref j) 0 >>= _) _ _ s;refine ai (aT ho hd (x:=.ref t) rfl ?_);show ay _ _ (if (aJ t==b0)=af then _ else _) _ _ s;rw[if_neg (show ¬((aJ t==b0)=af)from xm)];show ay _ _ (fQ (.ref j) 1 >>= _) _ _ s;refine ai (aT ho hd (x:=.int k 0) rfl ?_);show ay _ _ (seqItems? (.ref t) >>= _) _ _ s;refine ai (bg hot hdt ?_);simp only[Xb,hy];refine ai (lR ho hd (by simp) (aw ⟨y,rfl,aw (q _ ?_ (Heap.SameBut.update ..))⟩));exact⟨_,Heap.get?_update_self _ ho (Obj.isFreed_of_fields (Obj.data_mapFields hd _)),(Obj.cls_mapFields ..).trans hc,by rw[Obj.data_mapFields hd];simp[fj]⟩
theorem j6n{j t:ao}{k:Nat}{its:Array ak}{Q:k7u}(hh:A.handled=ah)(hj:s.heap.IsTupleIter j t k)(ht:s.heap.IsTuple t its)(hy:its[k]?=ah)
  (q:∀h' x,fS j s.heap h'->(∃o,h'.get? x=aa o/\o.cls=.type "StopIteration")->E (.ref x) { s with heap:=h' }):ay (aC prog w) A (aG (.ref j)) Q E s:=by
 obtain⟨o,ho,hc,hd⟩:=id hj;obtain⟨ot,hot,_,m,hdt⟩:=ht;unfold aG;refine ai (be (name:=cD "__next__") hj.typeIs cF (bY cF hj.typeIs gC ?_ (gu _)));show ay _ _ (fQ (.ref j) 0 >>= _) _ _ s;refine ai (aT ho hd (x:=.ref t) rfl ?_);show ay _ _ (if (aJ t==b0)=af then _ else _) _ _ s;rw[if_neg (show ¬((aJ t==b0)=af)from xm)];show ay _ _ (fQ (.ref j) 1 >>= _) _ _ s;refine ai (aT ho hd (x:=.int k 0) rfl ?_);show ay _ _ (seqItems? (.ref t) >>= _) _ _ s;refine ai (bg hot hdt ?_);simp only[Xb,hy];refine ai (hZ (ai (lR ho hd (by simp) ?_)));show ay _ _ (newExc (.type "StopIteration") [] >>= _) _ _ _;refine ai ?_;simp only[newExc,newTuple];refine ai (bN ?_ (by size_fits));refine ai (m:=lW _ _) (wpAny_of_eq (a:=b0) (by first|rfl|(simp only[lW];rfl)) ?_);refine bN ?_ (by size_fits);simp only[raiseNew];refine ai (wpAny_handled ?_)
 first|rw[show A.in1.handled=ah from hh]|rw[hh]
 refine ai (aw (wpAny_throw ?_));exact q _ _ (((Heap.SameBut.update ..).extBut.push _).push _) ⟨_,X3 _ rfl,rfl⟩
end
def ji(lst:Bool)(h:aH)(j t:ao)(k:Nat):Prop:=if lst=af then h.IsListIter j t k else h.IsTupleIter j t k
def jf(lst:Bool)(h:aH)(t:ao)(its:Array ak):Prop:=if lst=af then h.IsList t its else h.IsTuple t its
section
variable{prog:az}{w:aF}{A:aI}{E:k7u}{s:ar}{lst:Bool}{h h':aH}{j t b:ao}{k:Nat}{its:Array ak}
theorem ji.ext(x:ji lst h j t k)(e:fS b h h')(n:j≠b):ji lst h' j t k:=by
 unfold ji at x ⊢;cases lst with
 |true=>rw[if_pos rfl]at x ⊢;exact x.extBut e n
 |false=>rw[if_neg xm]at x ⊢;exact x.extBut e n
theorem ji.stay(x:ji lst h j t k)(e:∀o,h.get? j=aa o->h'.get? j=aa o):ji lst h' j t k:=by
 unfold ji at x ⊢;cases lst with
 |true=>rw[if_pos rfl]at x ⊢;exact x.at e
 |false=>rw[if_neg xm]at x ⊢;exact x.at e
theorem ji.obj(x:ji lst h j t k):∃o,h.get? j=aa o/\∀v,o.data≠.cell v:=by
 unfold ji at x;cases lst with
 |true=>rw[if_pos rfl]at x;obtain⟨o,e,c,d⟩:=x;exact⟨o,e,λv z=>by rw[d]at z;cases z⟩
 |false=>rw[if_neg xm]at x;obtain⟨o,e,c,d⟩:=x;exact⟨o,e,λv z=>by rw[d]at z;cases z⟩
theorem jf.ext(x:jf lst h t its)(e:fS b h h')(n:t≠b):jf lst h' t its:=by
 unfold jf at x ⊢;cases lst with
 |true=>rw[if_pos rfl]at x ⊢;exact x.extBut e n
 |false=>rw[if_neg xm]at x ⊢;exact x.extBut e n
theorem Zf{y:ak}{Q:k7u}(hj:ji lst s.heap j t k)(ht:jf lst s.heap t its)(hy:its[k]?=aa y)
  (q:∀h',ji lst h' j t (k+1)->cw j s.heap h'->Q y { s with heap:=h' }):ay (aC prog w) A (aG (.ref j)) Q E s:=by
 unfold ji at hj q;unfold jf at ht;cases lst with
 |true=>rw[if_pos rfl]at hj ht;simp only[if_true]at q;exact wpAny_nextOf_list_item hj ht hy q
 |false=>rw[if_neg xm]at hj ht;simp only[Xx,if_false]at q;exact j48 hj ht hy q
theorem Yq{Q:k7u}(hh:A.handled=ah)(hj:ji lst s.heap j t k)(ht:jf lst s.heap t its)(hy:its[k]?=ah)
  (q:∀h' x,fS j s.heap h'->(∃o,h'.get? x=aa o/\o.cls=.type "StopIteration")->E (.ref x) { s with heap:=h' }):ay (aC prog w) A (aG (.ref j)) Q E s:=by
 unfold ji at hj;unfold jf at ht;cases lst with
 |true=>rw[if_pos rfl]at hj ht;exact wpAny_nextOf_list_end hh hj ht hy q
 |false=>rw[if_neg xm]at hj ht;exact j6n hh hj ht hy q
end
section
variable{prog:az}{w:aF}{A:aI}{E:k7u}{s:ar}{l1 l2:Bool}{z TI TO i1 i2 t1 t2:ao}{k:Nat}{us vs:Array ak}{x y a b:ak}
theorem j4p{Q:k7u}(D:dk z TI TO i1 i2 t1 t2)(hz:eD s.heap z TI TO .none)(hTI:bx s.heap TI (.ref i1) (.ref i2))(hTO:bx s.heap TO a b)
  (h1:ji l1 s.heap i1 t1 k) (h2:ji l2 s.heap i2 t2 k) (q1:jf l1 s.heap t1 us) (q2:jf l2 s.heap t2 vs) (hx:us[k]?=aa x) (hy:vs[k]?=aa y)
  (q:∀h',eD h' z TI TO (fj s.heap.objs.size)->bx h' TO x y->ji l1 h' i1 t1 (k+1)->ji l2 h' i2 t2 (k+1)->bx h' s.heap.objs.size x y->h'.objs.size=s.heap.objs.size+1 ->
   (∀c o,c≠z->c≠TO->c≠i1->c≠i2->s.heap.get? c=aa o->h'.get? c=aa o)->Q (.ref s.heap.objs.size) { s with heap:=h' }) :
  ay (aC prog w) A (bX.«zip.__next__» ⟨[.ref z],[]⟩) (λfin s'=>∃v,fin=.done (.ret v)/\Q v s') E s:=by
 show ay _ _ (fQ (.ref z) 2 >>= _) _ _ _;refine ai (aT hz rfl (x:=.bool ae) rfl ?_);show ay _ _ (fQ (.ref z) 3 >>= _) _ _ _;refine ai (aT hz rfl (x:=.ref TI) rfl (ai (bg hTI rfl ?_)));show ay _ _ (aL (.ref z) >>= _) _ _ _;refine ai ?_;unfold aL;refine ai (aT hz rfl (x:=.none) rfl (aw ?_));simp only[if_true];refine ai (hZ (ai (aT hz rfl (x:=.ref TO) rfl (ai (bE hz (by simp) λg₁ z₁ s₁=>?_)))));have z₁:eD g₁ z TI TO .ellipsis:=z₁;refine ai ?_;simp only[j3,jL,d7,eR];refine ai (ai (fO ?_));show ay _ _ (aG (.ref i1) >>= _) _ _ _;refine ai (Zf (h1.ext s₁.extBut D.i1z) (q1.ext s₁.extBut D.l1z) hx λg₂ h1₂ s₂=>aw ?_);have o₂:bx g₂ TO a b:=s₂.extBut _ _ D.TOi1 (s₁.extBut _ _ D.TOz hTO);refine ai (bg o₂ rfl (ai (fg o₂ λg₃ o₃ s₃=>?_)));have o₃:bx g₃ TO x b:=o₃;refine ai (jE (aw (ai (ai (fO ?_)))));show ay _ _ (aG (.ref i2) >>= _) _ _ _;refine ai (Zf (((h2.ext s₁.extBut D.i2z).ext s₂.extBut D.i12.symm).ext s₃.extBut D.TOi2.symm) (((q2.ext s₁.extBut D.l2z).ext s₂.extBut D.l2i1).ext s₃.extBut D.l2TO) hy λg₄ h2₄ s₄=>aw ?_);have o₄:bx g₄ TO x b:=s₄.extBut _ _ D.TOi2 o₃;refine ai (bg o₄ rfl (ai (fg o₄ λg₅ o₅ s₅=>?_)));have o₅:bx g₅ TO x y:=o₅;refine ai (jE (aw (aw (ai (bg o₅ rfl (ai (lS ?_)))))));have sz:g₅.objs.size=s.heap.objs.size:=by rw[s₅.1,s₄.1,s₃.1,s₂.1,s₁.1]
 have z₅:eD g₅ z TI TO .ellipsis:=s₅.extBut _ _ D.TOz.symm (s₄.extBut _ _ D.i2z.symm (s₃.extBut _ _ D.TOz.symm (s₂.extBut _ _ D.i1z.symm z₁)));have kp:∀c o,c≠z->c≠TO->c≠i1->c≠i2->s.heap.get? c=aa o->g₅.get? c=aa o:=λc o n1 n2 n3 n4 e=>s₅.extBut _ _ n2 (s₄.extBut _ _ n4 (s₃.extBut _ _ n2 (s₂.extBut _ _ n3 (s₁.extBut _ _ n1 e))));have h1₅:ji l1 g₅ i1 t1 (k+1):=((h1₂.ext s₃.extBut D.TOi1.symm).ext s₄.extBut D.i12).ext s₅.extBut D.TOi1.symm;have h2₅:ji l2 g₅ i2 t2 (k+1):=h2₄.ext s₅.extBut D.TOi2.symm;have zlt:z<g₅.objs.size:=xr z₅;show ay _ _ (dn (.ref z) (.ref g₅.objs.size) >>= _) _ _ _;refine ai ?_;unfold dn;have z₆:eD (g₅.push { cls:=.type "tuple",data:=.seq #[x,y] }) z TI TO .ellipsis:=km _ z₅;refine ai (bE z₆ (by simp) λg₇ z₇ s₇=>?_);have z₇:eD g₇ z TI TO (fj g₅.objs.size):=z₇;refine bE z₇ (by simp) λg₈ z₈ s₈=>?_;have z₈:eD g₈ z TI TO (fj g₅.objs.size):=z₈;have up:∀c o,c≠z->g₅.get? c=aa o->g₈.get? c=aa o:=λc o n e=>s₈.extBut _ _ n (s₇.extBut _ _ n (km _ e));have p₈:bx g₈ g₅.objs.size x y:=s₈.extBut _ _ (Pg zlt) (s₇.extBut _ _ (Pg zlt) (X3 _ rfl));have e₈:g₈.objs.size=g₅.objs.size+1:=by rw[s₈.1,s₇.1,Xk]
 rw[sz]at z₈ p₈ e₈;refine aw ⟨_,rfl,?_⟩;show Q (.ref g₅.objs.size) _;rw[sz];exact q g₈ z₈ (up _ _ D.TOz o₅) (h1₅.stay λo e=>up _ o D.i1z e) (h2₅.stay λo e=>up _ o D.i2z e) p₈ e₈ λc o n1 n2 n3 n4 e=>up c o n1 (kp c o n1 n2 n3 n4 e)
theorem j7k{Q:iT->ar->Prop}(hh:A.handled=ah)(D:dk z TI TO i1 i2 t1 t2)(hz:eD s.heap z TI TO .none)(hTI:bx s.heap TI (.ref i1) (.ref i2))(hTO:bx s.heap TO a b)
  (h1:ji l1 s.heap i1 t1 k) (h2:ji l2 s.heap i2 t2 k) (q1:jf l1 s.heap t1 us) (q2:jf l2 s.heap t2 vs) (hend:us[k]?=ah\/vs[k]?=ah)
  (q:∀h' e,(∀c o,c≠z->c≠TO->c≠i1->c≠i2->s.heap.get? c=aa o->h'.get? c=aa o)->(∃o,h'.get? e=aa o/\o.cls=.type "StopIteration")->E (.ref e) { s with heap:=h' }) :
  ay (aC prog w) A (bX.«zip.__next__» ⟨[.ref z],[]⟩) Q E s:=by
 show ay _ _ (fQ (.ref z) 2 >>= _) _ _ _;refine ai (aT hz rfl (x:=.bool ae) rfl ?_);show ay _ _ (fQ (.ref z) 3 >>= _) _ _ _;refine ai (aT hz rfl (x:=.ref TI) rfl (ai (bg hTI rfl ?_)));show ay _ _ (aL (.ref z) >>= _) _ _ _;refine ai ?_;unfold aL;refine ai (aT hz rfl (x:=.none) rfl (aw ?_));simp only[if_true];refine ai (hZ (ai (aT hz rfl (x:=.ref TO) rfl (ai (bE hz (by simp) λg₁ z₁ s₁=>?_)))));have z₁:eD g₁ z TI TO .ellipsis:=z₁;refine ai ?_;simp only[j3,jL,d7,eR];refine ai (ai (fO ?_));show ay _ _ (aG (.ref i1) >>= _) _ _ _;cases hx:us[k]? with
 |none =>
  refine ai (Yq hh (h1.ext s₁.extBut D.i1z) (q1.ext s₁.extBut D.l1z) hx λg₂ e s₂ he=>?_);obtain⟨oe,hoe,hce⟩:=he;have z₂:eD g₂ z TI TO .ellipsis:=s₂ _ _ D.i1z.symm z₁;have ez:e≠z:=λx=>by subst x;rw[z₂]at hoe;cases hoe;simp at hce
  exact bE z₂ (by simp) λg₃ _ s₃=>q g₃ e (λc o n1 _ n3 _ x=>s₃.extBut _ _ n1 (s₂ _ _ n3 (s₁.extBut _ _ n1 x))) ⟨oe,s₃.extBut _ _ ez hoe,hce⟩
 |some x =>
  have hy:vs[k]?=ah:=by rcases hend with h|h;rw[hx]at h;cases h;exact h
  refine ai (Zf (h1.ext s₁.extBut D.i1z) (q1.ext s₁.extBut D.l1z) hx λg₂ h1₂ s₂=>aw ?_);have o₂:bx g₂ TO a b:=s₂.extBut _ _ D.TOi1 (s₁.extBut _ _ D.TOz hTO);refine ai (bg o₂ rfl (ai (fg o₂ λg₃ o₃ s₃=>?_)));refine ai (jE (aw (ai (ai (fO ?_)))));show ay _ _ (aG (.ref i2) >>= _) _ _ _;refine ai (Yq hh (((h2.ext s₁.extBut D.i2z).ext s₂.extBut D.i12.symm).ext s₃.extBut D.TOi2.symm) (((q2.ext s₁.extBut D.l2z).ext s₂.extBut D.l2i1).ext s₃.extBut D.l2TO) hy λg₄ e s₄ he=>?_);obtain⟨oe,hoe,hce⟩:=he;have z₄:eD g₄ z TI TO .ellipsis:=s₄ _ _ D.i2z.symm (s₃.extBut _ _ D.TOz.symm (s₂.extBut _ _ D.i1z.symm z₁));have ez:e≠z:=λx=>by subst x;rw[z₄]at hoe;cases hoe;simp at hce
  exact bE z₄ (by simp) λg₅ _ s₅=>q g₅ e (λc o n1 n2 n3 n4 x=>s₅.extBut _ _ n1 (s₄ _ _ n4 (s₃.extBut _ _ n2 (s₂.extBut _ _ n3 (s₁.extBut _ _ n1 x))))) ⟨oe,s₅.extBut _ _ ez hoe,hce⟩
theorem Ml{Q:Option ak->ar->Prop}(D:dk z TI TO i1 i2 t1 t2)(hz:eD s.heap z TI TO .none)(hTI:bx s.heap TI (.ref i1) (.ref i2))(hTO:bx s.heap TO a b)
  (h1:ji l1 s.heap i1 t1 k) (h2:ji l2 s.heap i2 t2 k) (q1:jf l1 s.heap t1 us) (q2:jf l2 s.heap t2 vs) (hx:us[k]?=aa x) (hy:vs[k]?=aa y)
  (q:∀h',eD h' z TI TO (fj s.heap.objs.size)->bx h' TO x y->ji l1 h' i1 t1 (k+1)->ji l2 h' i2 t2 (k+1)->bx h' s.heap.objs.size x y->h'.objs.size=s.heap.objs.size+1 ->
   (∀c o,c≠z->c≠TO->c≠i1->c≠i2->s.heap.get? c=aa o->h'.get? c=aa o)->Q (aa (.ref s.heap.objs.size)) { s with heap:=h' }):ay (aC prog w) A (dS (.ref z)) Q E s:=by
 have T:s.TypeIs (.ref z) "zip":=⟨_,hz,rfl⟩
 unfold dS;exact ai (fP (be (name:=cD "__next__") T Tc (bY Tc T eF
  (j4p D hz hTI hTO h1 h2 q1 q2 hx hy λh' a1 a2 a3 a4 a5 a6 a7=>aw (q h' a1 a2 a3 a4 a5 a6 a7)) (dX _))))
theorem Bc{Q:Option ak->ar->Prop}(hh:A.handled=ah)(D:dk z TI TO i1 i2 t1 t2)(hz:eD s.heap z TI TO .none)(hTI:bx s.heap TI (.ref i1) (.ref i2))(hTO:bx s.heap TO a b)
  (h1:ji l1 s.heap i1 t1 k) (h2:ji l2 s.heap i2 t2 k) (q1:jf l1 s.heap t1 us) (q2:jf l2 s.heap t2 vs) (hend:us[k]?=ah\/vs[k]?=ah)
  (q:∀h',(∀c o,c≠z->c≠TO->c≠i1->c≠i2->s.heap.get? c=aa o->h'.get? c=aa o)->Q ah { s with heap:=h' }):ay (aC prog w) A (dS (.ref z)) Q E s:=by
 have T:s.TypeIs (.ref z) "zip":=⟨_,hz,rfl⟩
 unfold dS;refine ai (fP (be (name:=cD "__next__") T Tc (bY Tc T eF
  (j7k hh D hz hTI hTO h1 h2 q1 q2 hend λh' e kp he=>?_) (dX _))))
 obtain⟨o,ho,hc⟩:=he;exact ai (kN (T:="StopIteration") (b:=af) ⟨o,ho,hc⟩ lU (aw (q _ kp)))
end
noncomputable def Wg(lst:Bool):String:=if lst=af then "list_iterator" else "tuple_iterator"
noncomputable abbrev zh1(h:aH)(l1:Bool)(t1:ao):aH:=h.push { cls:=.type (Wg l1),data:=.fields #[.ref t1,.int 0 0] }
noncomputable abbrev zh2(h:aH)(l1 l2:Bool)(t1 t2:ao):aH:=(zh1 h l1 t1).push { cls:=.type (Wg l2),data:=.fields #[.ref t2,.int 0 0] }
noncomputable abbrev zh3(h:aH)(l1 l2:Bool)(t1 t2:ao):aH:=(zh2 h l1 l2 t1 t2).push { cls:=.type "tuple",data:=.seq #[.ref h.objs.size,.ref (zh1 h l1 t1).objs.size] }
noncomputable abbrev zh4(h:aH)(l1 l2:Bool)(t1 t2:ao):aH:=(zh3 h l1 l2 t1 t2).push { cls:=.type "tuple",data:=.seq #[.none,.none] }
noncomputable abbrev zh5(h:aH)(l1 l2:Bool)(t1 t2:ao):aH:=(zh4 h l1 l2 t1 t2).push { cls:=.type "zip",data:=.fields #[.none,.bool ae,.bool ae,.ref (zh2 h l1 l2 t1 t2).objs.size,.ref (zh3 h l1 l2 t1 t2).objs.size] }
section
variable{prog:az}{w:aF}{A:aI}{E:k7u}{s:ar}{l1 l2:Bool}{t1 t2:ao}{us vs:Array ak}
theorem Vt{lst:Bool}{t:ao}{its:Array ak}{Q:k7u}(h:jf lst s.heap t its)(q:Q (.ref s.heap.objs.size) { s with heap:=zh1 s.heap lst t }):ay (aC prog w) A (iQ (.ref t)) Q E s:=by
 unfold jf at h;cases lst with
 |true=>rw[if_pos rfl]at h;exact cy h q
 |false=>rw[if_neg xm]at h;exact fW h q
theorem jf.push{lst:Bool}{h:aH}{t:ao}{its:Array ak}(x:jf lst h t its)(o:dy):jf lst (h.push o) t its:=by
 unfold jf at x ⊢;cases lst with
 |true=>rw[if_pos rfl]at x ⊢;exact x.push o
 |false=>rw[if_neg xm]at x ⊢;exact x.push o
theorem j21 (t1 t2:ao) (us vs:Array ak):kz (bX.«zip.__new__» ⟨[.type "zip",.ref t1,.ref t2],[]⟩) (λ_ R s=>jf l1 s.heap t1 us/\jf l2 s.heap t2 vs /\
   R (.ok (.ret (.ref (zh4 s.heap l1 l2 t1 t2).objs.size))) { s with heap:=zh5 s.heap l1 l2 t1 t2 }) :=
 .of_wp λprog w A R s h=>by
  obtain⟨hp,g,d,tk,os⟩:=s;obtain⟨h1,h2,h⟩:=h;have hsub:=sub_zip;have e1:jf l1 (Shared.heap ⟨hp,g,d,tk,os⟩) t1 us:=h1;have e2:jf l2 (Shared.heap ⟨zh1 hp l1 t1,g,d,tk,os⟩) t2 vs:=h2.push _
  wp_walk using Vt e1,Vt e2
  exact⟨_,rfl,h⟩
end
def SqB(K:k7t)(lst:Bool)(H:Hp)(a:ao)(xs:List V):Prop:=if lst=af then SqL K H a xs else SqT K H a xs
section
variable{X:Cx}{pins:k7v}{σ:St}{H:Hp}{s:ar}{a p:ao}{xs ys:List V}{lst:Bool}{ch:List ao}{h':aH}
theorem j4.seqB{K:k7t}{H':Hp}(e:j4 H H')(h:SqB K lst H a xs):SqB K lst H' a xs:=by
 unfold SqB at h ⊢;cases lst with
 |true=>rw[if_pos rfl]at h ⊢;exact e.seq h
 |false=>rw[if_neg xm]at h ⊢;exact e.seqT h
theorem Inv.side(I:Inv X pins σ H s)(h:SqB X.K lst H a xs):∃us:List ak,Vals xs us/\jf lst s.heap a us.toArray/\xs.length<=av:=by
 unfold SqB at h;unfold jf;cases lst with
 |true=>rw[if_pos rfl]at h;obtain⟨its,r,q,l⟩:=I.list h;exact⟨its,r,by rw[if_pos rfl];exact q.isList,l⟩
 |false=>rw[if_neg xm]at h;obtain⟨its,r,q,l⟩:=I.tuple h;exact⟨its,r,by rw[if_neg xm];exact q,l⟩
theorem Inv.side_inj(I:Inv X pins σ H s)(h:SqB X.K lst H a xs)(h':SqB X.K lst H a ys):xs=ys:=by
 unfold SqB at h h';cases lst with
 |true=>rw[if_pos rfl]at h h';exact I.list_inj h h'
 |false=>rw[if_neg xm]at h h';exact I.tuple_inj h h'
theorem Inv.chg(I:Inv X pins σ H s)(hf:∀b∈ch,Z1 X pins H b)(kp:∀c o,c∉ch->s.heap.get? c=aa o->h'.get? c=aa o):Inv X pins σ H { s with heap:=h' }:=by
 refine I.step (g':=s.gens) (t':=s.toks) (d':=s.drawn) (ch:=ch) (λb hb=>⟨(hf b hb).2.2.2.1,(hf b hb).2.1,(hf b hb).2.2.2.2.1,(hf b hb).2.2.2.2.2⟩) (λb o _ _ nc e _=>kp b o nc e) (λb o _ _ nc e _=>⟨o.slots,kp b o nc e⟩)
  (λb o _ _ n=>n) (λb o nc e=>⟨o,kp b o nc e⟩) (λb xs e=>e) (λb o u e=>e) (λb ps e=>⟨#[],by rw[e];simp⟩) (λm hm=>hm.at' λo e=>kp _ o (λz=>(hf _ z).2.1 rfl) e) (λc o e=>?_) I.bare
 have out:∀{b:ao}{u:HO},H b=aa u->b∉ch:=λ{b u} q z=>by rw[(hf b z).1]at q;cases q
 refine jz.stay (I.hok c o e) (λb u hb q=>kp b u ?_ q) (λb q=>q) (λb xs q=>q) (λb _ _ q=>q);rcases hb with hb|hb
 .subst hb;exact out e
 .exact out hb
theorem Inv.chgT(I:Inv X pins σ H s)(hf:∀b∈ch,Z1 X pins H b)(kp:∀c o,c∉ch->s.heap.get? c=aa o->h'.get? c=aa o){us:List ak}(rv:Vals xs us)(hl:xs.length<=av)
  (hp:iE h' s.heap.objs.size us.toArray) (hq:V5 h' s.heap.objs.size):Inv X pins σ (upd H s.heap.objs.size (.tup xs)) { s with heap:=h' }:=by
 have hn:=I.fresh;have nz:∀{b:ao}{o:dy},s.heap.get? b=aa o->b≠s.heap.objs.size:=λ{b o} e=>Xd (xr e);have tr:∀{b:ao}{u:HO},H b=aa u->upd H s.heap.objs.size (.tup xs) b=aa u:=λ{b u} e=>by rw[jj (zq e hn)];exact e
 refine I.step (g':=s.gens) (t':=s.toks) (d':=s.drawn) (ch:=ch) (λb hb=>⟨(hf b hb).2.2.2.1,(hf b hb).2.1,(hf b hb).2.2.2.2.1,(hf b hb).2.2.2.2.2⟩) (λb o _ _ nc e _=>kp b o nc e) (λb o _ _ nc e _=>⟨o.slots,kp b o nc e⟩)
  (λb o _ e n=>by rw[jj (nz e)];exact n) (λb o nc e=>⟨o,kp b o nc e⟩) (λb xs e=>tr e) (λb o u e=>tr e) (λb ps e=>⟨#[],by rw[tr e];simp⟩) (λm hm=>hm.at' λo e=>kp _ o (λz=>(hf _ z).2.1 rfl) e) (λc o e=>?_) I.bare
 have out:∀{b:ao}{u:HO},H b=aa u->b∉ch:=λ{b u} q z=>by rw[(hf b z).1]at q;cases q
 by_cases z:c=s.heap.objs.size
 .subst z;rw[jx]at e;cases e;exact⟨hl,us,rv,hp,hq⟩
 .rw[jj z]at e;refine jz.stay (I.hok c o e) (λb u hb q=>kp b u ?_ q) (λb q=>tr q) (λb xs q=>tr q) (λb _ _ q=>tr q);rcases hb with hb|hb
  .subst hb;exact out e
  .exact out hb
end
noncomputable def Itz(K:k7t)(l1 l2:Bool)(t1 t2:ao):It :=
 ⟨λi H=>∃xs ys x y,SqB K l1 H t1 xs/\SqB K l2 H t2 ys/\xs[i]?=aa x/\ys[i]?=aa y,
 λi H v H'=>∃p x y,v=.ref p/\H p=ah/\H'=upd H p (.tup [x,y])/\(∀xs,SqB K l1 H t1 xs->xs[i]?=aa x)/\∀ys,SqB K l2 H t2 ys->ys[i]?=aa y,
 λi H=>∃xs ys,SqB K l1 H t1 xs/\SqB K l2 H t2 ys/\(xs.length<=i\/ys.length<=i)⟩
theorem j7q{P:az}{w:aF}{K:k7t}{es:List au}{n:Nat}{pos:aR}{l1 l2:Bool}{z TI TO i1 i2 t1 t2:ao}(D:dk z TI TO i1 i2 t1 t2) :
  Turn P w K (.Tuple es n pos) (Itz K l1 l2 t1 t2) [z,TI,TO,i1,i2] z (λi h=>eD h z TI TO .none/\bx h TI (.ref i1) (.ref i2)/\(∃a b,bx h TO a b)/\ji l1 h i1 t1 i/\ji l2 h i2 t2 i) where
 mem:=by simp
 obj:=λi h ⟨hz,hTI,⟨a,b,hTO⟩,h1,h2⟩ c hc=>by
  simp at hc;rcases hc with rfl|rfl|rfl|rfl|rfl
  .exact⟨_,hz,λv e=>by cases e⟩
  .exact⟨_,hTI,λv e=>by cases e⟩
  .exact⟨_,hTO,λv e=>by cases e⟩
  .exact h1.obj
  .exact h2.obj
 keep:=λi h h' ⟨hz,hTI,⟨a,b,hTO⟩,h1,h2⟩ k=>⟨k z (by simp) _ hz,k TI (by simp) _ hTI,⟨a,b,k TO (by simp) _ hTO⟩,h1.stay λo e=>k i1 (by simp) o e,h2.stay λo e=>k i2 (by simp) o e⟩
 item:=by
  rintro X hP hw hK hc i pins s σ H E I hf ⟨hz,hTI,⟨a,b,hTO⟩,h1,h2⟩ ⟨xs,ys,x,y,sx,sy,hx,hy⟩;subst hP hw hK;obtain⟨us,ru,qu,_⟩:=I.side sx;obtain⟨vs,rv,qv,_⟩:=I.side sy;obtain⟨u,hu,rx⟩:=ru.get hx;obtain⟨v,hv,ry⟩:=rv.get hy;refine Ml D hz hTI hTO h1 h2 qu qv (by simpa using hu) (by simpa using hv) λh' z' o' j1 j2 p' sz kp=>⟨_,rfl,?_⟩
  refine wpAny_letOwnedTupleGo_zip (s:={ s with heap:=h' }) z' λh'' z'' sb=>?_;have zlt:z<s.heap.objs.size:=xr hz;have kp':∀c o,c∉[z,TO,i1,i2]->s.heap.get? c=aa o->h''.get? c=aa o:=λc o nc e=>by simp at nc;exact sb.extBut _ _ nc.1 (kp c o nc.1 nc.2.1 nc.2.2.1 nc.2.2.2 e)
  have hf':∀c∈[z,TO,i1,i2],Z1 X pins H c:=λc hc=>hf c (by simp at hc ⊢;rcases hc with h|h|h|h<;>simp[h]);have pt:iE h'' s.heap.objs.size [u,v].toArray:=⟨_,sb.extBut _ _ (Pg zlt) p',rfl,_,rfl⟩
  refine⟨.ref s.heap.objs.size,_,I.chgT hf' kp' (xs:=[x,y]) (.cons rx (.cons ry .nil)) (by show 2<=av;decide) pt (V5.of (sb.extBut _ _ (Pg zlt) p')),rfl,⟨_,x,y,rfl,I.fresh,rfl,λws hw=>by rw[I.side_inj hw sx];exact hx,λws hw=>by rw[I.side_inj hw sy];exact hy⟩,?_,λc hc=>?_⟩
  .refine⟨z'',?_,⟨u,v,sb.extBut _ _ D.TOz o'⟩,j1.ext sb.extBut D.i1z,j2.ext sb.extBut D.i2z⟩;exact sb.extBut _ _ D.TIz (kp TI _ D.TIz D.TITO D.TIi1 D.TIi2 hTI)
  .obtain⟨o,e,_⟩:∃o,s.heap.get? c=aa o/\True:=by
    simp at hc;rcases hc with rfl|rfl|rfl|rfl|rfl
    .exact⟨_,hz,trivial⟩
    .exact⟨_,hTI,trivial⟩
    .exact⟨_,hTO,trivial⟩
    .obtain⟨o,e,_⟩:=h1.obj;exact⟨o,e,trivial⟩
    .obtain⟨o,e,_⟩:=h2.obj;exact⟨o,e,trivial⟩
   rw[jj (Xd (xr e))];exact(hf c hc).1
 done:=by
  rintro X hP hw hK hc i pins s σ H E I hf ⟨hz,hTI,⟨a,b,hTO⟩,h1,h2⟩ ⟨xs,ys,sx,sy,hend⟩;subst hP hw hK;obtain⟨us,ru,qu,_⟩:=I.side sx;obtain⟨vs,rv,qv,_⟩:=I.side sy;have e1:=ru.length;have e2:=rv.length;have hf':∀c∈[z,TO,i1,i2],Z1 X pins H c:=λc hc=>hf c (by simp at hc ⊢;rcases hc with h|h|h|h<;>simp[h]);refine Bc (I.ok.hd hc) D hz hTI hTO h1 h2 qu qv ?_ λh' kp=>⟨rfl,I.chg hf' λc o nc e=>?_⟩
  .rcases hend with h|h
   .left;simp;omega
   .right;simp;omega
  .simp at nc;exact kp c o nc.1 nc.2.1 nc.2.2.1 nc.2.2.2 e
 self:=λ_ _ _ _ _ st h=>gv st.1 h
section
variable{X:Cx}{ρ:Rho}{a b:au}{es:List au}{n:Nat}{pos p q1 q2:aR}{ds ds':List D}{l1 l2:Bool}
noncomputable def D.seq(lst:Bool)(ds:List D):D:=if lst=af then .lst ds else .tup ds
theorem Q6{K:k7t}{H:Hp}{lst:Bool}{v:V}(h:Enc K H (D.seq lst ds) v):∃t xs,v=.ref t/\SqB K lst H t xs/\j6 K H ds xs:=by
 unfold D.seq at h;unfold SqB;cases lst with
 |true=>rw[if_pos rfl]at h;obtain⟨t,xs,e,s,l⟩:=h;exact⟨t,xs,e,by rw[if_pos rfl];exact s,l⟩
 |false=>rw[if_neg xm]at h;obtain⟨t,xs,e,s,l⟩:=h;exact⟨t,xs,e,by rw[if_neg xm];exact s,l⟩
noncomputable def Zk(ds ds':List D):List D:=(ds.zip ds').map λp=>D.tup [p.1,p.2]
theorem j9b{K:k7t}{F:Hp}{t1 t2:ao}{xs ys:List V}(s1:SqB K l1 F t1 xs)(s2:SqB K l2 F t2 ys)(e1:j6 K F ds xs)(e2:j6 K F ds' ys):Uw K F (Itz K l1 l2 t1 t2) (Zk ds ds'):=λi H A g hA=>by
 have s1':SqB K l1 H t1 xs:=jk.seqB (g.seqB s1);have s2':SqB K l2 H t2 ys:=jk.seqB (g.seqB s2);have hl:(Zk ds ds').length=min ds.length ds'.length:=by unfold Zk;rw[xg,Tt]
 refine⟨λh=>?_,λh=>⟨xs,ys,s1',s2',?_⟩,λv H' ⟨p,x,y,ev,np,eH,hx,hy⟩=>?_⟩
 .rw[hl]at h;obtain⟨x,hx,_⟩:=e1.get (kh (show i<ds.length by omega));obtain⟨y,hy,_⟩:=e2.get (kh (show i<ds'.length by omega));exact⟨xs,ys,x,y,s1',s2',hx,hy⟩
 .rw[hl]at h;rw[e1.length,e2.length];omega
 .subst eH;refine⟨j7 np,λd hd=>?_⟩;unfold Zk at hd;rw[xu]at hd;cases z:(ds.zip ds')[i]? with
  |none=>rw[z]at hd;cases hd
  |some pr =>rw[z]at hd;cases hd;obtain⟨h1,h2⟩:=List.getElem?_zip_eq_some.mp z;obtain⟨x',hx',ex⟩:=e1.get h1;obtain⟨y',hy',ey⟩:=e2.get h2;have q1:=hx xs s1';have q2:=hy ys s2';rw[hx']at q1;cases q1;rw[hy']at q2;cases q2;have pA:p∉A:=λz=>hA p z np;have gg:j4 F (del (upd H p (.tup [x,y])) A):=g.trans (je (j7 np));exact⟨p,[x,y],ev,.inl (.inl (by rw[j5 pA];exact jx)),x,[y],rfl,ex.mono gg,y,[],rfl,ey.mono gg,rfl⟩
theorem DI.zip (l1 l2:Bool) (ha:DE X ρ a (D.seq l1 ds)) (hb:DE X ρ b (D.seq l2 ds')) (hm:X.mg "zip" = ah) (hg:Gl X "zip":=by rfl) (hs:aj [a,b] X.env=(ae,aD a X.env)::aj [b] X.env:=by rfl)
  (hs2:aj [b] X.env=(ae,aD b X.env)::aj [] X.env:=by rfl) (hpl:(aQ pos (aj [b] X.env)).any (·.1)=ae:=by rfl):DI X ρ (.Tuple es n q1) (.Call (.Name "zip" p) [a,b] [] pos) (Zk ds ds'):=λσ H R r q pins s I=>by
 have args:Wl X [a,b] σ H (λvs H'=>∃v u,vs=[v,u]/\j4 H H'/\Enc X.K (del H' (owns ρ)) (D.seq l1 ds) v/\Enc X.K (del H' (owns ρ)) (D.seq l2 ds') u) :=
  (jc peS (jc peS qb hs2) hs).to (ha σ H _ r λv H1 g1 e1=>hb σ H1 _ (r.grow g1) λu H2 g2 e2=>⟨v,u,rfl,g1.trans g2,e1.mono (je g2),e2⟩)
 refine iF (Jb I hg hm m8 (callWith_type1 (thn (args pos pins s I) λus s1 h1=>?_) hs hpl));obtain⟨vs,H1,I1,r1,v,u,ev,g1,e1,e2⟩:=h1;subst ev;obtain⟨t1,xs,et1,sq1,en1⟩:=Q6 e1;obtain⟨t2,ys,et2,sq2,en2⟩:=Q6 e2;subst et1 et2;obtain⟨u1,u2,eu,ru1,ru2⟩:=r1.two;subst eu;cases ru1;cases ru2;obtain⟨w1,rw1,qw1,_⟩:=I1.side (jk.seqB sq1);obtain⟨w2,rw2,qw2,_⟩:=I1.side (jk.seqB sq2);refine iS lP (by decide) (jU _ _) (kl _ _) (λobj=>iN obj _ _) ko (j21 (l1:=l1) (l2:=l2) t1 t2 w1.toArray w2.toArray) ⟨qw1,qw2,?_⟩;have z1:(zh1 s1.heap l1 t1).objs.size=s1.heap.objs.size+1:=Xk ..;have z2:(zh2 s1.heap l1 l2 t1 t2).objs.size=s1.heap.objs.size+2:=by rw[Xk,z1]
 have z3:(zh3 s1.heap l1 l2 t1 t2).objs.size=s1.heap.objs.size+3:=by rw[Xk,z2]
 have z4:(zh4 s1.heap l1 l2 t1 t2).objs.size=s1.heap.objs.size+4:=by rw[Xk,z3]
 have z5:(zh5 s1.heap l1 l2 t1 t2).objs.size=s1.heap.objs.size+5:=by rw[Xk,z4]
 have b5:(zh5 s1.heap l1 l2 t1 t2).get? (zh4 s1.heap l1 l2 t1 t2).objs.size=aa _:=X3 _ rfl;have b4:(zh5 s1.heap l1 l2 t1 t2).get? (zh3 s1.heap l1 l2 t1 t2).objs.size=aa _:=km _ (X3 _ rfl);have b3:(zh5 s1.heap l1 l2 t1 t2).get? (zh2 s1.heap l1 l2 t1 t2).objs.size=aa _:=km _ (km _ (X3 _ rfl));have b2:(zh5 s1.heap l1 l2 t1 t2).get? (zh1 s1.heap l1 t1).objs.size=aa _:=km _ (km _ (km _ (X3 _ rfl)));have b1:(zh5 s1.heap l1 l2 t1 t2).get? s1.heap.objs.size=aa _:=km _ (km _ (km _ (km _ (X3 _ rfl))));have kp:∀c o,s1.heap.get? c=aa o->(zh5 s1.heap l1 l2 t1 t2).get? c=aa o:=λc o e=>km _ (km _ (km _ (km _ (km _ e))));show _/\_;rw[z2,z3,z4]at b5;rw[z1,z2]at b3;rw[z3]at b4;rw[z1]at b2;rw[z4];have I2:Inv X pins σ H1 { s1 with heap:=zh5 s1.heap l1 l2 t1 t2 }:=I1.kept (t':=s1.toks) kp;have lt1:t1<s1.heap.objs.size:=by
  unfold jf at qw1;cases l1 with
  |true=>rw[if_pos rfl]at qw1;obtain⟨_,e,_⟩:=qw1;exact xr e
  |false=>rw[if_neg xm]at qw1;obtain⟨_,e,_⟩:=qw1;exact xr e
 have lt2:t2<s1.heap.objs.size:=by
  unfold jf at qw2;cases l2 with
  |true=>rw[if_pos rfl]at qw2;obtain⟨_,e,_⟩:=qw2;exact xr e
  |false=>rw[if_neg xm]at qw2;obtain⟨_,e,_⟩:=qw2;exact xr e
 have side:∀{l:Bool}{j t:ao},(zh5 s1.heap l1 l2 t1 t2).get? j=aa { cls:=.type (Wg l),data:=.fields #[.ref t,.int 0 0] }->ji l (zh5 s1.heap l1 l2 t1 t2) j t 0:=λ{l j t} e=>by
  unfold ji;cases l with
  |true=>rw[if_pos rfl];exact⟨_,e,rfl,rfl⟩
  |false=>rw[if_neg xm];exact⟨_,e,rfl,rfl⟩
 refine⟨⟨_,b5,rfl⟩,gv (s:={ s1 with heap:=zh5 s1.heap l1 l2 t1 t2 }) b5 ?_⟩;refine⟨_,_,_,Itz X.K l1 l2 t1 t2,H1,rfl,I2,j7q (zipApart_new lt1 lt2),⟨b5,b3,⟨_,_,b4⟩,side b1,side b2⟩,λc hc=>?_,q _ H1 g1 (j9b sq1 sq2 en1 en2)⟩;have hc':c=s1.heap.objs.size+4\/c=s1.heap.objs.size+2\/c=s1.heap.objs.size+3\/c=s1.heap.objs.size\/c=s1.heap.objs.size+1:=by simpa using hc
 have hge:s1.heap.objs.size<=c:=by rcases hc' with e|e|e|e|e<;>rw[e]<;>first|exact X7 _|exact jK _ _
 obtain⟨f0,f1,f2,f3,f4,f5⟩:=I1.fpOk hge (I1.hok.fresh hge);exact⟨f0,f1,f2,f3,f4,f5⟩
theorem DG.pair{x y:aq}(i j:Nat){d d':D}(hij:i≠j)(hN:X.N.Nodup)(hi:X.N[i]?=aa x:=by rfl)(hj:X.N[j]?=aa y:=by rfl)(hx:Loc X.env.scope x:=by first|exact aZ rfl|exact cg rfl)(hy:Loc X.env.scope y:=by first|exact aZ rfl|exact cg rfl)
  (fx:X.fn x=af\/X.env.scope.names.lookup x=aa .local:=by first|exact .inl rfl|exact .inr rfl) (fy:X.fn y=af\/X.env.scope.names.lookup y=aa .local:=by first|exact .inl rfl|exact .inr rfl) (hc:X.calm=af:=by rfl)
  (hn:(bV [.Name x q1,.Name y q2] X.env).length=2:=by rfl) (hst:(bV [.Name x q1,.Name y q2] X.env).findIdx? (·.1)=ah:=by rfl)
  (e1:(bV [.Name x q1,.Name y q2] X.env).map (·.2)=eV (.Name x q1) X.env::(bV [.Name y q2] X.env).map (·.2):=by rfl) (e2:(bV [.Name y q2] X.env).map (·.2)=eV (.Name y q2) X.env::(bV [] X.env).map (·.2):=by rfl) :
  DG X ρ (.Tuple [.Name x q1,.Name y q2] n pos) (.tup [d,d']) ((ρ.set i (.val d)).set j (.val d')):=by
 refine⟨λb hb=>(jh rfl).subset ((jh rfl).subset hb),λσ H v Q R en q=>?_⟩;obtain⟨t,xs,ev,sq,u,r,e,eu,u',r',e',eu',er⟩:=en;subst e e' ev er;refine(jgh hc (j0c (Cy hN hi hx fx) (j0c (Cy hN hj hy fy) jd7 e2) e1) hn hst).to ⟨t,[u,u'],rfl,jk.seqT sq,rfl,u,[u'],rfl,u',[],rfl,rfl,?_⟩;refine q _ ?_;have R1:Rep X.K (ρ.set i (.val d)) (σ.set i (aa u)) H:=R.set_val eu;exact R1.set_val (eu'.mono (vd λb hb=>(jh rfl).subset hb))
end
noncomputable def D.ty:D->String
 |.non=>"NoneType"
 |.bl _=>"bool"
 |.int _=>"int"
 |.str _=>"str"
 |.tup _=>"tuple"
 |.lst _=>"list"
 |.dct _ _=>"dict"
 |.sct _=>"dict"
 |.fn _ _=>"function"
section
variable{X:Cx}{pins:k7v}{σ:St}{H:Hp}{s:ar}{A:aI}{E:k7u}{Q:k7u}{c:ak}{b:Bool}
theorem j65 {d:D} {v:V} {u:ak} (I:Inv X pins σ H s) (en:Enc X.K H d v) (r:RelV v u) (nf:d.ty ≠ "function"):∃P:aH->Prop,PySem.W.KitX X.K u (.type d.ty) P/\P s.heap/\u≠.builtin "__main__.__loader__#opaque":=by
 cases d with
 |non=>cases(show v=.non from en);cases(show u=b0 from r);exact⟨_,W.kitx_none,trivial,λz=>nomatch z⟩
 |bl k=>cases(show v=.bl k from en);cases(show u=bp k from r);exact⟨_,W.kitx_bool,trivial,λz=>nomatch z⟩
 |int k=>cases(show v=.int k from en);obtain⟨t,q⟩:=(show ∃t,u=bu k t from r);cases q;exact⟨_,W.kitx_int,trivial,λz=>nomatch z⟩
 |str k=>cases(show v=.str k from en);obtain⟨t,q⟩:=(show ∃t,u=b9 k t from r);cases q;exact⟨_,W.kitx_str,trivial,λz=>nomatch z⟩
 |tup l =>obtain⟨a,xs,e,sq,_⟩:=en;subst e;cases(show u=aJ a from r);obtain⟨its,_,⟨o,h1,h2,_⟩,_⟩:=I.tuple sq;exact⟨_,W.kitx_tuple,⟨o,h1,h2⟩,λz=>nomatch z⟩
 |lst l =>obtain⟨a,xs,e,sq,_⟩:=en;subst e;cases(show u=aJ a from r);obtain⟨its,_,⟨o,n,h1,h2,_⟩,_⟩:=I.list sq;exact⟨_,W.kitx_list,⟨o,h1,h2⟩,λz=>nomatch z⟩
 |dct ks l =>
  obtain⟨a,xs,ep,vs,e,hx,_⟩:=en;subst e;cases(show u=aJ a from r);obtain⟨_,_,_,o,es,h1,h2,_⟩:=(show jz X.prog X.w H s.heap a (.dI xs ep)from I.hok _ _ hx)
  exact⟨_,W.kitx_dict,⟨o,h1,h2.1⟩,λz=>nomatch z⟩
 |sct k =>
  obtain⟨a,e,hx⟩:=en;subst e;cases(show u=aJ a from r);obtain⟨_,_,vs,_,o,es,ep,h1,h2,_⟩:=(show jz X.prog X.w H s.heap a (.dK (kvI k))from I.hok _ _ hx)
  exact⟨_,W.kitx_dict,⟨o,h1,h2.1⟩,λz=>nomatch z⟩
 |fn x l=>exact absurd rfl nf
theorem j7d:Jy X (.builtin "isinstance") (λxs H Q=>∃v d c b,xs=[v,.ty c]/\Enc X.K H d v/\d.ty ≠ "function"/\W.kitOne X.K (.type d.ty) (.type c)=aa b/\Q (.bl b) H):=by rintro pins s σ H xs us Q I r ⟨v,d,c,b,e,en,nf,k,q⟩;subst e;obtain⟨u,u',eu,r1,r2⟩:=vals2 r;subst eu;cases(show u'=cI c from r2);obtain⟨P,Z,hp,hn⟩:=j65 I en r1 nf;exact W.kia_one Z I.kIn hp k hn λtk=>⟨.bl b,H,I.tok tk,rfl,q⟩
theorem j7c:Jy X (.builtin "isinstance") (λxs H Q=>∃(v:V)(t:ao)(d:D)(cs:List String)(b:Bool),xs=[v,.ref t]/\Enc X.K H d v/\d.ty ≠ "function"/\SqT X.K H t (cs.map V.ty)/\W.kitAny X.K (.type d.ty) (cs.map cI)=aa b/\Q (.bl b) H):=by
 rintro pins s σ H xs us Q I r ⟨v,t,d,cs,b,e,en,nf,sq,k,q⟩;subst e;obtain⟨u,u',eu,r1,r2⟩:=vals2 r;subst eu;cases(show u'=aJ t from r2);obtain⟨P,Z,hp,hn⟩:=j65 I en r1 nf;obtain⟨its,rv,⟨⟨cl,dd,da,sl⟩,h1,h2,n,h3⟩,_⟩:=I.tuple sq;have h2:cl=.type "tuple":=h2;have h3:da=.seq its.toArray n:=h3;subst h2 h3;have ei:∀{cs:List String}{its:List ak},Vals (cs.map V.ty) its->its=cs.map cI:=λ{cs}=>by
  induction cs with
  |nil=>intro its h;exact h.zero
  |cons c cs ih=>intro its h;cases h with|cons a b=>cases a;rw[ih b];rfl
 rw[ei rv]at h1;exact W.kia_tup Z I.kIn hp h1 k hn λtk=>⟨.bl b,H,I.tok tk,rfl,q⟩
end
section
variable{X:Cx}{ρ:Rho}{a b:au}{d:D}{pos p p1 p2 p3:aR}{T T1 T2:aq}{c c1 c2:String}{k:Bool}{n:Nat}
theorem j3m (hg:Gl X T) (hm:X.mg T=ah) (hv:bh T=aa (.type c)) (hn:T ≠ "__name__":=by decide) (hd:(T==k7x)=ae:=by decide):PE X (.Name T p) (tC (.ty c)):=jda hg hm hv rfl hn hd
theorem DE.isi1 (ha:DT X ρ a d) (nf:d.ty ≠ "function") (hm:X.mg "isinstance" = ah) (hT:X.mg T=ah) (hv:bh T=aa (.type c)) (hk:W.kitOne X.K (.type d.ty) (.type c)=aa k) (hg:Gl X "isinstance":=by rfl) (hg2:Gl X T:=by rfl)
  (hn:T ≠ "__name__":=by decide) (hd:(T==k7x)=ae:=by decide)
  (hs:aj [a,.Name T p2] X.env=(ae,aD a X.env)::aj [.Name T p2] X.env:=by rfl) (hs2:aj [.Name T p2] X.env=(ae,aD (.Name T p2) X.env)::aj [] X.env:=by rfl) (hpl:(aQ pos (aj [.Name T p2] X.env)).any (·.1)=ae:=by rfl) :
  DE X ρ (.Call (.Name "isinstance" p) [a,.Name T p2] [] pos) (.bl k):=λσ H Q R q =>
 (vh j7d hg hm lI (jc peS (jc (j3m hg2 hT hv hn hd) qb hs2) hs) (by decide) (by decide) hs hpl).to (ha σ H _ R λv H1 g1 e1=>⟨v,d,c,k,rfl,e1,nf,hk,q _ H1 g1 rfl⟩)
theorem DE.isi2 {m:Nat} (ha:DT X ρ a d) (nf:d.ty ≠ "function") (hm:X.mg "isinstance" = ah) (hT1:X.mg T1=ah) (hT2:X.mg T2=ah) (hv1:bh T1=aa (.type c1)) (hv2:bh T2=aa (.type c2))
  (hk:W.kitAny X.K (.type d.ty) [.type c1,.type c2]=aa k) (hg:Gl X "isinstance":=by rfl) (hg1:Gl X T1:=by rfl) (hg2:Gl X T2:=by rfl)
  (hn1:T1 ≠ "__name__":=by decide) (hd1:(T1==k7x)=ae:=by decide) (hn2:T2 ≠ "__name__":=by decide) (hd2:(T2==k7x)=ae:=by decide)
  (hs:aj [a,.Tuple [.Name T1 p1,.Name T2 p2] m p3] X.env=(ae,aD a X.env)::aj [.Tuple [.Name T1 p1,.Name T2 p2] m p3] X.env:=by rfl)
  (hs2:aj [.Tuple [.Name T1 p1,.Name T2 p2] m p3] X.env=(ae,aD (.Tuple [.Name T1 p1,.Name T2 p2] m p3) X.env)::aj [] X.env:=by rfl) (hpl:(aQ pos (aj [.Tuple [.Name T1 p1,.Name T2 p2] m p3] X.env)).any (·.1)=ae:=by rfl)
  (hs3:aj [.Name T1 p1,.Name T2 p2] X.env=(ae,aD (.Name T1 p1) X.env)::aj [.Name T2 p2] X.env:=by rfl) (hs4:aj [.Name T2 p2] X.env=(ae,aD (.Name T2 p2) X.env)::aj [] X.env:=by rfl) :
  DE X ρ (.Call (.Name "isinstance" p) [a,.Tuple [.Name T1 p1,.Name T2 p2] m p3] [] pos) (.bl k):=λσ H Q R q =>
 (vh j7c hg hm lI (jc peS (jc (j5m (jc (j3m hg1 hT1 hv1 hn1 hd1) (jc (j3m hg2 hT2 hv2 hn2 hd2) qb hs4) hs3)) qb hs2) hs) (by decide) (by decide) hs hpl).to
  (ha σ H _ R λv H1 g1 e1=>⟨by show 2<=av;decide,λt ht=>⟨v,t,d,[c1,c2],k,rfl,e1.mono (j7 ht),nf,.inl (.inl jx),hk,q _ _ (g1.trans (j7 ht)) rfl⟩⟩)
end
mutual
noncomputable def deq:D->D->Bool
 |.non,.non=>af
 |.bl a,.bl b=>a==b
 |.bl a,.int b=>(if a then 1 else 0)==b
 |.int a,.bl b=>a==(if b then 1 else 0)
 |.int a,.int b=>a==b
 |.str a,.str b=>a==b
 |.tup xs,.tup ys=>J3 xs ys
 |.lst xs,.lst ys=>J3 xs ys
 |.dct k xs,.dct m ys=>decide (k=m)&&J3 xs ys
 |.sct k,.sct m=>decide (k=m)
 |_,_=>ae
noncomputable def J3:List D->List D->Bool
 |[],[]=>af
 |x::xs,y::ys=>deq x y&&J3 xs ys
 |_,_=>ae
end
theorem jip{a b:Bool}:deq (.bl a) (.bl b)=(a==b):=(rfl)
theorem jio{a b:Int}:deq (.int a) (.int b)=(a==b):=(rfl)
theorem j11{a b:aq}:deq (.str a) (.str b)=(a==b):=(rfl)
theorem j10{a b:List D}:deq (.tup a) (.tup b)=J3 a b:=(rfl)
theorem j12{a b:List D}:deq (.lst a) (.lst b)=J3 a b:=(rfl)
theorem U3:J3 [] []=af:=(rfl)
theorem Zh{x y:D}{xs ys:List D}:J3 (x::xs) (y::ys)=(deq x y&&J3 xs ys):=(rfl)
theorem Ol{y:D}{ys:List D}:J3 [] (y::ys)=ae:=(rfl)
theorem Om{x:D}{xs:List D}:J3 (x::xs) []=ae:=(rfl)
mutual
noncomputable def D.dep:D->Nat
 |.tup xs=>D.depL xs+1
 |.lst xs=>D.depL xs+1
 |.dct _ _=>20000
 |.sct _=>20000
 |.fn _ _=>20000
 |_=>0
noncomputable def D.depL:List D->Nat
 |[]=>0
 |x::xs=>max x.dep (D.depL xs)
end
mutual
theorem Nb:∀d:D,d.dep<10000->deq d d=af
 |.non,_=>rfl
 |.bl b,_=>by rw[jip];simp
 |.int i,_=>by rw[jio];simp
 |.str x,_=>by rw[j11];simp
 |.tup xs,h=>by rw[j10];exact Mz xs (by simp only[D.dep]at h;omega)
 |.lst xs,h=>by rw[j12];exact Mz xs (by simp only[D.dep]at h;omega)
 |.dct _ _,h=>by simp[D.dep]at h
 |.sct _,h=>by simp[D.dep]at h
 |.fn _ _,h=>by simp[D.dep]at h
theorem Mz:∀ds:List D,D.depL ds<10000->J3 ds ds=af
 |[],_=>rfl
 |d::ds,h=>by rw[D.depL]at h;rw[Zh,Nb d nofun,Mz ds nofun];rfl
end
theorem U4:∀{xs ys:List D},xs.length≠ys.length->J3 xs ys=ae
 |[],[],h=>absurd rfl h
 |[],_::_,_=>by simp[U3,Zh,Ol,Om]
 |_::_,[],_=>by simp[U3,Zh,Ol,Om]
 |x::xs,y::ys,h=>by have:=U4 (xs:=xs) (ys:=ys) (by simpa using h);simp[U3,Zh,Ol,Om,this]
theorem Zv{f:Nat->Bool}:∀{xs ys:List D},xs.length=ys.length->(∀(j:Nat) x y,xs[j]?=aa x->ys[j]?=aa y->f j=deq x y)->(aB xs.length).all f=J3 xs ys
 |[],[],_,_=>by simp[U3,Zh,Ol,Om]
 |[],_::_,h,_=>by simp at h
 |_::_,[],h,_=>by simp at h
 |x::xs,y::ys,h,hf=>by have ih:=Zv (f:=λj=>f (j+1)) (xs:=xs) (ys:=ys) (by simpa using h) (λj a b ha hb=>hf (j+1) a b (by simpa using ha) (by simpa using hb));rw[xq,cP,gI,hf 0 x y rfl rfl,gZ];simp only[Zh];rw[<-ih];rfl
section
variable{X:Cx}{pins:k7v}{σ:St}{H:Hp}{s:ar}
theorem j0h(I:Inv X pins σ H s){a:ao}{xs ys:List V}(h:SqT X.K H a xs)(h':SqL X.K H a ys):False:=by obtain⟨_,_,⟨o,h1,h2,_⟩,_⟩:=I.tuple h;obtain⟨_,_,⟨o',n,h1',h2',_⟩,_⟩:=I.list h';rw[h1]at h1';cases h1';rw[h2]at h2';injection h2' with e;exact absurd e (by decide)
noncomputable def D.atom:D->Option V
 |.non=>aa .non
 |.bl b=>aa (.bl b)
 |.int i=>aa (.int i)
 |.str x=>aa (.str x)
 |_=>ah
theorem Enc.at_{K:k7t}{d:D}{v u:V}(h:Enc K H d v)(e:d.atom=aa u):v=u:=by
 cases d with
 |non=>cases e;exact(show v=.non from h)
 |bl b=>cases e;exact(show v=.bl b from h)
 |int i=>cases e;exact(show v=.int i from h)
 |str x=>cases e;exact(show v=.str x from h)
 |_=>cases e
theorem Enc.ref{K:k7t}{d:D}{v:V}(h:Enc K H d v)(e:d.atom=ah):∃a,v=.ref a:=by
 cases d with
 |tup l=>obtain⟨a,_,e,_⟩:=h;exact⟨a,e⟩
 |lst l=>obtain⟨a,_,e,_⟩:=h;exact⟨a,e⟩
 |dct k l=>obtain⟨a,_,_,_,e,_⟩:=h;exact⟨a,e⟩
 |sct k=>obtain⟨a,e,_⟩:=h;exact⟨a,e⟩
 |fn x l=>obtain⟨a,_,_,_,_,e,_⟩:=h;exact⟨a,e⟩
 |_=>cases e
theorem jat{d d':D}{u:V}(h:d.atom=aa u)(h':d'.atom=aa u):d=d':=by cases d<;>cases d'<;>first|(cases h;done)|(cases h';done)|(cases h;cases h';rfl)|(cases h;cases h')
theorem j1h{d:D}{a:ao}(h:d.atom=aa (.ref a)):False:=by cases d<;>cases h
theorem jhv(I:Inv X pins σ H s){d d':D}{v:V}(hd:d.dep<10000)(hd':d'.dep<10000)(h:Enc X.K H d v)(h':Enc X.K H d' v) :
  d=d'\/∃ds ds' xs,((d=.tup ds/\d'=.tup ds')\/(d=.lst ds/\d'=.lst ds'))/\j6 X.K H ds xs/\j6 X.K H ds' xs:=by
 cases e:d.atom with
 |some u =>
  have ev:=h.at_ e;subst ev;cases e':d'.atom with
  |some u'=>exact .inl (jat e ((h'.at_ e')▸e'))
  |none=>obtain⟨a,ea⟩:=h'.ref e';subst ea;exact(j1h e).elim
 |none =>
  cases e':d'.atom with
  |some u'=>have ev:=h'.at_ e';subst ev;obtain⟨a,ea⟩:=h.ref e;subst ea;exact(j1h e').elim
  |none =>
   cases d with
   |tup ds =>
    obtain⟨a,xs,ea,sq,l⟩:=h;cases d' with
    |tup ds' =>obtain⟨a',ys,eb,sq',l'⟩:=h';rw[ea]at eb;cases eb;rw[I.tuple_inj sq' sq]at l';exact .inr ⟨ds,ds',xs,.inl ⟨rfl,rfl⟩,l,l'⟩
    |lst ds'=>obtain⟨a',ys,eb,sq',l'⟩:=h';rw[ea]at eb;cases eb;exact(j0h I sq sq').elim
    |dct _ _=>simp[D.dep]at hd'
    |sct _=>simp[D.dep]at hd'
    |fn _ _=>simp[D.dep]at hd'
    |_=>cases e'
   |lst ds =>
    obtain⟨a,xs,ea,sq,l⟩:=h;cases d' with
    |lst ds' =>obtain⟨a',ys,eb,sq',l'⟩:=h';rw[ea]at eb;cases eb;rw[I.list_inj sq' sq]at l';exact .inr ⟨ds,ds',xs,.inr ⟨rfl,rfl⟩,l,l'⟩
    |tup ds'=>obtain⟨a',ys,eb,sq',l'⟩:=h';rw[ea]at eb;cases eb;exact(j0h I sq' sq).elim
    |dct _ _=>simp[D.dep]at hd'
    |sct _=>simp[D.dep]at hd'
    |fn _ _=>simp[D.dep]at hd'
    |_=>cases e'
   |dct _ _=>simp[D.dep]at hd
   |sct _=>simp[D.dep]at hd
   |fn _ _=>simp[D.dep]at hd
   |_=>cases e
theorem j9s{n:Nat}(ih:∀{d d':D}{v:V},d.dep<=n->d.dep<10000->d'.dep<10000->Enc X.K H d v->Enc X.K H d' v->d=d'):∀{ds ds':List D}{xs:List V},D.depL ds<=n->D.depL ds<10000->D.depL ds'<10000->j6 X.K H ds xs->j6 X.K H ds' xs->ds=ds'
 |[],[],_,_,_,_,_,_=>rfl
 |[],_::_,_,_,_,_,h,⟨x,r,e,_⟩=>by cases h;cases e
 |_::_,[],_,_,_,_,⟨x,r,e,_⟩,h=>by cases h;cases e
 |d::ds,d'::ds',_,m,n1,n2,⟨x,r,e,h,l⟩,⟨x',r',e',h',l'⟩=>by subst e;cases e';rw[D.depL]at m n1 n2;rw[ih nofun nofun nofun h h',j9s ih nofun nofun nofun l l']
theorem j9r(I:Inv X pins σ H s):∀(n:Nat){d d':D}{v:V},d.dep<=n->d.dep<10000->d'.dep<10000->Enc X.K H d v->Enc X.K H d' v->d=d'
 |0,d,d',v,hn,hd,hd',h,h'=>by
  rcases jhv I hd hd' h h' with e|⟨ds,ds',xs,⟨e,_⟩|⟨e,_⟩,_⟩
  .exact e
  .subst e;simp[D.dep]at hn
  .subst e;simp[D.dep]at hn
 |n+1,d,d',v,hn,hd,hd',h,h'=>by
  rcases jhv I hd hd' h h' with e|⟨ds,ds',xs,⟨e,e'⟩|⟨e,e'⟩,l,l'⟩
  .exact e
  .subst e e';simp only[D.dep]at hn hd hd';rw[j9s (λa b c=>j9r I n a b c) nofun nofun nofun l l']
  .subst e e';simp only[D.dep]at hn hd hd';rw[j9s (λa b c=>j9r I n a b c) nofun nofun nofun l l']
theorem Enc.inj(I:Inv X pins σ H s){d d':D}{v:V}(hd:d.dep<10000)(hd':d'.dep<10000)(h:Enc X.K H d v)(h':Enc X.K H d' v):d=d':=j9r I d.dep (X7 _) hd hd' h h'
end
section
variable{X:Cx}{pins:k7v}{σ:St}{H:Hp}{s:ar}
theorem D.depL_le:∀{ds:List D}{j:Nat}{d:D},ds[j]?=aa d->d.dep<=D.depL ds
 |[],_,_,h=>by simp at h
 |x::xs,0,d,h=>by simp at h;subst h;simp[D.depL];omega
 |x::xs,j+1,d,h=>by have:=D.depL_le (ds:=xs) (j:=j) (d:=d) (by simpa using h);simp[D.depL];omega
theorem Yk(I:Inv X pins σ H s):∀(n:Nat)(A:aI){d d':D}{v v':V}{u u':ak},d.dep<=n->A.units+n<bG->d'.dep<10000->Enc X.K H d v->RelV v u->Enc X.K H d' v'->RelV v' u' ->
  g9 A s u u' (deq d d')/\dY A s u u' (deq d d')
 |0,A,d,d',v,v',u,u',hn,hu,nd,en,r,en',r'=>by
  have hu0:A.units<bG:=by omega
  cases d with
  |tup l=>simp[D.dep]at hn
  |lst l=>simp[D.dep]at hn
  |dct ks l=>simp[D.dep]at hn
  |sct k=>simp[D.dep]at hn
  |fn x l=>simp[D.dep]at hn
  |non =>
   cases(show v=.non from en);cases(show u=b0 from r);cases d' with
   |dct ks' l'=>simp[D.dep]at nd
   |sct k'=>simp[D.dep]at nd
   |fn x' l'=>simp[D.dep]at nd
   |non=>cases(show v'=.non from en');cases(show u'=b0 from r');exact⟨.none_none,.same _⟩
   |bl k=>cases(show v'=.bl k from en');cases(show u'=bp k from r');exact⟨.none_bool _,.none_bool _⟩
   |int k=>cases(show v'=.int k from en');obtain⟨t,q⟩:=(show ∃t,u'=bu k t from r');subst q;exact⟨.none_int _ _,.none_int _ _⟩
   |str k=>cases(show v'=.str k from en');obtain⟨t,q⟩:=(show ∃t,u'=b9 k t from r');subst q;exact⟨.none_str _ _,.none_str _ _⟩
   |tup l=>obtain⟨a,xs,e,sq,_⟩:=en';subst e;cases(show u'=aJ a from r');obtain⟨_,_,q,_⟩:=I.tuple sq;exact⟨.none_tuple q hu0,.none_tuple q hu0⟩
   |lst l=>obtain⟨a,xs,e,sq,_⟩:=en';subst e;cases(show u'=aJ a from r');obtain⟨_,_,q,_⟩:=I.list sq;exact⟨.none_list q.isList hu0,.none_list q.isList hu0⟩
  |bl b =>
   cases(show v=.bl b from en);cases(show u=bp b from r);cases d' with
   |dct ks' l'=>simp[D.dep]at nd
   |sct k'=>simp[D.dep]at nd
   |fn x' l'=>simp[D.dep]at nd
   |non=>cases(show v'=.non from en');cases(show u'=b0 from r');exact⟨.bool_none _,.bool_none _⟩
   |bl k=>cases(show v'=.bl k from en');cases(show u'=bp k from r');exact⟨.bool_bool _ _,.bool_bool _ _⟩
   |int k=>cases(show v'=.int k from en');obtain⟨t,q⟩:=(show ∃t,u'=bu k t from r');subst q;exact⟨.bool_int _ _ _,.bool_int _ _ _⟩
   |str k=>cases(show v'=.str k from en');obtain⟨t,q⟩:=(show ∃t,u'=b9 k t from r');subst q;exact⟨.bool_str _ _ _,.bool_str _ _ _⟩
   |tup l=>obtain⟨a,xs,e,sq,_⟩:=en';subst e;cases(show u'=aJ a from r');obtain⟨_,_,q,_⟩:=I.tuple sq;exact⟨.bool_tuple _ q hu0,.bool_tuple _ q hu0⟩
   |lst l=>obtain⟨a,xs,e,sq,_⟩:=en';subst e;cases(show u'=aJ a from r');obtain⟨_,_,q,_⟩:=I.list sq;exact⟨.bool_list _ q.isList hu0,.bool_list _ q.isList hu0⟩
  |int b =>
   cases(show v=.int b from en);obtain⟨tk,q0⟩:=(show ∃t,u=bu b t from r);subst q0;cases d' with
   |dct ks' l'=>simp[D.dep]at nd
   |sct k'=>simp[D.dep]at nd
   |fn x' l'=>simp[D.dep]at nd
   |non=>cases(show v'=.non from en');cases(show u'=b0 from r');exact⟨.int_none _ _,.int_none _ _⟩
   |bl k=>cases(show v'=.bl k from en');cases(show u'=bp k from r');exact⟨.int_bool _ _ _,.int_bool _ _ _⟩
   |int k=>cases(show v'=.int k from en');obtain⟨t,q⟩:=(show ∃t,u'=bu k t from r');subst q;exact⟨.int_int _ _ _ _,.int_int _ _ _ _⟩
   |str k=>cases(show v'=.str k from en');obtain⟨t,q⟩:=(show ∃t,u'=b9 k t from r');subst q;exact⟨.int_str _ _ _ _,.int_str _ _ _ _⟩
   |tup l=>obtain⟨a,xs,e,sq,_⟩:=en';subst e;cases(show u'=aJ a from r');obtain⟨_,_,q,_⟩:=I.tuple sq;exact⟨.int_tuple _ _ q hu0,.int_tuple _ _ q hu0⟩
   |lst l=>obtain⟨a,xs,e,sq,_⟩:=en';subst e;cases(show u'=aJ a from r');obtain⟨_,_,q,_⟩:=I.list sq;exact⟨.int_list _ _ q.isList hu0,.int_list _ _ q.isList hu0⟩
  |str b =>
   cases(show v=.str b from en);obtain⟨tk,q0⟩:=(show ∃t,u=b9 b t from r);subst q0;cases d' with
   |dct ks' l'=>simp[D.dep]at nd
   |sct k'=>simp[D.dep]at nd
   |fn x' l'=>simp[D.dep]at nd
   |non=>cases(show v'=.non from en');cases(show u'=b0 from r');exact⟨.str_none _ _,.str_none _ _⟩
   |bl k=>cases(show v'=.bl k from en');cases(show u'=bp k from r');exact⟨.str_bool _ _ _,.str_bool _ _ _⟩
   |int k=>cases(show v'=.int k from en');obtain⟨t,q⟩:=(show ∃t,u'=bu k t from r');subst q;exact⟨.str_int _ _ _ _,.str_int _ _ _ _⟩
   |str k=>cases(show v'=.str k from en');obtain⟨t,q⟩:=(show ∃t,u'=b9 k t from r');subst q;exact⟨.str_str _ _ _ _,.str_str _ _ _ _⟩
   |tup l=>obtain⟨a,xs,e,sq,_⟩:=en';subst e;cases(show u'=aJ a from r');obtain⟨_,_,q,_⟩:=I.tuple sq;exact⟨.str_tuple _ _ q hu0,.str_tuple _ _ q hu0⟩
   |lst l=>obtain⟨a,xs,e,sq,_⟩:=en';subst e;cases(show u'=aJ a from r');obtain⟨_,_,q,_⟩:=I.list sq;exact⟨.str_list _ _ q.isList hu0,.str_list _ _ q.isList hu0⟩
 |n+1,A,d,d',v,v',u,u',hn,hu,nd,en,r,en',r'=>by
  have hu0:A.units<bG:=by omega
  have hu1:A.in1.units+n<bG:=by show A.units+1+n<bG;omega
  have low:d.dep<=n->g9 A s u u' (deq d d')/\dY A s u u' (deq d d'):=λh=>Yk I n A h nofun nd en r en' r';cases d with
  |non=>exact low (by simp[D.dep])
  |bl b=>exact low (by simp[D.dep])
  |int b=>exact low (by simp[D.dep])
  |str b=>exact low (by simp[D.dep])
  |dct ks l=>exfalso;have:(9900:Nat)=bG:=rfl;simp only[D.dep]at hn;omega
  |sct k=>exfalso;have:(9900:Nat)=bG:=rfl;simp only[D.dep]at hn;omega
  |fn x l=>exfalso;have:(9900:Nat)=bG:=rfl;simp only[D.dep]at hn;omega
  |tup ds =>
   have hd:D.depL ds<=n:=by simp[D.dep]at hn;omega
   obtain⟨a,xs,e,sq,l⟩:=id en;subst e;cases(show u=aJ a from r);obtain⟨us,rv,q,_⟩:=I.tuple sq;cases d' with
   |dct ks' l'=>simp[D.dep]at nd
   |sct k'=>simp[D.dep]at nd
   |fn x' l'=>simp[D.dep]at nd
   |non=>cases(show v'=.non from en');cases(show u'=b0 from r');exact⟨.tuple_none q hu0,.tuple_none q hu0⟩
   |bl k=>cases(show v'=.bl k from en');cases(show u'=bp k from r');exact⟨.tuple_bool _ q hu0,.tuple_bool _ q hu0⟩
   |int k=>cases(show v'=.int k from en');obtain⟨t,q'⟩:=(show ∃t,u'=bu k t from r');subst q';exact⟨.tuple_int _ _ q hu0,.tuple_int _ _ q hu0⟩
   |str k=>cases(show v'=.str k from en');obtain⟨t,q'⟩:=(show ∃t,u'=b9 k t from r');subst q';exact⟨.tuple_str _ _ q hu0,.tuple_str _ _ q hu0⟩
   |lst ds'=>obtain⟨a',ys,e,sq',_⟩:=en';subst e;cases(show u'=aJ a' from r');obtain⟨_,_,q',_⟩:=I.list sq';exact⟨.tuple_list q q'.isList hu0,.tuple_list q q'.isList hu0⟩
   |tup ds' =>
    obtain⟨a',ys,e,sq',l'⟩:=id en';subst e;cases(show u'=aJ a' from r');obtain⟨us',rv',q',_⟩:=I.tuple sq';have e1:us.length=ds.length:=by rw[<-rv.length,l.length]
    have e2:us'.length=ds'.length:=by rw[<-rv'.length,l'.length]
    have main:g9 A s (.ref a) (.ref a') (deq (.tup ds) (.tup ds')):=by
     have item:∀(j:Nat)(h1:j<us.toArray.size)(h2:j<us'.toArray.size),dY A.in1 s us.toArray[j] us'.toArray[j] (deq (ds.getD j .non) (ds'.getD j .non)):=λj h1 h2=>by
      have k1:j<ds.length:=by rw[<-e1];simpa using h1
      have k2:j<ds'.length:=by rw[<-e2];simpa using h2
      obtain⟨x,hx,ex⟩:=l.get (kh k1);obtain⟨y,hy,ey⟩:=l'.get (kh k2);obtain⟨w1,hw1,rw1⟩:=rv.get hx;obtain⟨w2,hw2,rw2⟩:=rv'.get hy;have g1:us.toArray[j]=w1:=by simp at h1 ⊢;rw[kh (by simpa using h1)]at hw1;exact aE hw1
      have g2:us'.toArray[j]=w2:=by simp at h2 ⊢;rw[kh (by simpa using h2)]at hw2;exact aE hw2
      rw[g1,g2,kj,kj,kh k1,kh k2];exact(Yk I n A.in1 (Xg (D.depL_le (kh k1)) hd) hu1 (dB (D.depL_le (kh k2)) (by simp only[D.dep]at nd;omega)) ex rw1 ey rw2).2
     have z:=SeqAt.RcAt.tuples (A:=A) (s:=s) q q' hu0 (e:=λj=>deq (ds.getD j .non) (ds'.getD j .non)) item;have ev:((aB (min us.toArray.size us'.toArray.size)).all (λj=>deq (ds.getD j .non) (ds'.getD j .non))&&us.toArray.size==us'.toArray.size)=deq (.tup ds) (.tup ds'):=by
      simp only[j10,X5,e1,e2];by_cases hl:ds.length=ds'.length
      .rw[hl,kS,beq_self_eq_true,ka,<-hl];exact Zv hl λj x y hx hy=>by rw[kj,kj,hx,hy];rfl
      .rw[U4 hl,beq_false_of_ne hl,gq]
     rw[ev]at z;exact z
    refine⟨main,?_⟩;by_cases ea:a=a'
    .subst ea;have e9:(9900:Nat)=bG:=rfl;rw[Enc.inj I nofun nd en en',Nb _ nd];exact .same _
    .exact .of_refs ea main
  |lst ds =>
   have hd:D.depL ds<=n:=by simp[D.dep]at hn;omega
   obtain⟨a,xs,e,sq,l⟩:=id en;subst e;cases(show u=aJ a from r);obtain⟨us,rv,q0,_⟩:=I.list sq;have q:=q0.isList;cases d' with
   |dct ks' l'=>simp[D.dep]at nd
   |sct k'=>simp[D.dep]at nd
   |fn x' l'=>simp[D.dep]at nd
   |non=>cases(show v'=.non from en');cases(show u'=b0 from r');exact⟨.list_none q hu0,.list_none q hu0⟩
   |bl k=>cases(show v'=.bl k from en');cases(show u'=bp k from r');exact⟨.list_bool _ q hu0,.list_bool _ q hu0⟩
   |int k=>cases(show v'=.int k from en');obtain⟨t,q'⟩:=(show ∃t,u'=bu k t from r');subst q';exact⟨.list_int _ _ q hu0,.list_int _ _ q hu0⟩
   |str k=>cases(show v'=.str k from en');obtain⟨t,q'⟩:=(show ∃t,u'=b9 k t from r');subst q';exact⟨.list_str _ _ q hu0,.list_str _ _ q hu0⟩
   |tup ds'=>obtain⟨a',ys,e,sq',_⟩:=en';subst e;cases(show u'=aJ a' from r');obtain⟨_,_,q',_⟩:=I.tuple sq';exact⟨.list_tuple q q' hu0,.list_tuple q q' hu0⟩
   |lst ds' =>
    obtain⟨a',ys,e,sq',l'⟩:=id en';subst e;cases(show u'=aJ a' from r');obtain⟨us',rv',q0',_⟩:=I.list sq';have q':=q0'.isList;have e1:us.length=ds.length:=by rw[<-rv.length,l.length]
    have e2:us'.length=ds'.length:=by rw[<-rv'.length,l'.length]
    have main:g9 A s (.ref a) (.ref a') (deq (.lst ds) (.lst ds')):=by
     have item:∀(j:Nat)(h1:j<us.toArray.size)(h2:j<us'.toArray.size),dY A.in1 s us.toArray[j] us'.toArray[j] (deq (ds.getD j .non) (ds'.getD j .non)):=λj h1 h2=>by
      have k1:j<ds.length:=by rw[<-e1];simpa using h1
      have k2:j<ds'.length:=by rw[<-e2];simpa using h2
      obtain⟨x,hx,ex⟩:=l.get (kh k1);obtain⟨y,hy,ey⟩:=l'.get (kh k2);obtain⟨w1,hw1,rw1⟩:=rv.get hx;obtain⟨w2,hw2,rw2⟩:=rv'.get hy;have g1:us.toArray[j]=w1:=by simp at h1 ⊢;rw[kh (by simpa using h1)]at hw1;exact aE hw1
      have g2:us'.toArray[j]=w2:=by simp at h2 ⊢;rw[kh (by simpa using h2)]at hw2;exact aE hw2
      rw[g1,g2,kj,kj,kh k1,kh k2];exact(Yk I n A.in1 (Xg (D.depL_le (kh k1)) hd) hu1 (dB (D.depL_le (kh k2)) (by simp only[D.dep]at nd;omega)) ex rw1 ey rw2).2
     simp only[j12];by_cases hl:ds.length=ds'.length
     .have z:=SeqAt.RcAt.lists (A:=A) (s:=s) q q' (by simp[e1,e2,hl]) hu0 (e:=λj=>deq (ds.getD j .non) (ds'.getD j .non)) item;have ev:(aB us.toArray.size).all (λj=>deq (ds.getD j .non) (ds'.getD j .non))=J3 ds ds':=by rw[X5,e1];exact Zv hl λj x y hx hy=>by rw[kj,kj,hx,hy];rfl
      rw[ev]at z;exact z
     .rw[U4 hl];exact .lists_lengths q q' (by simp[e1,e2,hl]) hu0
    refine⟨main,?_⟩;by_cases ea:a=a'
    .subst ea;have e9:(9900:Nat)=bG:=rfl;rw[Enc.inj I nofun nd en en',Nb _ nd];exact .same _
    .exact .of_refs ea main
end
section
variable{X:Cx}{pins:k7v}{σ:St}{H:Hp}{s:ar}{A:aI}
theorem j9e(I:Inv X pins σ H s){n:Nat}{ds ds':List D}{xs ys:List V}{us us':List ak}(l:j6 X.K H ds xs)(rv:Vals xs us)(l':j6 X.K H ds' ys)(rv':Vals ys us')(hd:D.depL ds<=n)(hu:A.units+1+n<bG)(nd:D.depL ds'<10000) :
  ∀(j:Nat)(h1:j<us.toArray.size)(h2:j<us'.toArray.size),dY A.in1 s us.toArray[j] us'.toArray[j] (deq (ds.getD j .non) (ds'.getD j .non)):=λj h1 h2=>by
 have k1:j<ds.length:=by rw[<-l.length,rv.length];simpa using h1
 have k2:j<ds'.length:=by rw[<-l'.length,rv'.length];simpa using h2
 obtain⟨x,hx,ex⟩:=l.get (kh k1);obtain⟨y,hy,ey⟩:=l'.get (kh k2);obtain⟨w1,hw1,rw1⟩:=rv.get hx;obtain⟨w2,hw2,rw2⟩:=rv'.get hy;have g1:us.toArray[j]=w1:=by simp at h1 ⊢;rw[kh (by simpa using h1)]at hw1;exact aE hw1
 have g2:us'.toArray[j]=w2:=by simp at h2 ⊢;rw[kh (by simpa using h2)]at hw2;exact aE hw2
 rw[g1,g2,kj,kj,kh k1,kh k2];exact(Yk I n A.in1 (Xg (D.depL_le (kh k1)) hd) hu (dB (D.depL_le (kh k2)) nd) ex rw1 ey rw2).2
theorem j5r(hu:X.A.units+100<bG):OpR X (bo .Eq) (λx y H Q=>∃d d',Enc X.K H d x/\Enc X.K H d' y/\d.dep<=100/\d'.dep<10000/\Q (.bl (deq d d')) H):=by rintro pins s σ H x y v u Q I rx ry ⟨d,d',en,en',hd,nd,q⟩;exact(Yk I 100 X.A hd hu nd en rx en' ry).1 X.prog X.w X.xe _ ⟨.bl (deq d d'),H,I,rfl,q⟩
theorem j5p(hu:X.A.units+100<bG):OpR X (bo .NotEq) (λx y H Q=>∃ds ds' k,Enc X.K H (D.seq k ds) x/\Enc X.K H (D.seq k ds') y/\D.depL ds<=98/\D.depL ds'<10000/\Q (.bl (!J3 ds ds')) H):=by
 rintro pins s σ H x y v u Q I rx ry ⟨ds,ds',k,en,en',hd,nd,q⟩;have h0:X.A.units<bG:=by omega
 obtain⟨t,xs,e,sq,l⟩:=Q6 en;obtain⟨t',ys,e',sq',l'⟩:=Q6 en';subst e e';cases rx;cases ry;obtain⟨us,rv,qs,_⟩:=I.side sq;obtain⟨us',rv',qs',_⟩:=I.side sq';have e1:us.length=ds.length:=by rw[<-rv.length,l.length]
 have e2:us'.length=ds'.length:=by rw[<-rv'.length,l'.length]
 have item:=j9e (A:=X.A) I l rv l' rv' hd nofun nd;unfold jf at qs qs';cases k with
 |true =>
  rw[if_pos rfl]at qs qs';by_cases hl:ds.length=ds'.length
  .have z:=SeqAt.RcNeAt.lists (A:=X.A) (s:=s) qs qs' (by simp[e1,e2,hl]) h0 (e:=λj=>deq (ds.getD j .non) (ds'.getD j .non)) item;have ev:(aB us.toArray.size).all (λj=>deq (ds.getD j .non) (ds'.getD j .non))=J3 ds ds':=by rw[X5,e1];exact Zv hl λj x y hx hy=>by rw[kj,kj,hx,hy];rfl
   rw[ev]at z;exact z X.prog X.w X.xe _ ⟨.bl (!J3 ds ds'),H,I,rfl,q⟩
  .have z:=SeqAt.RcNeAt.lists_lengths (A:=X.A) (s:=s) qs qs' (by simp[e1,e2,hl]) h0;rw[U4 hl]at q;exact z X.prog X.w X.xe _ ⟨.bl af,H,I,rfl,q⟩
 |false =>
  rw[if_neg xm]at qs qs';have z:=SeqAt.RcNeAt.tuples (A:=X.A) (s:=s) qs qs' h0 (e:=λj=>deq (ds.getD j .non) (ds'.getD j .non)) item;have ev:((aB (min us.toArray.size us'.toArray.size)).all (λj=>deq (ds.getD j .non) (ds'.getD j .non))&&us.toArray.size==us'.toArray.size)=J3 ds ds':=by
   simp only[X5,e1,e2];by_cases hl:ds.length=ds'.length
   .rw[hl,kS,beq_self_eq_true,ka,<-hl];exact Zv hl λj x y hx hy=>by rw[kj,kj,hx,hy];rfl
   .rw[U4 hl,beq_false_of_ne hl,gq]
  rw[ev]at z;exact z X.prog X.w X.xe _ ⟨.bl (!J3 ds ds'),H,I,rfl,q⟩
noncomputable def eqW(X:Cx)(H:Hp)(d:D)(y:ak):Bool:=@decide (∃e v,e.dep<10000/\Enc X.K H e v/\RelV v y/\deq e d=af) (dC _)
theorem j6l(I:Inv X pins σ H s){d e:D}{v:V}{y:ak}(he:e.dep<10000)(en:Enc X.K H e v)(r:RelV v y):eqW X H d y=deq e d:=by
 unfold eqW;cases h:deq e d with
 |true=>exact @decide_eq_true _ (dC _) ⟨e,v,he,en,r,h⟩
 |false =>refine @decide_eq_false _ (dC _) λ⟨e',v',he',en',r',h'⟩=>?_;rw[r'.inj r]at en';rw[Enc.inj I he' he en' en,h]at h';cases h'
theorem K3(I:Inv X pins σ H s){d:D}:∀{ds:List D}{xs:List V}{us:List ak},D.depL ds<10000->j6 X.K H ds xs->Vals xs us->us.any (eqW X H d)=ds.any λe=>deq e d
 |[],_,_,_,h,r=>by cases h;cases r;rfl
 |e::ds,_,_,hd,⟨x,r,eq,h,l⟩,rv=>by
  subst eq;rw[D.depL]at hd;cases rv with
  |cons a b=>rw[Tw,Tw,K3 I nofun l b,j6l I nofun h a]
theorem Lb(I:Inv X pins σ H s){d:D}{v:V}{u:ak}(en:Enc X.K H d v)(r:RelV v u)(nd:d.dep<10000){n:Nat}(hu:A.units+n<bG):∀{ds:List D}{xs:List V}{us:List ak},D.depL ds<=n->j6 X.K H ds xs->Vals xs us->∀y∈us,dY A s y u (eqW X H d y)
 |[],_,_,_,h,rv,y,hy=>by cases h;cases rv;cases hy
 |e::ds,_,_,hd,⟨x,r',eq,h,l⟩,rv,y,hy=>by
  subst eq;have hd':e.dep<=n/\D.depL ds<=n:=by simp[D.depL]at hd;omega
  cases rv with
  |cons a b =>
   rcases xn.mp hy with rfl|hy
   .have e9:(9900:Nat)=bG:=rfl;rw[j6l I nofun h a];exact(Yk I n A hd'.1 hu nd h a en r).2
   .exact Lb I en r nd hu hd'.2 l b y hy
theorem j5q(hu:X.A.units+100<bG):OpR X (bo .In) (λx y H Q=>∃d ds k,Enc X.K H d x/\Enc X.K H (D.seq k ds) y/\D.depL ds<=98/\d.dep<10000/\Q (.bl (ds.any λe=>deq e d)) H):=by
 rintro pins s σ H x y v u Q I rx ry ⟨d,ds,k,en,en',hd,nd,q⟩;obtain⟨t,xs,e,sq,l⟩:=Q6 en';subst e;cases ry;obtain⟨us,rv,qs,_⟩:=I.side sq;have me:=λy (hy:y∈us.toArray)=>Lb (A:=X.A.in1) I en rx nd (n:=98) (by show X.A.units+1+98<bG;omega) hd l rv y (by simpa using hy);have ev:us.toArray.any (eqW X H d)=ds.any λe=>deq e d:=by rw[jC];exact K3 I nofun l rv
 unfold jf at qs;cases k with
 |true=>rw[if_pos rfl]at qs;exact SeqAt.in_listAt (eqW X H d) qs me (by rw[ev];exact⟨.bl _,H,I,rfl,q⟩)
 |false=>rw[if_neg xm]at qs;exact SeqAt.in_tupleAt (eqW X H d) qs me (by rw[ev];exact⟨.bl _,H,I,rfl,q⟩)
theorem Kf(hu:X.A.units+100<bG):OpR X (bo .NotIn) (λx y H Q=>∃d ds k,Enc X.K H d x/\Enc X.K H (D.seq k ds) y/\D.depL ds<=98/\d.dep<10000/\Q (.bl (!ds.any λe=>deq e d)) H):=by
 rintro pins s σ H x y v u Q I rx ry ⟨d,ds,k,en,en',hd,nd,q⟩;obtain⟨t,xs,e,sq,l⟩:=Q6 en';subst e;cases ry;obtain⟨us,rv,qs,_⟩:=I.side sq;have me:=λy (hy:y∈us.toArray)=>Lb (A:=X.A.in1) I en rx nd (n:=98) (by show X.A.units+1+98<bG;omega) hd l rv y (by simpa using hy);have ev:us.toArray.any (eqW X H d)=ds.any λe=>deq e d:=by rw[jC];exact K3 I nofun l rv
 unfold jf at qs;cases k with
 |true=>rw[if_pos rfl]at qs;exact SeqAt.notIn_listAt (eqW X H d) qs me (by rw[ev];exact⟨.bl _,H,I,rfl,q⟩)
 |false=>rw[if_neg xm]at qs;exact SeqAt.notIn_tupleAt (eqW X H d) qs me (by rw[ev];exact⟨.bl _,H,I,rfl,q⟩)
theorem j8v:OpR X (bj .Add) (λx y H Q=>∃a b xs ys,x=.ref a/\y=.ref b/\SqT X.K H a xs/\SqT X.K H b ys/\xs.length+ys.length<=av /\
  (xs=[]->Q (.ref b) H)/\(xs≠[]->ys=[]->Q (.ref a) H)/\(xs≠[]->ys≠[]->∀p,H p=ah->Q (.ref p) (upd H p (.tup (xs++ys))))):=by
 rintro pins s σ H x y v u Q I rx ry ⟨a,b,xs,ys,e,e',sa,sb,hz,q1,q2,q3⟩;by_cases hx:xs=[]
 .subst e e' hx;cases rx;cases ry;obtain⟨us,ru,⟨⟨c1,d1,f1,g1⟩,h1,k1,n1,m1⟩,_⟩:=I.tuple sa;obtain⟨vs,rv,⟨⟨c2,d2,f2,g2⟩,h2,k2,n2,m2⟩,_⟩:=I.tuple sb;cases ru;have k1:c1=.type "tuple":=k1;have m1:f1=.seq ([]:List ak).toArray n1:=m1;have k2:c2=.type "tuple":=k2;have m2:f2=.seq vs.toArray n2:=m2;subst k1 m1 k2 m2;exact gf ⟨_,h1,rfl⟩ ⟨_,h2,rfl⟩ gx ip dR dF (du _ _)
   (tuple_addW0 a b ([]:List ak).toArray vs.toArray n1 n2 d1 d2 g1 g2 (by simp)) ⟨h1,h2,⟨.ref b,H,I,rfl,q1 rfl⟩⟩
 .exact jde pins s σ H x y v u Q I rx ry ⟨a,b,xs,ys,e,e',sa,sb,hx,hz,q2 hx,q3 hx⟩
theorem all_range:∀bs:List Bool,(aB bs.length).all (λi=>(bs[i]?).getD af)=bs.all id
 |[]=>rfl
 |b::bs=>by rw[xq,cP,gI,gZ,gI,<-all_range bs];rfl
theorem j1x (hc:X.calm=af):Jy X (.builtin "all") (λxs H Q=>∃(l:ao)(bs:List Bool),xs=[.ref l]/\SqL X.K H l (bs.map V.bl)/\Q (.bl (bs.all id)) H):=by
 rintro pins s σ H xs us Q I r ⟨l,bs,e,sq,q⟩;subst e;obtain⟨u,eu,ru⟩:=vals1 r;subst eu;cases ru;obtain⟨its,rv,pl,_⟩:=I.list sq;have hlt:l<s.heap.objs.size:=by obtain⟨_,_,e,_⟩:=pl;exact xr e
 have hl:its.length=bs.length:=by rw[<-rv.length,xg]
 refine call_all_walk (cy pl.isList ⟨s.heap.objs.size,[s.heap.objs.size,l],[s.heap.objs.size],its.toArray.size,_,_,λi=>(bs[i]?).getD af,rfl,Walks.list (A:=X.A.in1) (I.ok.hd hc) _ _ (Xd hlt) its.toArray,⟨⟨_,X3 _ rfl,rfl,rfl⟩,pl.isList.push _⟩,?_,λh' tk kp=>?_⟩)
 .intro i v s' Q' E' hv hq;have hi:i<its.length:=by have:=Array.getElem?_eq_some_iff.mp hv;obtain⟨h,_⟩:=this;simpa using h
  have hb:i<bs.length:=by omega
  obtain⟨w1,hw,rw1⟩:=rv.get (x:=.bl bs[i]) (i:=i) (by rw[xu,kh hb];rfl);have:its.toArray[i]?=aa w1:=by simpa using hw
  rw[this]at hv;cases hv;cases rw1;simp only[kh hb,dQ]at hq;exact bM hq
 .have ev:(aB its.toArray.size).all (λi=>(bs[i]?).getD af)=bs.all id:=by rw[X5,hl];exact all_range bs
  rw[ev];refine⟨.bl _,H,I.kept (t':=tk) λb o e=>kp b o ?_ (km _ e),rfl,q⟩;intro z;rw[X4.mp z]at e;exact Pj _ (xr e)
end
section
variable{X:Cx}{ρ:Rho}{a b e:au}{d d':D}{ds ds':List D}{i j:Int}{pos p p1 p2:aR}{k:Nat}{x:aq}{P:Po}
theorem DE.eqD(hu:X.A.units+100<bG)(ha:DT X ρ a d)(hb:DT X ρ b d')(hd:d.dep<=100)(nd:d'.dep<10000):DE X ρ (.Compare a [.Eq] [b] pos) (.bl (deq d d')):=λσ H Q R q =>(Jz (j5r hu) peS peS (zx _)).to (ha σ H _ R λv H1 g1 e1=>hb σ H1 _ (R.grow g1) λu H2 g2 e2=>⟨d,d',e1.mono g2,e2,hd,nd,q _ H2 (g1.trans g2) rfl⟩)
theorem DB.eqD(hu:X.A.units+100<bG)(ha:DT X ρ a d)(hb:DT X ρ b d')(hd:d.dep<=100)(nd:d'.dep<10000):DB X ρ (.Compare a [.Eq] [b] pos) (deq d d'):=λσ H Q R q =>(Jg (j5r hu) peS peS (zx _)).to (ha σ H _ R λv H1 g1 e1=>hb σ H1 _ (R.grow g1) λu H2 g2 e2=>⟨d,d',e1.mono g2,e2,hd,nd,_,rfl,q H2 (g1.trans g2)⟩)
theorem DB.neD(s:Bool)(hu:X.A.units+100<bG)(ha:DT X ρ a (D.seq s ds))(hb:DT X ρ b (D.seq s ds'))(hd:D.depL ds<=98)(nd:D.depL ds'<10000):DB X ρ (.Compare a [.NotEq] [b] pos) (!J3 ds ds'):=λσ H Q R q =>(Jg (j5p hu) peS peS (zx _)).to (ha σ H _ R λv H1 g1 e1=>hb σ H1 _ (R.grow g1) λu H2 g2 e2=>⟨ds,ds',s,e1.mono g2,e2,hd,nd,_,rfl,q H2 (g1.trans g2)⟩)
theorem DB.notIn(s:Bool)(hu:X.A.units+100<bG)(ha:DT X ρ a d)(hb:DT X ρ b (D.seq s ds))(hd:D.depL ds<=98)(nd:d.dep<10000)(hm:aP .NotIn b=ae:=by with_unfolding_all rfl):DB X ρ (.Compare a [.NotIn] [b] pos) (!ds.any λe=>deq e d):=λσ H Q R q =>(Jg (Kf hu) peS peS hm).to (ha σ H _ R λv H1 g1 e1=>hb σ H1 _ (R.grow g1) λu H2 g2 e2=>⟨d,ds,s,e1.mono g2,e2,hd,nd,_,rfl,q H2 (g1.trans g2)⟩)
theorem DB.in(s:Bool)(hu:X.A.units+100<bG)(ha:DT X ρ a d)(hb:DT X ρ b (D.seq s ds))(hd:D.depL ds<=98)(nd:d.dep<10000)(hm:aP .In b=ae:=by with_unfolding_all rfl):DB X ρ (.Compare a [.In] [b] pos) (ds.any λe=>deq e d):=λσ H Q R q =>(Jg (j5q hu) peS peS hm).to (ha σ H _ R λv H1 g1 e1=>hb σ H1 _ (R.grow g1) λu H2 g2 e2=>⟨d,ds,s,e1.mono g2,e2,hd,nd,_,rfl,q H2 (g1.trans g2)⟩)
theorem DE.min (ha:DT X ρ a (.int i)) (hb:DT X ρ b (.int j)) (hm:X.mg "min" = ah) (hc:X.calm=af:=by rfl) (hg:Gl X "min":=by rfl) (hs:aj [a,b] X.env=(ae,aD a X.env)::aj [b] X.env:=by rfl) (hs2:aj [b] X.env=(ae,aD b X.env)::aj [] X.env:=by rfl)
  (hpl:(aQ pos (aj [b] X.env)).any (·.1)=ae:=by rfl):DE X ρ (.Call (.Name "min" p) [a,b] [] pos) (.int (if j<i then j else i)):=λσ H Q R q =>
 (vh (j79 hc) hg hm boot_min (jc peS (jc peS qb hs2) hs) (by decide) (by decide) hs hpl).to (ha σ H _ R λv H1 g1 e1=>hb σ H1 _ (R.grow g1) λu H2 g2 e2=>⟨i,j,by rw[show v=.int i from e1,show u=.int j from e2],q _ H2 (g1.trans g2) rfl⟩)
theorem N8{K:k7t}{H:Hp}:∀{bs:List Bool}{xs:List V},j6 K H (bs.map D.bl) xs->xs=bs.map V.bl
 |[],_,h=>h
 |b::bs,_,⟨x,r,e,h,l⟩=>by subst e;cases(show x=.bl b from h);rw[N8 l];rfl
theorem DE.all {bs:List Bool} (ha:DT X ρ a (.lst (bs.map D.bl))) (hm:X.mg "all" = ah) (hc:X.calm=af:=by rfl) (hg:Gl X "all":=by rfl) (hs:aj [a] X.env=[(ae,aD a X.env)]:=by rfl):DE X ρ (.Call (.Name "all" p) [a] [] pos) (.bl (bs.all id)):=λσ H Q R q =>(vh (j1x hc) hg hm boot_all (jc peS qb hs) (by decide) (by decide) hs).to (ha σ H _ R λv H1 g1 ⟨l,xs,e,sq,en⟩=>⟨l,bs,by rw[e],by rw[N8 en]at sq;exact sq,q _ H1 g1 rfl⟩)
def jfu(X:Cx)(e:Option au):TO:=λσ H Q=>∀pins s,Inv X pins σ H s->ay (aC X.prog X.w) X.A (evalPart e X.env) (λu s'=>∃o H',Inv X pins σ H' s'/\fq u o/\Q o H') X.xe s
theorem poS{e:Option au}:PO X e (jfu X e):=λpins s σ H Q I h=>h pins s I
def DP(X:Cx)(ρ:Rho)(e:Option au)(o:Option Int):Prop:=∀σ H Q,Rep X.K ρ σ H->(∀H',j4 H H'->Q o H')->jfu X e σ H Q
theorem DP.none:DP X ρ ah ah:=λσ H Q R q pins s I=>jd4 pins s σ H Q I (q H (j4.refl H))
theorem DP.some(h:DT X ρ e (.int i)):DP X ρ (aa e) (aa i):=λσ H Q R q pins s I=>jd3 peS pins s σ H Q I (h σ H _ R λv H1 g1 e1=>⟨i,e1,q H1 g1⟩)
variable{lo hi:Option au}{l u:Option Int}
end
def jfm(K:k7t)(S:List D->List D->D->List D->Prop):Sp:=λvs H Q _=>∃(a:ao)(ds l:List D)(d:D)(l':List D)(ws xs:List V),vs=ws++[.ref a]/\TabOk K H/\H a=aa (.lst xs)/\j6 K (del H [a]) l xs/\j6 K (del H [a]) ds ws/\S ds l d l' /\
 ∀v H' ys,j4 (del H [a]) (del H' [a])->H' a=aa (.lst ys)->j6 K (del H' [a]) l' ys->Enc K (del H' [a]) d v->Q v H'
section
variable{X:Cx}{ρ ρ1:Rho}{e e1 e2 e3 c:au}{st:aS}{rest sa:List aS}{a:ao}{d d1 d2 d3:D}{l l':List D}{k i:Nat}{x y f:aq}{p p1 p2 p3 p4 pos:aR}
end
noncomputable def j5j(eN n:Int):Int:=if 0<n then n%60 else(eN*48271+11)%2147483647/16
noncomputable def Bt(eN n:Int):Int:=if 0<n then n%60/6%2 else(eN*48271+11)%2147483647/128%2
noncomputable def Oc(n:Int):Int:=if 0<n then n/60 else n
noncomputable def Uh:Nat->List aq->Int->Int->D×Int
 |0,_,eN,n=>(.tup [.str "tell",.int (Bt eN n)],Oc n)
 |k+1,ws,eN,n=>match ws[(j5j eN n%ws.length).toNat]? with
  |none=>(.tup [.str "tell",.int (Bt eN n)],Oc n)
  |some y=>if j5j eN n%6=0 then(.tup [.str "tell",.int (Bt eN n)],Oc n)
   else(.tup [.str "ask",.str y,(Uh k (ws.filter λz=>!(z==y)) ((eN*48271+11)%2147483647*3+1) (Oc n)).1,
     (Uh k (ws.filter λz=>!(z==y)) ((eN*48271+11)%2147483647*5+2) (Uh k (ws.filter λz=>!(z==y)) ((eN*48271+11)%2147483647*3+1) (Oc n)).2).1],
    (Uh k (ws.filter λz=>!(z==y)) ((eN*48271+11)%2147483647*5+2) (Uh k (ws.filter λz=>!(z==y)) ((eN*48271+11)%2147483647*3+1) (Oc n)).2).2)
def jb6(ds l:List D)(d:D)(l':List D):Prop:=∃(ws:List aq)(eN n:Int)(k:Nat),ds=[.lst (ws.map D.str),.int eN,.int k]/\l=[.int n]/\k<=5/\ws.length<=60/\d=(Uh k ws eN n).1/\l'=[.int (Uh k ws eN n).2]
section
variable{P:az}{w:aF}{K:k7t}{mg:k7w}{base:aH}{x qual:aq}{st:aS}{f:ao}{fd:aN}{N ps:List aq}{k:Nat}
end
def Fz(o:Option HO):Prop:=(∃xs,o=aa (.lst xs))\/∃oc v,o=aa (.frz oc (.own 0))/\oc.data=.cell v
theorem j6i{P:az}{w:aF}{K:k7t}{mg:k7w}{base:aH}{A0:aI}{outer:List dz}{s:ar}{H:Hp}{A:List ao}(e0:Env0 P w K mg base A0 outer s H)(hA:∀a∈A,Fz (H a)) :
  Env0 P w K mg base A0 outer s (del H A)/\∀(Q:VK)(E E':XK)(r:fm)(s':ar),CR CX0 outer P w (del H A) s (λv F=>(∀a∈A,F a=ah)->Q v (mrg A H F)) E r s'->CR CX0 outer P w H s Q E' r s':=by
 have nd:∀{b:ao},H b=ah->del H A b=ah:=λ{b} q=>by
  by_cases z:b∈A
  .exact vm z
  .rw[j5 z];exact q
 have out:∀{b:ao}{o:HO},H b=aa o->(∀ys,o≠.lst ys)->(∀oc v,o=.frz oc (.own 0)->oc.data≠.cell v)->b∉A:=λ{b o} q z z2 y=>by
  rcases hA b y with ⟨ys,e'⟩|⟨oc,v,e',d⟩
  .rw[q]at e';cases e';exact z ys rfl
  .rw[q]at e';cases e';exact z2 _ _ rfl d
 have e1:Env0 P w K mg base A0 outer s (del H A):=⟨e0.frames,e0.mod,λb o q=>⟨(e0.bs b o q).1,nd (e0.bs b o q).2⟩,e0.bsz,e0.funs,λb hb=>nd (e0.frf b hb),
  λa o q=>by
   obtain⟨_,q⟩:=of_del q
   exact jz.stay (e0.hok a o q) (λb u _ z=>z) (λb z=>by rw[j5 (out z (λ_ y=>by cases y) λ_ _ y=>by cases y)];exact z) (λb xs z=>by rw[j5 (out z (λ_ y=>by cases y) λ_ _ y=>by cases y)];exact z)
    (λb o ⟨vs,d⟩ z=>by rw[j5 (out z (λ_ y=>by cases y) λ_ _ y d'=>by cases y;rw[d]at d';cases d')];exact z),e0.bare⟩
 refine⟨e1,λQ E E' r s' hq=>?_⟩;cases r with
 |error e=>exact(show False from hq).elim
 |ok fl =>
  cases fl with
  |next=>exact(show False from hq).elim
  |brk=>exact(show False from hq).elim
  |cont=>exact(show False from hq).elim
  |ret u =>
   obtain⟨v,H',os,bare,un,hok',rel,q⟩:=(show CE outer P w (del H A) s _ u s' from hq)
   have kept:∀a∈A,∃o,s.heap.get? a=aa o/\s'.heap.get? a=aa o/\H' a=ah:=λa ha=>by
    have nf:a∉frs outer:=λy=>by have z:=e0.frf a y;rcases hA a ha with ⟨xs,e⟩|⟨oc,v,e,_⟩<;>(rw[z]at e;cases e)
    have ob:∃o,s.heap.get? a=aa o:=by
     rcases hA a ha with ⟨xs,e⟩|⟨oc,v,e,_⟩
     .obtain⟨_,its,n,_,z⟩:=(show jz P w H s.heap a (.lst xs)from e0.hok _ _ e);exact⟨_,z⟩
     .exact⟨_,(show jz P w H s.heap a (.frz oc (.own 0))from e0.hok _ _ e).1⟩
    obtain⟨o,z⟩:=ob;exact⟨_,z,un.keep a _ z (vm ha) nf (by simp),un.free a _ z (vm ha) (by simp)⟩
   have hF:∀a∈A,H' a=ah:=λa ha=>let ⟨_,_,_,z⟩:=kept a ha;z;have outF:∀{b:ao}{o:HO},H' b=aa o->b∉A:=λ{b o} e z=>by rw[hF b z]at e;cases e
   refine⟨v,mrg A H H',os,bare,?_,λa o e=>?_,rel,q hF⟩
   .exact{
     keep:=λb o e n=>un.keep b o e (nd n)
     slot:=λb o e n=>un.slot b o e (nd n)
     free:=λb o e n hx=>by
      by_cases z:b∈A
      .rw[Jl z];exact n
      .rw[jw z];exact un.free b o e (nd n) hx
     there:=un.there
     tups:=λb xs e=>by
      have z:=un.tups b xs (by rw[j5 (out e (λ_ y=>by cases y) λ_ _ y=>by cases y)];exact e)
      rw[jw (outF z)];exact z
     frzs:=λb o u e=>by
      by_cases y:b∈A
      .rw[Jl y];exact e
      .have z:=un.frzs b o u (by rw[j5 y];exact e)
       rw[jw y];exact z
     tbls:=λb ps e=>by
      obtain⟨more,z⟩:=un.tbls b ps (by rw[j5 (out e (λ_ y=>by cases y) λ_ _ y=>by cases y)];exact e)
      exact⟨more,by rw[jw (outF z)];exact z⟩ }
   .by_cases z:a∈A
    .rw[Jl z]at e;obtain⟨o',q1,q2,_⟩:=kept a z;rcases hA a z with ⟨xs,e'⟩|⟨oc,v,e',_⟩
     .rw[e']at e;cases e;obtain⟨hl,its,n,r,y⟩:=(show jz P w H s.heap a (.lst xs)from e0.hok _ _ e')
      rw[y]at q1;cases q1;exact⟨hl,its,n,r,q2⟩
     .rw[e']at e;cases e;have y:=(show jz P w H s.heap a (.frz oc (.own 0))from e0.hok _ _ e').1;rw[y]at q1;cases q1;exact⟨q2,_,q2⟩
    .rw[jw z]at e;refine jz.stay (hok' a o e) (λb u _ q=>q) (λb q=>?_) (λb xs q=>?_) (λb _ _ q=>?_)
     .rw[jw (outF q)];exact q
     .rw[jw (outF q)];exact q
     .rw[jw (outF q)];exact q
structure LamScope(N ps:List aq)(sc:bC):Prop where
 kind:sc.kind=.function
 co:sc.isCoroutine=ae
 gen:sc.isGenerator=ae
 nd:N.Nodup
 nm:N=Vn sc++ps
 lfr:∀x∈Vn sc,sc.names.lookup x=aa .free
 lps:∀x∈ps,sc.names.lookup x=aa .local
 nocell:∀y∈sc.names,y.2≠.cell
 cov:∀x,sc.names.lookup x=aa .free->x∈Vn sc
noncomputable def Up(P:az)(w:aF)(K:k7t)(mg:k7w)(base:aH)(N:List aq)(qual:aq)(scope:bC)(a:ao)(cd:ak)(cl:List (aq×ao))(A:aI)(outer:List dz)(s:ar)(H:Hp):Cx where
 prog:=P
 w:=w
 K:=K
 mg:=mg
 base:=base
 A:=A.deeper (W.envX qual scope s.heap.objs.size a cd cl)
 N:=N
 s₀:=s
 H₀:=H
 env:=W.envX qual scope s.heap.objs.size a cd cl
 outer:=outer
 stack:=W.envX qual scope s.heap.objs.size a cd cl::outer
 ex:=[]
 calm:=af
 fn:=λ_=>ae
 pn:=[]
 xe:=λ_ _=>False
def Qa(h:aH):List ao->List V->Prop
 |[],vs=>vs=[]
 |c::cs,vs=>∃v r u,vs=v::r/\h.IsCell c (aa u)/\RelV v u/\Qa h cs r
theorem Qa.get{h:aH}:∀{cs:List ao}{vs:List V}{i:Nat}{v:V},Qa h cs vs->vs[i]?=aa v->∃c u,cs[i]?=aa c/\h.IsCell c (aa u)/\RelV v u
 |[],_,i,v,e,q=>by cases e;simp at q
 |c::cs,_,0,v,⟨x,r,u,e,h1,h2,_⟩,q=>by subst e;simp at q;subst q;exact⟨c,u,rfl,h1,h2⟩
 |c::cs,_,i+1,v,⟨x,r,u,e,_,_,l⟩,q=>by subst e;obtain⟨c',u',z1,z2⟩:=Qa.get l (i:=i) (by simpa using q);exact⟨c',u',by simpa using z1,z2⟩
theorem Qa.length{h:aH}:∀{cs:List ao}{vs:List V},Qa h cs vs->vs.length=cs.length
 |[],_,e=>by cases e;rfl
 |c::cs,_,⟨x,r,u,e,_,_,l⟩=>by subst e;simp[l.length]
theorem Qa.all{h:aH}:∀{cs:List ao}{vs:List V},Qa h cs vs->∀c∈cs,∃v,h.IsCell c v
 |c::cs,_,⟨x,r,u,e,h1,_,l⟩,b,hb=>(xn.mp hb).elim (λz=>z▸⟨_,h1⟩) (l.all b)
theorem lookup_at{α:Type}:∀{l:List (aq×α)} {i:Nat} {p:aq×α},(l.map (·.1)).Nodup->l[i]?=aa p->l.lookup p.1=aa p.2
 |[],i,p,_,h=>by simp at h
 |q::l,0,p,_,h=>by simp at h;subst h;rw[Xi,beq_self_eq_true]
 |q::l,i+1,p,nd,h=>by rw[xx]at nd;rw[Tg]at h;have ne:(p.1==q.1)=ae:=beq_eq_false_iff_ne.mpr λz=>(Xl.mp nd).1 (z▸ir (Xv h));rw[Xi,ne];exact lookup_at (Xl.mp nd).2 h
theorem j40{ps:List aq}{us:List ak}{i:Nat}{p:aq}{u:ak}(nd:ps.Nodup)(hl:us.length=ps.length)(h1:ps[i]?=aa p)(h2:us[i]?=aa u):(ps.zip us).reverse.lookup p=aa u:=by
 have hm:(p,u)∈(ps.zip us).reverse:=List.mem_reverse.mpr (Xv (i:=i) (by rw[gz];exact⟨h1,h2⟩));have e:((ps.zip us).reverse.map (·.1))=ps.reverse:=by rw[List.map_reverse,List.map_fst_zip nofun]
 obtain⟨j,hj⟩:=List.mem_iff_getElem?.mp hm;exact lookup_at (by rw[e];exact(List.reverse_perm ps).nodup_iff.mpr nd) hj
section
variable{P:az}{w:aF}{K:k7t}{mg:k7w}{base:aH}{A:aI}{outer:List dz}{s:ar}{H:Hp}{x:aq}{a c:ao}{tx:Tx}{cl:List (aq×ao)}{pm ctv:ak}{cvs vs:List V}{us:List ak}{N ps:List aq}{k:Nat}{Q:VK}{E:XK}
theorem je5{h1:aH}{tk:Nat}(hh:A.handled=ah)(e0:Env0 P w K mg base A outer s H)(S:LamScope N ps tx.2.2)(hn:cl.map (·.1)=Vn tx.2.2)(nd:(cl.map (·.2)).Nodup)(hc:Qa s.heap (cl.map (·.2)) cvs)(hf:∀q∈cl.map (·.2),H q=ah)(rv:Vals vs us)(hl:vs.length=ps.length)
  (ns:h1.Ns s.heap.objs.size λy=>(ps.zip us).reverse.lookup y) (kp:∀b o,s.heap.get? b=aa o->h1.get? b=aa o) :
  Inv (Up P w K mg base N (v8 x) tx.2.2 a (.ref c) cl A outer s H) [] (start N (cvs++vs)) H { s with heap:=h1,toks:=tk }:=by
 have ndN:(Vn tx.2.2).Nodup:=by have:=S.nd;rw[S.nm]at this;exact(List.nodup_append.mp this).1
 have ndP:ps.Nodup:=by have:=S.nd;rw[S.nm]at this;exact(List.nodup_append.mp this).2.1
 have ndC:(cl.map (·.1)).Nodup:=by rw[hn];exact ndN
 have lenC:cvs.length=(Vn tx.2.2).length:=by rw[hc.length,<-hn,xg,xg]
 have lenN:N.length=(cvs++vs).length:=by rw[S.nm,Xe,Xe,lenC,hl]
 have noA:∀b:ao,b∉(Up P w K mg base N (v8 x) tx.2.2 a (.ref c) cl A outer s H).ex:=λb z=>absurd (show b∈([]:List ao)from z) (by simp);have mem2:∀{y:aq}{q:ao},cl.lookup y=aa q->q∈cl.map (·.2):=λ{y q} h=>Xa.mpr ⟨(y,q),Pa h,rfl⟩;have inj:∀(l:List (aq×ao)),(l.map (·.2)).Nodup->∀y z q,(y,q)∈l->(z,q)∈l->y=z:=λl=>by
  induction l with
  |nil=>intro _ y z q h;cases h
  |cons p r ih =>
   intro nd y z q h1 h2;rw[xx]at nd;obtain⟨n1,n2⟩:=Xl.mp nd;rcases xn.mp h1 with e1|h1<;>rcases xn.mp h2 with e2|h2
   .rw[<-e1]at e2;cases e2;rfl
   .exact absurd (Xa.mpr ⟨(z,q),h2,by rw[<-e1]⟩) n1
   .exact absurd (Xa.mpr ⟨(y,q),h1,by rw[<-e2]⟩) n1
   .exact ih n2 y z q h1 h2
 refine⟨⟨e0.mod,S.kind,rfl,rfl,X7 _,λy z q h1 h2=>inj cl nd y z q (Pa h1) (Pa h2),λy hy=>?_,λy q h=>(by cases h),λ_=>hh,gW e0.frames,.inr ⟨rfl,rfl⟩,λb z=>absurd z (noA b),e0.bs,e0.bsz,λb _ _=>noA b,λb z=>absurd z (noA b),e0.funs,e0.frf⟩,
  rfl,e0.bare,Un.kept kp,⟨_,ns,λi y v h1 h2 h3=>?_⟩,λy q h=>?_,e0.hok.fresh (X7 _),λy q h=>hf q (mem2 h),λp hp=>absurd (show p∈([]:k7v)from hp) (by simp),e0.hok.kept kp,?_⟩
 .have hy:tx.2.2.names.lookup y=aa .cell\/tx.2.2.names.lookup y=aa .free:=hy;rcases hy with hy|hy
  .exact absurd rfl (S.nocell _ (Pa hy))
  .have m:=S.cov y hy;rw[<-hn]at m;obtain⟨p,hp,e⟩:=Xa.mp m;obtain⟨i,hi⟩:=List.mem_iff_getElem?.mp hp;exact⟨p.2,by have:=lookup_at ndC hi;rw[e]at this;exact this⟩
 .have h1:N[i]?=aa y:=h1;have hi:i<(cvs++vs).length:=by rw[<-lenN];exact(Xf.mp h1).1
  have ha:(cvs++vs)[i]?=aa v:=by
   unfold start at h2;rw[Pq (by simpa using hi),xu]at h2;cases e:(cvs++vs)[i]? with
   |none=>rw[e]at h2;cases h2
   |some a=>rw[e]at h2;cases h2;rfl
  rw[S.nm]at h1;by_cases z:i<cvs.length
  .rw[Pq z]at ha;rw[Pq nofun]at h1;obtain⟨q,u,e1,e2,r⟩:=hc.get ha;refine⟨u,r,.inr ⟨.inr (S.lfr y (Xv h1)),q,?_,e2.keeps kp⟩⟩;rw[<-hn,xu]at h1;rw[xu]at e1;obtain⟨p,hp,ep⟩:=Ti.mp h1;rw[hp]at e1;have:=lookup_at ndC hp;rw[ep]at this;show cl.lookup y=aa q;rw[this];exact e1
  .rw[dr nofun]at ha h1;rw[<-lenC]at h1;obtain⟨u,hu,r⟩:=rv.get ha;exact⟨u,r,.inl ⟨S.lps y (Xv h1),j40 ndP (by rw[<-rv.length,hl]) h1 hu⟩⟩
 .obtain⟨v,z⟩:=hc.all q (mem2 h);exact⟨v,z.keeps kp⟩
 .unfold start;show _=N.length;rw[Xe,xg,eM];omega
theorem j97 (hr:Room (k+1) A) (e0:Env0 P w K mg base A outer s H) (ho:s.heap.get? a=aa (W.kla_obj "<lambda>" (v8 x) tx.1 tx.2.1 tx.2.2 cl pm c ctv)) (hcd:s.heap.CodeRec (.ref c) (v8 x))
  (S:LamScope N ps tx.2.2) (hn:cl.map (·.1)=Vn tx.2.2) (nd:(cl.map (·.2)).Nodup) (hc:Qa s.heap (cl.map (·.2)) cvs) (hf:∀q∈cl.map (·.2),H q=ah)
  (hb:cY (W.kla_fn "<lambda>" (v8 x) tx.1 tx.2.1 tx.2.2 cl pm (.ref c) ctv) ⟨us,[]⟩=pure (ps.zip us)) (rv:Vals vs us) (hl:vs.length=ps.length)
  (body:Room k (Up P w K mg base N (v8 x) tx.2.2 a (.ref c) cl A outer s H).A->Qk (Up P w K mg base N (v8 x) tx.2.2 a (.ref c) cl A outer s H) tx.2.1 (start N (cvs++vs)) H Q) :
  cK (aC P w) A (.call (.ref a) ⟨us,[]⟩) (CR CX0 outer P w H s Q E) s:=by
 have lim:s.heap.NoLimit:=e0.mod.nolimit.keeps λb o e=>(e0.bs b o e).1;refine W.kla_callFunE (by have:=hr.dp;omega) ho rfl S.co S.gen rfl hcd ?_;rw[hb];refine aw (wpAny_newFunctionEnv S.nocell (λy hy=>S.lps y.1 (cL (a:=y.1) (b:=y.2) hy).1) (λh1 ns sb=>⟨lim.fresh _ sb,?_⟩) S.kind);show cK _ _ (.expr tx.2.1 (W.envX (v8 x) tx.2.2 s.heap.objs.size a (.ref c) cl)) _ _;have kp:∀b o,s.heap.get? b=aa o->h1.get? b=aa o:=λb o e=>sb.extBut b o (Xd (xr e)) (km _ e);have I:=je5 (x:=x) (a:=a) (c:=c) (tk:=s.toks+(ps.zip us).length) hr.hd e0 S hn nd hc hf rv hl ns kp;refine W.kla_codeExpr (bS (body (hr.deeper _) [] _ I) (λu s' ⟨v,H',J,r,q⟩=>?_) λ_ _ z=>z.elim);exact⟨v,H',J.os,J.bare,J.base,J.hok,r,q⟩
end
mutual
noncomputable def noFn:D->Bool
 |.fn _ _=>ae
 |.tup ds=>Uj ds
 |.lst ds=>Uj ds
 |.dct _ ds=>Uj ds
 |_=>af
noncomputable def Uj:List D->Bool
 |[]=>af
 |d::ds=>noFn d&&Uj ds
end
section
variable{K:k7t}{H:Hp}{A:List ao}
def Cel(H:Hp)(A:List ao):Prop:=∀a∈A,∃oc v,H a=aa (.frz oc (.own 0))/\oc.data=.cell v
theorem Cel.out(hA:Cel H A){b:ao}{o:HO}(q:H b=aa o)(h:∀oc,o≠.frz oc (.own 0)):del H A b=aa o:=by rw[j5];exact q;intro y;obtain⟨oc,v,e,_⟩:=hA b y;rw[q]at e;exact h oc (aE e)
theorem Cel.seqT(hA:Cel H A){a:ao}{xs:List V}(h:SqT K H a xs):SqT K (del H A) a xs:=by
 rcases h with (h|⟨o,h⟩)|h
 .exact .inl (.inl (hA.out h λ_ z=>by cases z))
 .exact .inl (.inr ⟨o,hA.out h λ_ z=>by cases z⟩)
 .exact .inr h
theorem Cel.seq(hA:Cel H A){a:ao}{xs:List V}(h:SqL K H a xs):SqL K (del H A) a xs:=by
 rcases h with (h|⟨o,h⟩)|h
 .exact .inl (.inl (hA.out h λ_ z=>by cases z))
 .exact .inl (.inr ⟨o,hA.out h λ_ z=>by cases z⟩)
 .exact .inr h
mutual
theorem Enc.noc(hA:Cel H A):∀{d:D}{v:V},noFn d=af->Enc K H d v->Enc K (del H A) d v
 |.non,_,_,h=>h
 |.bl _,_,_,h=>h
 |.int _,_,_,h=>h
 |.str _,_,_,h=>h
 |.tup _,_,n,⟨a,xs,e,q,l⟩=>⟨a,xs,e,hA.seqT q,j6.noc hA (by simpa [noFn]using n) l⟩
 |.lst _,_,n,⟨a,xs,e,q,l⟩=>⟨a,xs,e,hA.seq q,j6.noc hA (by simpa [noFn]using n) l⟩
 |.dct _ _,_,n,⟨a,xs,ep,vs,e,q,ek,kt,rv,l⟩=>⟨a,xs,ep,vs,e,hA.out q (λ_ z=>by cases z),ek,λx hx=>hA.seqT (kt x hx),rv,j6.noc hA (by simpa [noFn]using n) l⟩
 |.sct _,_,_,⟨a,e,q⟩=>⟨a,e,hA.out q λ_ z=>by cases z⟩
 |.fn _ _,_,n,_=>by cases n
theorem j6.noc(hA:Cel H A):∀{ds:List D}{xs:List V},Uj ds=af->j6 K H ds xs->j6 K (del H A) ds xs
 |[],_,_,h=>h
 |d::ds,_,n,⟨x,r,e,h,l⟩=>by rw[Uj,X8]at n;exact⟨x,r,e,Enc.noc hA n.1 h,j6.noc hA n.2 l⟩
end
theorem vo.cel:∀{cs:List ao}{vs:List V},vo H cs vs->Cel H cs
 |[],_,_=>λ_ h=>nomatch h
 |c::cs,_,⟨v,r,o,u,e,h,d,rv,l⟩=>λa ha=>(xn.mp ha).elim (λz=>⟨o,_,z▸h,d⟩) (l.cel a)
theorem vo.inn{P:az}{w:aF}{h:aH}(ok:HOk P w H h):∀{cs:List ao}{vs:List V},vo H cs vs->Qa h cs vs
 |[],_,e=>e
 |c::cs,_,⟨v,r,o,u,e,q,d,rv,l⟩=>⟨v,r,u,e,⟨o,(show jz P w H h c (.frz o (.own 0))from ok _ _ q).1,d⟩,rv,l.inn ok⟩
theorem vo.of_del{B:List ao}:∀{cs:List ao}{vs:List V},vo (del H B) cs vs->vo H cs vs:=λh=>h.mono jk
theorem TabOk.fz(h:TabOk K H)(hA:∀a∈A,Fz (H a)):TabOk K (L2.del H A):=λx hx c P z=>by have q:=h x hx c P z;rw[j5];exact q;intro y;rcases hA _ y with ⟨xs,e⟩|⟨oc,v,e,_⟩<;>(rw[q]at e;cases e)
end
def j4l(P:az)(w:aF)(K:k7t)(mg:k7w)(base:aH)(k:Nat)(x:aq)(S:List D->D->Prop):Prop :=
 ∀(A:aI)(outer:List dz)(s:ar)(H:Hp)(a:ao)(B:List ao)(cs ds:List D) (d:D) (vs:List V) (us:List ak) (Q:VK) (E:XK),Room k A->Env0 P w K mg base A outer s H->TabOk K H->(∀b∈B,∃xs,H b=aa (.lst xs)) ->
  Enc K (del H B) (.fn x cs) (.ref a)->j6 K (del H B) ds vs->Uj ds=af->S (cs++ds) d->Vals vs us->(∀v H',j4 H H'->Enc K (del H' B) d v->Q v H')->cK (aC P w) A (.call (.ref a) ⟨us,[]⟩) (CR CX0 outer P w H s Q E) s
section
variable{P:az}{w:aF}{K:k7t}{mg:k7w}{base:aH}{k:Nat}{x:aq}{S:List D->D->Prop}{tx:Tx}{N ps:List aq}
theorem jha(ht:j42 K x=aa tx)(Sc:LamScope N ps tx.2.2)(hl:∀ds d,S ds d->ds.length=N.length)
  (hb:∀(cl:List (aq×ao)) (pm:ak) (c:ao) (ctv:ak) (us:List ak),us.length=ps.length->cY (W.kla_fn "<lambda>" (v8 x) tx.1 tx.2.1 tx.2.2 cl pm (.ref c) ctv) ⟨us,[]⟩=pure (ps.zip us))
  (hbody:∀(a c:ao)(cl:List (aq×ao)) (A:aI) (outer:List dz) (s:ar) (H:Hp),cl.map (·.1)=Vn tx.2.2->Room k (Up P w K mg base N (v8 x) tx.2.2 a (.ref c) cl A outer s H).A->∀ds d,S ds d->DT (Up P w K mg base N (v8 x) tx.2.2 a (.ref c) cl A outer s H) (qy N ds) tx.2.1 d):j4l P w K mg base (k+1) x S:=by
 intro A outer s H a B cs ds d vs us Q E hr e0 tb hB en ea nf hS rv q;obtain⟨a',c,tx',cl,cvs,e,L,l⟩:=en;cases e;have et:tx'=tx:=aE (L.tx.symm.trans ht);subst et;have cs_at:vo H (cl.map (·.2)) cvs:=L.cs.of_del;have hA:∀b∈B++cl.map (·.2),Fz (H b):=λb hb=>(Pn.mp hb).elim (λz=>.inl (hB b z)) λz=>.inr (cs_at.cel b z);obtain⟨e1,back⟩:=j6i e0 hA;obtain⟨pm,ctv,hfo⟩:=L.fo;obtain⟨oc,hco,vs0,t0,hd0,hv0⟩:=L.co;have ho:=(show jz P w H s.heap a (.frz _ (.own 0))from e0.hok _ _ (of_del hfo).2).1;have hcd:s.heap.CodeRec (.ref c) (v8 x):=⟨c,oc,vs0,t0,rfl,(show jz P w H s.heap c (.frz oc (.own 0))from e0.hok _ _ (of_del hco).2).1,hd0,hv0⟩
 have ll:=l.length;have la:=ea.length;have hlen:=hl _ _ hS;have lenC:(cl.map (·.2)).length=(Vn tx'.2.2).length:=by rw[<-L.nm,xg,xg]
 have lcv:=(cs_at.inn e0.hok).length;have hlv:vs.length=ps.length:=by rw[Sc.nm,Xe,Xe]at hlen;omega
 have celB:Cel (del H B) (cl.map (·.2)):=L.cs.cel;have ea1:j6 K (del H (B++cl.map (·.2))) ds vs:=by rw[<-Vf];exact ea.noc celB nf
 have l1:j6 K (del H (B++cl.map (·.2))) cs cvs:=by rw[<-Vf];exact l
 refine bO (j97 (E:=E) (Q:=λv F=>(∀a∈B++cl.map (·.2),F a=ah)->Q v (mrg (B++cl.map (·.2)) H F)) hr e1 ho hcd Sc L.nm L.nd (cs_at.inn e0.hok) (λb hb=>vm (Xm _ hb)) (hb cl pm c ctv us (by rw[<-rv.length];exact hlv)) rv hlv λhrm=>?_) λr s' h=>back Q E E r s' h;refine hbody a c cl A outer s _ L.nm hrm (cs++ds) d hS _ _ _ (Vq (tb.fz hA) (l1.append ea1)) λv F g en' hF=>q v _ (Bq g) (en'.mono λb o z=>?_);have nb:b∉B++cl.map (·.2):=λy=>by rw[hF b y]at z;cases z
 rw[j5 (λy=>nb (cZ _ y)),jw nb];exact z
end
section
variable{X:Cx}{ρ:Rho}{e:au}{es:List au}{d:D}{cs ds:List D}{pos p:aR}{x y:aq}{i k:Nat}
end
section
variable{X:Cx}{pins:k7v}{σ:St}{H:Hp}{s:ar}
structure LMk(X:Cx)(x:aq):Prop where
 mem:x∈Y0
 qual:X.env.qual=x ++ ".<locals>."
 code:∃c P,X.env.code=.ref c/\W.codeHdIn X.K c P=af/\W.tabIn X.K x=aa (c,P)
end
def jnl(X:Cx)(ρ:Rho):List (aq×ao)->List D->Prop
 |[],ds=>ds=[]
 |p::cl,ds=>∃(d:D)(r:List D)(i:Nat),ds=d::r/\X.N[i]?=aa p.1/\X.env.scope.names.lookup p.1=aa .cell/\X.env.cells.lookup p.1=aa p.2/\X.fn p.1=af/\ρ[i]?=aa (.val d)/\jnl X ρ cl r
section
variable{X:Cx}{pins:k7v}{σ:St}{H H2:Hp}{s s2:ar}{ρ:Rho}
end
section
variable{X:Cx}{ρ:Rho}{P:Po}{x:aq}{params:iD}{body:au}{scope:bC}{cl:List (aq×ao)}{ds:List D}{pos p1 p2:aR}
end
section
variable{X:Cx}{ρ:Rho}{e a b c:au}{es:List au}{st:aS}{rest sa sb body:List aS}{P:Po}{d:D}{ds ds':List D}{pos p p1 p2 p3:aR}{x:aq}{i:Nat}
theorem Cal.comp{sp:Sp}{scope:bC}{C:ao}{s:ar}{H:Hp}{fp:List ao}{pn:k7v}(h:Cal X x sp):Cal (cCx X scope C s H fp pn) x sp:=⟨h.ex⟩
end
theorem ju(lo:Int)(n:Nat):(upto lo n).length=n:=by unfold upto;rw[xg,Xh]
theorem j0l{lo:Int}{n:Nat}{d:D}(h:d∈upto lo n):∃j:Nat,j<n/\d=.int (lo+j):=by unfold upto at h;obtain⟨j,hj,e⟩:=Xa.mp h;exact⟨j,Xc.mp hj,e.symm⟩
theorem V9{lo:Int}{n j:Nat}{d:D}(h:(upto lo n)[j]?=aa d):j<n/\d=.int (lo+j):=by
 unfold upto at h;rw[xu]at h;cases z:(aB n)[j]? with
 |none=>rw[z]at h;cases h
 |some k =>rw[z]at h;have hl:=(Xf.mp z).1;rw[Xh]at hl;have:=T4 (n:=n) (i:=j) hl;rw[this]at z;cases z;cases h;exact⟨hl,rfl⟩
section
variable{X:Cx}{ρ:Rho}{a b tg it:au}{ds ds':List D}{d:D}{i:Int}{pos:aR}
end
mutual
def J6:D->Prop
 |.tup l=>l.length<=1000/\Z5 l
 |.lst l=>l.length<=1000/\Z5 l
 |.dct _ _=>False
 |.sct _=>False
 |.fn _ _=>False
 |_=>True
def Z5:List D->Prop
 |[]=>True
 |d::ds=>J6 d/\Z5 ds
end
theorem Wt:∀{ds:List D}{d:D},Z5 ds->d∈ds->J6 d
 |x::xs,d,h,m=>by
  simp only[Z5]at h;rcases xn.mp m with e|m
  .subst e;exact h.1
  .exact Wt h.2 m
theorem Ul:∀{ds:List D},(∀d∈ds,J6 d)->Z5 ds
 |[],_=>by simp only[Z5]
 |x::xs,h=>by simp only[Z5];exact⟨h x (xj ..),Ul λd m=>h d (xf _ m)⟩
theorem D.depL_mem:∀{ds:List D}{d:D},d∈ds->d.dep<=D.depL ds
 |x::xs,d,m=>by
  simp only[D.depL];rcases xn.mp m with e|m
  .subst e;omega
  .have:=D.depL_mem m;omega
theorem D.depL_of{n:Nat}:∀{ds:List D},(∀d∈ds,d.dep<=n)->D.depL ds<=n
 |[],_=>by simp only[D.depL];omega
 |x::xs,h=>by simp only[D.depL];have h1:=h x (xj ..);have h2:=D.depL_of (ds:=xs) λd m=>h d (xf _ m);omega
end L2
namespace L2
noncomputable def j9(b:Int):Nat->Int->List Int
 |0,_=>[]
 |i+1,n=>(n/b^i%b)::j9 b i n
theorem jr(b:Int):∀(m:Nat)(n:Int),(j9 b m n).length=m
 |0,_=>rfl
 |m+1,n=>by rw[j9,xq,jr b m n]
theorem Zd(b:Int):∀{m k:Nat}{n:Int},k<m->(j9 b m n)[k]?=aa (n/b^(m-k-1)%b)
 |m+1,0,n,_=>by rw[j9];rfl
 |m+1,k+1,n,h=>by
  rw[j9,Tg,Zd b nofun];have:m-k-1=m+1-(k+1)-1:=by omega
  rw[this]
theorem j0z(n b:Int)(hb:0<b)(i:Nat):n/b^i/b=n/b^(i+1):=by rw[Int.ediv_ediv_of_nonneg (Int.le_of_lt (d6 hb)),fM]
end L2
end
section
namespace L2
open PySem PySem.Spec PyProof.Rows
def CX1(P:az)(w:aF):CXT:=λouter H s E ev s'=>∃(e:ao)(C:ak)(H':Hp),ev=.ref e/\s'.os=s.os/\eE s'.gens/\Un (frs outer) [] H H' s.heap s'.heap/\HOk P w H' s'.heap /\
 Fl (λb=>∃o,s.heap.get? b=aa o) H' s'.heap e C/\E C ah H'
theorem jz.get{P:az}{w:aF}{H:Hp}{h:aH}{a:ao}{o:HO}(x:jz P w H h a o):∃u,h.get? a=aa u:=by
 cases o with
 |lst xs=>obtain⟨_,_,_,_,e⟩:=x;exact⟨_,e⟩
 |tup xs=>obtain⟨_,_,_,⟨_,e,_⟩,_⟩:=x;exact⟨_,e⟩
 |dK kvs=>obtain⟨_,_,_,_,o,_,_,e,_⟩:=x;exact⟨_,e⟩
 |dT kvs=>obtain⟨_,_,_,_,o,_,_,e,_⟩:=x;exact⟨_,e⟩
 |dI xs ep=>obtain⟨_,_,_,o,_,e,_⟩:=x;exact⟨_,e⟩
 |set S n=>obtain⟨o,_,_,_,e,_⟩:=x;exact⟨_,e⟩
 |ins C dx fs=>obtain⟨_,_,_,e,_⟩:=x;exact⟨_,e⟩
 |own y=>obtain⟨_,e⟩:=x;exact⟨_,e⟩
 |xd fs=>obtain⟨_,⟨_,_,_,e,_⟩,_⟩:=x;exact⟨_,e⟩
 |rng lo hi=>obtain⟨_,_,_,e⟩:=x;exact⟨_,e⟩
 |frz ob u=>obtain⟨e,_⟩:=x;exact⟨_,e⟩
 |tbl ps=>exact⟨_,(show h.get? a=aa _ from x)⟩
 |cod q=>obtain⟨_,e,_⟩:=x;exact⟨_,e⟩
 |met f y=>exact⟨_,(show h.get? a=aa _ from x)⟩
 |ext φ=>obtain⟨_,⟨_,e⟩,_⟩:=x;exact⟨_,e⟩
section
variable{X:Cx}{pins:k7v}{σ:St}{H:Hp}{s:ar}
theorem Inv.old(I:Inv X pins σ H s){b:ao}(h:Old X pins b):∃o,s.heap.get? b=aa o:=by
 rcases h with ⟨o,q,n⟩|⟨p,hp,rfl⟩|rfl|⟨x,e⟩
 .exact I.base.there b o q n
 .exact⟨_,(I.pin p hp).1⟩
 .obtain⟨m,⟨o,_,_,e,_⟩,_⟩:=I.loc;exact⟨o,e⟩
 .obtain⟨v,o,e,_⟩:=I.cell x b e;exact⟨o,e⟩
end
section
variable{P:az}{w:aF}{K:k7t}{mg:k7w}{base:aH}{N ps:List aq}{qual:aq}{scope:bC}{f:ao}{cd:ak}{A:aI}{outer:List dz}{s s':ar}{H H':Hp}{E:XK}{σ:St}{pins:k7v}{e:ao}{C:ak}
theorem j2d{as:List ao}{h':aH}{a0:ak}(I:Inv (zm (CX1 P w) P w K mg base N qual scope f cd A outer s H E) pins σ H' s')(F:Fl (Old (zm (CX1 P w) P w K mg base N qual scope f cd A outer s H E) pins) H' s'.heap e C)
  (hE:E C ah H') (ha:∀b,b∈as↔b∈frs (bB qual scope s.heap.objs.size f cd::outer)\/(¬(∃o,s.heap.get? b=aa o)/\H' b=ah/\b∈as)) (hfa:∀b∈frs (bB qual scope s.heap.objs.size f cd::outer),b∈as)
  (hL:Heap.LeftW (W.hideAll s'.heap as) (bB qual scope s.heap.objs.size f cd::outer) e C a0 s'.heap h'):CX1 P w outer H s E (.ref e) { s' with heap:=h' }:=by
 obtain⟨k1,k2,k3,k4⟩:=hL;have fr:∀b∈frs outer,∃o,s'.heap.get? b=aa o/\∀vs,o.data≠.fields vs:=λb hb=>by obtain⟨o,ho,hd⟩:=(I.stack.mem (show b∈frs (bB qual scope s.heap.objs.size f cd::outer)from xf _ hb)).2;exact⟨o,ho,hd⟩
 have sfree:∀b∈frs (bB qual scope s.heap.objs.size f cd::outer),H' b=ah:=I.stkFree;have keep:∀b o,s'.heap.get? b=aa o->b∉as->h'.get? b=aa o:=λb o q n=>k1 b o (W.hideAll_get _ q n);have nold:∀b o,s.heap.get? b=aa o->b∉frs outer->b∉as:=λb o q n z=>by
  rcases(ha b).mp z with z|⟨z,_⟩
  .rcases xn.mp z with z|z
   .have:=xr q;rw[show b=s.heap.objs.size from z]at this;exact absurd this (Pj _)
   .exact n z
  .exact z ⟨o,q⟩
 have ntrk:∀b u,H' b=aa u->b∉as:=λb u q z=>by
  rcases(ha b).mp z with z|⟨_,z,_⟩
  .rw[sfree b z]at q;cases q
  .rw[z]at q;cases q
 have slot:∀b∈frs outer,∀o,s'.heap.get? b=aa o->∃sl,h'.get? b=aa { o with slots:=sl }:=λb hb o q=>by obtain⟨o',ho,hd⟩:=fr b hb;rw[q]at ho;cases ho;exact k4 b o q hd
 have un:=I.base;refine⟨e,C,H',rfl,I.os,I.bare,⟨λb o q n hb _=>keep b o (un.keep b o q n hb (λz=>nomatch z)) (nold b o q hb),λb o q n hb _=>?_,λb o q n _=>un.free b o q n (λz=>nomatch z),λb o q _=>?_,un.tups,un.frzs,un.tbls⟩,
  λa o q=>(I.hok a o q).stay (λb u hb r=>keep b u r ?_) (λ_ z=>z) (λ_ _ z=>z) λ_ _ _ z=>z,?_,hE⟩
 .obtain⟨sl,q'⟩:=un.slot b o q n hb (λz=>nomatch z);obtain⟨sl',q2⟩:=slot b hb _ q';exact⟨sl',q2⟩
 .obtain⟨o',q'⟩:=un.there b o q (λz=>nomatch z);by_cases hb:b∈frs outer
  .obtain⟨sl,q2⟩:=slot b hb _ q';exact⟨_,q2⟩
  .exact⟨_,keep b o' q' (nold b o q hb)⟩
 .rcases hb with rfl|hb
  .exact ntrk _ _ q
  .exact ntrk _ _ hb
 .obtain⟨oe,vs,T,oT,ts,he,⟨hc,h0⟩,hd,h1,hnT,hTe,hT,hdT,h3⟩:=k3;refine⟨λb ⟨o,q⟩=>F.new b (.inl ⟨o,q,λz=>nomatch z⟩),F.free,oe,vs,a0,he,hc,hd,h0,.inr ⟨T,oT,ts,h1,hTe,hT,hdT,h3,?_,λb ⟨o,q⟩ z=>?_⟩⟩
  .cases r:H' T with
   |none=>rfl
   |some u =>obtain⟨ob,q⟩:=(I.hok T u r).get;rw[W.hideAll_get _ q (ntrk T u r)]at hnT;cases hnT
  .subst z;obtain⟨o',q'⟩:=un.there b o q (λz=>nomatch z);by_cases hb:b∈frs outer
   .obtain⟨o2,q2,nf⟩:=fr b hb;obtain⟨sl,q3⟩:=slot b hb o2 q2;rw[q3]at hT;cases hT;exact nf ts hdT
   .rw[W.hideAll_get _ q' (nold b o q hb)]at hnT;cases hnT
theorem Kq(I:Inv (zm (CX1 P w) P w K mg base N qual scope f cd A outer s H E) pins σ H' s')(F:Fl (Old (zm (CX1 P w) P w K mg base N qual scope f cd A outer s H E) pins) H' s'.heap e C)(hE:E C ah H') :
  (zm (CX1 P w) P w K mg base N qual scope f cd A outer s H E).xe (.ref e) s':=by
 obtain⟨oe,vs,a0,he,hc,hd,h0,hT⟩:=F.obj;have hsN:∀b,(∃o,s.heap.get? b=aa o)->Old (zm (CX1 P w) P w K mg base N qual scope f cd A outer s H E) pins b:=λb ⟨o,q⟩=>.inl ⟨o,q,λz=>nomatch z⟩;have hin:∀(as:List ao),(∀b∈frs (bB qual scope s.heap.objs.size f cd::outer),b∈as)->∀env∈bB qual scope s.heap.objs.size f cd::outer,∀a,env.frame=aa a->a∈as:=λas h env he a ha=>h a (T8.mpr ⟨env,he,ha⟩);subst hc;rcases hT with h1|⟨T,oT,ts,h1,hTe,hT,hdT,h3,hTf,hTn⟩
 .let as:=e::frs (bB qual scope s.heap.objs.size f cd::outer)
  have hfa:∀b∈frs (bB qual scope s.heap.objs.size f cd::outer),b∈as:=λb hb=>xf _ hb;refine wpAny_leaving_firstW (base:=W.hideAll s'.heap as) I.ok.frames (W.funFrames_hide I.stack (hin as hfa)) rfl he (λb o q=>W.of_hideAll _ q) (W.hideAll_none _ (xj ..)) hd h1 h0 λh' hL =>j2d I F hE (λb=>⟨λz=>?_,λz=>z.elim (hfa b) λz=>z.2.2⟩) hfa hL
  rcases xn.mp z with e1|z'
  .subst e1;exact .inr ⟨λq=>F.new _ (hsN _ q) rfl,F.free,z⟩
  .exact .inl z'
 .let as:=e::T::frs (bB qual scope s.heap.objs.size f cd::outer)
  have hfa:∀b∈frs (bB qual scope s.heap.objs.size f cd::outer),b∈as:=λb hb=>xf _ (xf _ hb);refine wpAny_leaving_nextW (base:=W.hideAll s'.heap as) (a0:=a0) I.ok.frames (W.funFrames_hide I.stack (hin as hfa)) rfl ⟨oe,vs,T,oT,ts,he,⟨rfl,h0⟩,hd,h1,W.hideAll_none _ (xf _ (xj ..)),hTe,hT,hdT,h3⟩
   (λb o q=>W.of_hideAll _ q) (W.hideAll_none _ (xj ..)) λh' hL =>
   j2d I F hE (λb=>⟨λz=>?_,λz=>z.elim (hfa b) λz=>z.2.2⟩) hfa hL
  rcases xn.mp z with e1|z'
  .subst e1;exact .inr ⟨λq=>F.new _ (hsN _ q) rfl,F.free,z⟩
  .rcases xn.mp z' with e1|z2
   .subst e1;exact .inr ⟨λq=>hTn _ (hsN _ q) rfl,hTf,z⟩
   .exact .inl z2
end
def spX(K:k7t)(mg:k7w)(S:List D->aq->Prop):Sp:=λvs H _ E=>∃ds x C,TabOk K H/\j6 K H ds vs/\S ds x/\mg x=aa C/\∀H',j4 H H'->E C ah H'
section
variable{P:az}{w:aF}{K:k7t}{mg:k7w}{base:aH}{x qual:aq}{st:aS}{f:ao}{fd:aN}{N ps:List aq}{k:Nat}
theorem j6k{S:List D->aq->Prop}(F:Fun K x qual st f fd)(Sc:FnScope N ps (j0 st))(hl:∀ds y,S ds y->ds.length=ps.length)
  (hbody:∀(cdv:ak)(A:aI)(outer:List dz)(s:ar)(H:Hp)(E:XK),Ux K f cdv->Room k (A.deeper (bB qual (j0 st) s.heap.objs.size f cdv))->∀ds y,S ds y ->
   DSs (zm (CX1 P w) P w K mg base N qual (j0 st) f cdv A outer s H E) (qy N ds) (jg st) { nx:=λ_=>False,rt:=λ_=>False,ex:=λz _=>z=y }):FnOk P w K mg base (CX1 P w) (k+1) f fd ps (spX K mg S):=by
 obtain⟨oc,od,dV,kV,doc,pm,an,cdv,ct,osl,rfl,lk,hcd⟩:=F.ex;refine Ek lk hcd Sc (λvs H Q E ⟨ds,y,C,tb,en,hS,_⟩=>by rw[en.length];exact hl ds y hS) λA outer s H vs Q E hr ⟨ds,y,C,tb,en,hS,hC,hE⟩=>⟨_,vq,?_⟩
 have ho:=Z4 N ds;refine hbody cdv A outer s H E ⟨oc,od,_,osl,lk,rfl⟩ hr ds y hS (start N vs) H _ (Vq tb en) ⟨λρ' σ' H' n R f=>n.elim,λ_ _ _ z=>z.elim,λ_ _ _ z=>z.elim,λr v H' n z=>n.elim,λz ρ' σ' H' n R g=>?_⟩;cases(show z=y from n);intro pins H2 s' e C' I g2 hC' Fe;cases hC.symm.trans hC';unfold Fr0 at g;rw[ho,Jh]at g;exact Kq I Fe (hE H2 ((g.trans jk).trans g2))
end
def DX(X:Cx)(ρ:Rho)(e:au)(x:aq):Prop:=∀σ H Q,Rep X.K ρ σ H->O6 X σ H x->Qk X e σ H Q
def DXA(X:Cx)(ρ:Rho)(es:List au)(x:aq):Prop:=∀σ H Q,Rep X.K ρ σ H->O6 X σ H x->Wl X es σ H Q
structure CalX(X:Cx)(x:aq)(sp:Sp):Prop where
 ex:∃(k:Nat)(f:ao)(fd:aN)(ps:List aq),FnOk X.prog X.w X.K X.mg X.base (CX1 X.prog X.w) k f fd ps sp/\Room k X.A/\X.mg x=aa (.ref f)/\W.keepIn X.K (.ref f)=af/\Binds X.K fd ps []
section
variable{X:Cx}{ρ:Rho}{e:au}{es:List au}{f x:aq}{ds:List D}{p pos:aR}{C:ak}
theorem DX.call {S:List D->aq->Prop} (c:CalX X f (spX X.K X.mg S)) (ha:DTA X ρ (e::es) ds) (hS:S ds x) (hC:X.mg x=aa C) (hg:Gl X f) (hdb:(f==k7x)=ae)
  (he:aj (e::es) X.env=(ae,aD e X.env)::aj es X.env) (hpl:(aQ pos (aj es X.env)).any (·.1)=ae):DX X ρ (.Call (.Name f p) (e::es) [] pos) x:=λσ H Q R k pins s I=>by
 obtain⟨n,fa,fd,ps,F,hr,hm,hk,hb⟩:=c.ex;refine aX (Vc I hg hm ?_ hdb);refine W.callWith_K (h₀:=X.base) I.ok.mod.kin hk (thn (ha σ H (λvs H1=>j4 H H1/\j6 X.K H1 ds vs) R (λvs H1 g e=>⟨g,e⟩) pos pins s I) λus s1 ⟨vs,H1,I1,r,g,en⟩=>⟨I1.kIn,?_⟩) he hpl;have sp:spX X.K X.mg S vs H1 (λ_ _=>False) (λC' _ H'=>C'=C/\j4 H1 H'):=⟨ds,x,C,R.tb.mono g,en,hS,hC,λH' g=>⟨rfl,g⟩⟩
 have hl:us.length=ps.length:=by rw[<-r.length];exact F.len _ _ _ _ sp
 have hb':=hb s1 us I1.kIn (by rw[Xo];exact hl);rw[Xo]at hb';refine fX (bO (F.run X.A X.stack s1 H1 ⟨us,[]⟩ us vs _ _ hr I1.env0 hb' r sp) λr s' hq=>?_);cases r with
 |error ev =>obtain⟨e,C',H',rfl,os,bare,un,hok,fl,rfl,g'⟩:=hq;have I':Inv X pins σ H' s':=I1.call' os un hok bare (λb z=>nomatch z);refine k pins H' s' e C' I' (g.trans g') hC ⟨λb hb=>fl.new b (I1.old hb),fl.free,?_⟩;obtain⟨oe,ws,a0,q1,q2,q3,q4,q5⟩:=fl.obj;refine⟨oe,ws,a0,q1,q2,q3,q4,q5.imp id ?_⟩;rintro⟨T,oT,ts,z1,z2,z3,z4,z5,z6,z7⟩;exact⟨T,oT,ts,z1,z2,z3,z4,z5,z6,λb hb=>z7 b (I1.old hb)⟩
 |ok fl =>
  cases fl with
  |ret u=>obtain⟨_,_,_,_,_,_,_,z⟩:=hq;exact z.elim
  |next=>exact aU hq
  |brk=>exact aU hq
  |cont=>exact aU hq
end
section
variable{X:Cx}{ρ:Rho}{e:au}{es:List au}{x:aq}{d:D}{p pos np cpos:aR}{P:Po}{i:Int}{y:aq}{ys:List aq}
theorem DE.fmtI(ha:DT X ρ e (.int i))(hi:i.natAbs.log2<1920):DE X ρ (.FormattedValue e (-1) ah pos) (.str (toString i)):=λσ H Q R q pins s I=>by
 refine jJ (thn (ha σ H (λv H1=>v=.int i/\j4 H H1) R (λv H1 g e=>⟨e,g⟩) pins s I) λu s1 ⟨v,H1,I1,r,ev,g⟩=>?_);subst ev;obtain⟨t,rfl⟩:=(show ∃t,u=bu i t from r)
 exact formatField_int_small hi ⟨.str (toString i),H1,I1.un (t':=s1.toks+1+1) Un.refl I1.hok,⟨_,rfl⟩,q _ H1 g rfl⟩
theorem DE.fmtS(ha:DT X ρ e (.str y))(hy:y.length<=av):DE X ρ (.FormattedValue e (-1) ah pos) (.str y):=λσ H Q R q pins s I=>by
 refine jJ (thn (ha σ H (λv H1=>v=.str y/\j4 H H1) R (λv H1 g e=>⟨e,g⟩) pins s I) λu s1 ⟨v,H1,I1,r,ev,g⟩=>?_);subst ev;obtain⟨t,rfl⟩:=(show ∃t,u=b9 y t from r)
 exact lH (λt' tk=>⟨.str y,H1,I1.un (t':=tk) Un.refl I1.hok,⟨_,rfl⟩,q _ H1 g rfl⟩) hy
noncomputable def Fy(out:aq):List aq->aq
 |[]=>out
 |y::ys=>Fy (out++y) ys
def DPs(X:Cx)(ρ:Rho):List au->List aq->Prop
 |[],[]=>True
 |e::es,y::ys=>DE X ρ e (.str y)/\DPs X ρ es ys
 |_,_=>False
theorem j0r:∀{es:List au}{ys:List aq}{out:aq}{n:Nat}{pins:k7v} {σ:St} {H0 H:Hp} {s:ar} {Q:VK},DPs X ρ es ys->(∀y∈ys,y.length<=10000)->out.length+10000*ys.length<=av->Inv X pins σ H s->Rep X.K ρ σ H->j4 H0 H ->
  (∀H',j4 H0 H'->Q (.str (Fy out ys)) H')->ay (aC X.prog X.w) X.A (joinParts out (evalEach es X.env)) (EP X pins σ Q) X.xe s
 |[],[],out,n,pins,σ,H0,H,s,Q,_,_,hl,I,R,g,q=>joinParts_nil ⟨.str out,H,I.un (t':=s.toks+1) Un.refl I.hok,⟨_,rfl⟩,q H g⟩ (by have:=hl;omega)
 |e::es,y::ys,out,n,pins,σ,H0,H,s,Q,hp,hy,hl,I,R,g,q=>by
  have hy0:=hy y (xj ..);rw[xq]at hl;refine joinParts_cons (thn (hp.1 σ H (λv H1=>v=.str y/\j4 H H1) R (λv H1 g e=>⟨e,g⟩) pins s I) λu s1 ⟨v,H1,I1,r,ev,g1⟩=>?_);subst ev;obtain⟨t,rfl⟩:=(show ∃t,u=b9 y t from r)
  have hz:(out++y).length<=out.length+10000:=by rw[strLen_append];omega
  exact⟨by omega,j0r (n:=n) hp.2 (λz hz=>hy z (xf _ hz)) nofun I1 (R.grow g1) (g.trans g1) q⟩
 |[],_::_,_,_,_,_,_,_,_,_,h,_,_,_,_,_,_=>h.elim
 |_::_,[],_,_,_,_,_,_,_,_,h,_,_,_,_,_,_=>h.elim
theorem DE.joined{a b:au}(h:DPs X ρ (a::b::es) ys)(hy:∀y∈ys,y.length<=10000)(hl:ys.length<=1000):DE X ρ (.JoinedStr (a::b::es) pos) (.str (Fy bJ ys)):=λσ H Q R q pins s I =>
 JoinedStr_many (j0r (n:=0) (out:=bJ) h hy (by
  have e:Str.empty.length=0:=rfl
  rw[e,cn];omega) I R (j4.refl H) λH' g=>q _ H' g rfl)
theorem jeb{Q:VK}{σ:St}{H:Hp}(he:Qk X e σ H Q)(hs:aj [e] X.env=[(ae,aD e X.env)]):Wl X [e] σ H (λvs H'=>∃v,vs=[v]/\Q v H') :=
 (jc (es:=[]) peS qb hs).to λpins s I=>thn (he pins s I) λu s' ⟨v,H',I',r,q⟩=>⟨v,H',I',r,⟨v,rfl,q⟩⟩
theorem DS.raise{C:ao}{bm bmN:List ak}{newId B Bn nid initId inN:String}(O:OwnCls x C bm newId X.mg X.base)(Fn:ExcBaseFacts Bn newId inN bmN)(hBn:bm.contains (.type Bn)=af)(FB:ExcBaseFacts B nid initId bm)(hc:X.calm=af)
  (ha:∀σ H,Rep X.K ρ σ H->Qk X e σ H λ_ H'=>j4 H H') (hP:P.ex x ρ) (hg:Gl X x) (hdb:(x==k7x)=ae) (he:aj [e] X.env=[(ae,aD e X.env)])
  : DS X ρ (.Raise (aa (.Call (.Name x np) [e] [] cpos)) ah pos) P:=λσ H E R q pins s I=>by
 obtain⟨tl,N,nm,qn,bs,hdct,sn,sub,ab,col,dd,k0,k1,k2,k3,k5,mN,hC,hN,hni,T⟩:=O.obj;refine wpAny_Raise_call_subU (C:=C) (nm:=nm) (q:=qn) (N:=N) (bs:=bs) (bm:=tl) (hdct:=hdct) (sn:=sn) (sub:=sub) (ab:=ab) (col:=col) (dd:=dd) (k0:=k0) (k1:=k1) (k2:=k2) (k3:=k3) (k5:=k5)
  Fn hBn FB (mN:=mN) (T.hasType FB.hasBase) (I.ok.hd hc) (by rw[he];rfl) hni (Vc I hg O.bound ⟨rfl,?_⟩ hdb)
 have hsp:=jeb (ha σ H R) he cpos pins s I;rw[he]at hsp ⊢;refine cW (thn hsp λus s2 ⟨vs,H1,I1,r,v,ev,g⟩=>⟨rfl,?_,I1.bk _ _ hC,hN.keeps I1.bk,T.keeps I1.bk,λh' e' hm=>?_⟩)
 .show us.length<=av;rw[<-r.length,ev];show 1<=av;rw[cn];omega
 .have nold:∀b,(∃o,s2.heap.get? b=aa o)->b≠e':=λb ⟨o,q⟩ z=>by rw[z,hm.new]at q;cases q
  obtain⟨t,ht,_,_⟩:=hm.there;refine q.ex x ρ σ H hP R (Fr0.refl _ _) pins H1 { s2 with heap:=h' } e' (.ref C) (I1.un (t':=s2.toks) (Un.kept hm.keeps) (I1.hok.kept hm.keeps)) g O.bound ⟨λb hb=>nold b (I1.old hb),?_,_,_,_,ht,rfl,rfl,rfl,.inl rfl⟩;cases z:H1 e' with
  |none=>rfl
  |some u=>exact absurd rfl (nold e' (I1.hok e' u z).get)
end
structure FlT(N:ao->Prop)(H:Hp)(h:aH)(e:ao)(C fl:ak):Prop where
 new:∀b,N b->b≠e
 free:H e=ah
 obj:∃(oe:dy)(vs:Array ak)(a0:ak)(T:ao)(oT:dy)(ts:Array ak),h.get? e=aa oe/\oe.cls=C/\oe.data=.fields vs/\vs[0]?=aa a0/\vs[1]?=aa (.ref T)/\T≠e/\h.get? T=aa oT/\oT.data=.fields ts/\ts[3]?=aa fl /\
  H T=ah/\∀b,N b->b≠T
section
variable{X:Cx}{pins:k7v}{σ:St}{H:Hp}{s:ar}{e:ao}{C fl:ak}{M:jI}{A:aI}{E:k7u}
end
end L2
end
section
namespace PySem.W
open PySem PySem.Spec PySem.Calls PyProof.Rows Builtin Builtin.ObjectAttr Builtin.Getset_descriptor
section
variable{prog:az}{w:aF}{A:aI}{E:k7u}{h:aH}{g:Array ft}{d:Drawn}{t:Nat}{os:OsState}{K:lN}{e C:ao}
end
end PySem.W
end
section
namespace L2
open PySem PySem.Spec PyProof.Rows
noncomputable def J8:List aq:=["WrongSize","NoAsk","NoWord","Twice","WrongAnswers","Unlike","NoPlace","NoText","WrongPrices","WrongWeights","NoPlan"]
noncomputable def bmV:List ak:=[.type "ValueError",.type "Exception",.type "BaseException",.type "object"]
noncomputable def j7m(K:k7t)(C:ao):Bool:=W.findIn K (.ref C) "__getattribute__" == aa (aa (.builtin "BaseException.__getattribute__"))&&(W.findIn K (.ref C) "__getattr__" == aa ah&&(W.subIn K (.ref C) (.type "BaseException")==aa af &&
 (W.findIn K (.ref C) "__class__" == aa (aa (.builtin "object.__class__"))&&(W.mroIn K C (.type "object")==aa af&&((W.clsIn K C).isSome&&W.excIn K C bmV "ValueError.__new__")))))
noncomputable def Oi(K:k7t):Bool:=J8.all λx=>match W.nsIn K ax x with
 |some (aa (.ref C))=>j7m K C&&(W.kitOne K (.ref C) (.type "ValueError")==aa af&&((match W.nsIn K ax "AskError" with
   |some (aa a)=>W.exmOne K (.ref C) a==aa af
   |_=>ae)&&J8.all λc=>match W.nsIn K ax c with
   |some (aa v)=>W.kitOne K (.ref C) v==aa (x==c)
   |_=>af))
 |some (aa _)=>ae
 |_=>af
structure XcOk(K:k7t)(C:ao):Prop where
 ga:W.findIn K (.ref C) "__getattribute__" = aa (aa (.builtin "BaseException.__getattribute__"))
 gt:W.findIn K (.ref C) "__getattr__" = aa ah
 sub:W.subIn K (.ref C) (.type "BaseException")=aa af
 cls:W.findIn K (.ref C) "__class__" = aa (aa (.builtin "object.__class__"))
 mro:W.mroIn K C (.type "object")=aa af
 is:(W.clsIn K C).isSome=af
 exc:W.excIn K C bmV "ValueError.__new__" = af
theorem jc5{K:k7t}{C:ao}(h:j7m K C=af):XcOk K C:=by unfold j7m at h;simp only[X8,beq_iff_eq]at h;exact⟨h.1,h.2.1,h.2.2.1,h.2.2.2.1,h.2.2.2.2.1,h.2.2.2.2.2.1,h.2.2.2.2.2.2⟩
structure ExOne(K:k7t)(x:aq)(C:ao):Prop where
 ok:XcOk K C
 val:W.kitOne K (.ref C) (.type "ValueError")=aa af
 ask:∃a,W.nsIn K ax "AskError" = aa (aa a)/\W.exmOne K (.ref C) a=aa af
 one:∀c∈J8,∀v,W.nsIn K ax c=aa (aa v)->W.kitOne K (.ref C) v=aa (x==c)
theorem ja2{K:k7t}(h:Oi K=af){x:aq}{o:ak}(hx:x∈J8)(e:W.nsIn K ax x=aa (aa o)):∃C,o=.ref C/\ExOne K x C:=by
 have q:=Xp.mp h x hx;rw[e]at q;cases o with
 |ref C =>
  refine⟨C,rfl,?_⟩;dsimp only at q;simp only[X8,beq_iff_eq]at q;obtain⟨q1,q2,q3,q4⟩:=q;refine⟨jc5 q1,q2,?_,λc hc v ev=>?_⟩
  .split at q3
   .rename_i a ea;exact⟨a,ea,beq_iff_eq.mp q3⟩
   .cases q3
  .have z:=Xp.mp q4 c hc;rw[ev]at z;exact beq_iff_eq.mp z
 |_=>cases q
theorem jdc{K:k7t}{h₀:aH}{C:ao}{bmB:List ak}{newId:String}{x:aq}{mg:k7w}(X:K.In h₀)(hb:mg x=aa (.ref C))(q:W.excIn K C bmB newId=af):OwnCls x C bmB newId mg h₀:=by
 refine⟨hb,?_⟩;unfold W.excIn at q;split at q
 .rename_i dd cd sl ho;split at q
  .rename_i C' bm k0 k1 k2 k3 n k5 hm hs;simp only[X8,beq_iff_eq,dN]at q;obtain⟨⟨⟨⟨⟨rfl,rfl⟩,hdel⟩,ht⟩,hok⟩,hni⟩:=q;obtain⟨nm,bs,mro,ns,qn,hd,sn,sub,ab,col,del⟩:=cd;dsimp only at hm hdel hok hni;subst hm hdel;have hsl:sl = #[k0,k1,k2,k3,aa (.builtin n),k5]:=by obtain⟨l⟩:=sl;simp only at hs;rw[hs]
   subst hsl;exact⟨bm,ns,nm,qn,bs,hd,sn,sub,ab,col,dd,k0,k1,k2,k3,k5,_,X _ _ ho,.of_isNs (W.isNs_of_in X hok),W.nsMap_none_of_in X hok hni,W.tail_of_in X ht⟩
  .cases q
 .cases q
theorem DS.raiseE{X:Cx}{ρ:Rho}{e:au}{x:aq}{o:ak}{np cpos pos:aR}{P:Po}(ha:Oi X.K=af)(hx:x∈J8)(hn:W.nsIn X.K ax x=aa (aa o))(hb:X.mg x=aa o)(hK:X.K.In X.base)(hc:X.calm=af)
  (he:∀σ H,Rep X.K ρ σ H->Qk X e σ H λ_ H'=>j4 H H') (hP:P.ex x ρ) (hg:Gl X x) (hdb:(x==k7x)=ae) (hs:aj [e] X.env=[(ae,aD e X.env)]):DS X ρ (.Raise (aa (.Call (.Name x np) [e] [] cpos)) ah pos) P:=by
 obtain⟨C,rfl,F⟩:=ja2 ha hx hn;exact DS.raise (jdc hK hb F.ok.exc) fU (by decide +kernel) fU hc he hP hg hdb hs
section
variable{X:Cx}{pins pins':k7v}{σ:St}{H:Hp}{s:ar}{xe:k7u}{e:ao}
noncomputable abbrev Cx.hnd(X:Cx)(e:ao):Cx:={ X with A:=X.A.mark (aa (.ref e)),calm:=ae,xe:=λ_ _=>False }
end
section
variable{X:Cx}{ρ:Rho}{i:Nat}{a:ao}{o:dy}{x y c c1 c2:aq}{p p1 p2 p3 p4 p5 pos:aR}{k:Bool}
end
structure KindsP(P:az)(w:aF)(K:k7t)(mg:k7w)(base:aH)(f x:aq)(l:List D):Prop where
 ex:∃fa:ao,mg f=aa (.ref fa)/\W.keepIn K (.ref fa)=af/\∀(A:aI)(outer:List dz)(s:ar)(H:Hp)(e:ao)(o:dy),A.depth+4<fh->A.units+150<bG->Env0 P w K mg base A outer s H->TabOk K H ->
  H e=aa (.frz o (.own e))->W.nsIn K ax x=aa (aa o.cls) ->
  cK (aC P w) A (.call (.ref fa) ⟨[.ref e],[]⟩) (CR CX0 outer P w H s (λv H'=>∃a xs,v=.ref a/\j4 H H'/\H a=ah/\H' a=aa (.lst xs)/\j6 K (del H' [a]) l xs) E0) s
 nl:qw l=af
abbrev Kinds(X:Cx)(f x:aq)(l:List D):Prop:=KindsP X.prog X.w X.K X.mg X.base f x l
section
variable{X:Cx}{ρ:Rho}{i j:Nat}{e:ao}{o:dy}{f x n k A:aq}{l:List D}{P:Po}{body:List aS}{p p1 p2 p3 p4 p5 pos hpos:aR}
end
section
variable{X:Cx}{ρ:Rho}{i j:Nat}{f n k:aq}{P:Po}{body:List aS}{p p1 p2 p3 p4 p5 pos hpos:aR}
end
section
variable{P:az}{w:aF}{K:k7t}{mg:k7w}{base:aH}{f:ao}{g x pn:aq}{st:aS}{fd:aN}{N:List aq}{l:List D}
end
section
variable{X:Cx}
def jmt:V->Option Int->Option Int->Hp->VK->Prop:=λx lo hi H Q=>∃z,x=.str z/\z.length<=av/\Q (.str (cb z lo hi)) H
theorem part_of{v:ak}{o:Option Int}(h:fq v o):∃l:Option (Int×dH),v=partValue l/\l.map (·.1)=o:=by
 cases h with
 |none=>exact⟨ah,rfl,rfl⟩
 |int i t=>exact⟨aa (i,t),rfl,rfl⟩
theorem jfo:SlR X jmt:=by intro pins s σ H x v vl vu lo hi sl Q I rx hs pl pu h;obtain⟨z,ex,hz,q⟩:=h;subst ex;obtain⟨t,ev⟩:=rx;subst ev;obtain⟨l,el,ml⟩:=part_of pl;obtain⟨u,eu,mu⟩:=part_of pu;subst el eu ml mu;obtain⟨o,h1,h2,h3⟩:=hs;refine⟨"str",_,PySem.F.slot_str_getitem.lookup,df s z t,wpAny_getItem_str_slice (l:=l) (u:=u) (st:=ah) ⟨o,h1,h2,h3⟩ rfl ?_⟩;exact post_val_or_str ⟨Xg (Txt.slice_le z _ _) hz,λt' k=>⟨.str _,H,I.tok k,⟨_,rfl⟩,q⟩⟩
theorem j28:∀{ts:List aq}{us:List ak},Vals (ts.map V.str) us->∃l:List (aq×dH),us=strValues l/\l.map (·.1)=ts
 |[],_,r=>by cases r;exact⟨[],rfl,rfl⟩
 |t::ts,_,r=>by
  cases r with
  |cons a b =>obtain⟨k,e⟩:=a;obtain⟨l,e1,e2⟩:=j28 b;subst e e1 e2;exact⟨(t,k)::l,rfl,rfl⟩
theorem jdi:MtR X "str.join" (λx vs H Q=>∃(sep:aq)(l:ao)(ts:List aq),x=.str sep/\vs=[.ref l]/\SqL X.K H l (ts.map V.str)/\cu sep ts=af/\Q (.str (br sep ts)) H):=by rintro pins s σ H x vs v us Q I rx rv ⟨sep,l,ts,e,e',sq,hok,q⟩;subst e e';obtain⟨t,ev⟩:=rx;subst ev;obtain⟨u,eu,ru⟩:=rv.one;subst eu;cases ru;obtain⟨its,ri,pl,_⟩:=I.list sq;obtain⟨ps,e1,e2⟩:=j28 ri;subst e1 e2;unfold cu at hok;rw[dN]at hok;exact bF iu (df _ _ _) F.entry_str_join (F.args_str_join_2 _ _) (meets_str_join_list sep t l ps hok) ⟨pl.isList,post_join ps ⟨joinFit_length hok,λt' k=>⟨.str _,H,I.tok k,⟨_,rfl⟩,q⟩⟩⟩
theorem j76 (hc:X.calm=af):Jy X (.builtin "sum") (λxs H Q=>∃(lst:Bool)(l:ao)(ns:List Int),xs=[.ref l]/\SqB X.K lst H l (ns.map V.int)/\Q (.int ns.sum) H):=by
 rintro pins s σ H xs us Q I r ⟨lst,l,ns,e,sq,q⟩;subst e;obtain⟨u,eu,ru⟩:=vals1 r;subst eu;cases ru;obtain⟨its,rv,pl,_⟩:=I.side sq;have hl:its.length=ns.length:=by rw[<-rv.length,xg]
 have val:∀i v,its.toArray[i]?=aa v->∃t,v=bu (ns.getD i 0) t:=by
  intro i v hv;have hi:i<its.length:=by obtain⟨h,_⟩:=Array.getElem?_eq_some_iff.mp hv;simpa using h
  have hi':i<ns.length:=by omega
  obtain⟨w1,hw,rw1⟩:=rv.get (x:=.int (ns.getD i 0)) (i:=i) (by rw[xu,kh hi',kj,kh hi'];rfl);have:its.toArray[i]?=aa w1:=by simpa using hw
  rw[this]at hv;cases hv;exact rw1
 have tot:preSum (λi=>ns.getD i 0) its.toArray.size=ns.sum:=by rw[preSum_getD,Tj (by rw[X5];omega)]
 have fin:∀(o:dy)(s':ar)(t':dH),Moved [s.heap.objs.size] (λa b=>b=a) { s with heap:=s.heap.push o } s'->EP X pins σ Q (.int (preSum (λi=>ns.getD i 0) its.toArray.size) t') s':=λo s' t' mv=>by obtain⟨hh,gg,dd,tt,oo⟩:=s';obtain⟨m1,m2,m3,m4,m5⟩:=mv;cases m2;cases m3;cases m4;rw[tot];refine⟨.int _,H,I.kept (t':=tt) λb o e=>m1 b o ?_ (km _ e),⟨_,rfl⟩,q⟩;intro z;rw[X4.mp z]at e;exact Pj _ (xr e)
 unfold jf at pl;cases lst with
 |true =>
  rw[if_pos rfl]at pl;have hlt:l<s.heap.objs.size:=by obtain⟨_,e,_⟩:=pl;exact xr e
  refine ku (cy pl ⟨s.heap.objs.size,[s.heap.objs.size,l],[s.heap.objs.size],_,its.toArray.size,_,_,λi=>ns.getD i 0,rfl,(Walks.list (A:=X.A.in1) (I.ok.hd hc) _ _ (Xd hlt) its.toArray).toS,⟨⟨_,X3 _ rfl,rfl,rfl⟩,pl.push _⟩,?_,val,λs' t' mv=>fin _ s' t' mv⟩);intro b hb;show b<(s.heap.push _).objs.size;rw[Xk];rcases xn.mp hb with z|z
  .rw[z];exact Th _
  .rw[X4.mp z];exact su hlt
 |false =>
  rw[if_neg xm]at pl;have hlt:l<s.heap.objs.size:=by obtain⟨_,e,_⟩:=pl;exact xr e
  refine ku (fW pl ⟨s.heap.objs.size,[s.heap.objs.size,l],[s.heap.objs.size],_,its.toArray.size,_,_,λi=>ns.getD i 0,rfl,(Walks.tuple (A:=X.A.in1) (I.ok.hd hc) _ _ (Xd hlt) its.toArray).toS,⟨⟨_,X3 _ rfl,rfl,rfl⟩,pl.push _⟩,?_,val,λs' t' mv=>fin _ s' t' mv⟩);intro b hb;show b<(s.heap.push _).objs.size;rw[Xk];rcases xn.mp hb with z|z
  .rw[z];exact Th _
  .rw[X4.mp z];exact su hlt
end
section
variable{X:Cx}{ρ:Rho}{a b e:au}{ds:List D}{i j:Int}{pos p p1 p2:aR}{y z:aq}{lo hi:Option au}{l u:Option Int}
theorem Mx{K:k7t}{H:Hp}:∀{ts:List aq}{xs:List V},j6 K H (ts.map D.str) xs->xs=ts.map V.str
 |[],_,h=>h
 |t::ts,_,⟨x,r,e,h,l⟩=>by subst e;cases(show x=.str t from h);rw[Mx l];rfl
theorem Qt{K:k7t}{H:Hp}:∀{ts:List Int}{xs:List V},j6 K H (ts.map D.int) xs->xs=ts.map V.int
 |[],_,h=>h
 |t::ts,_,⟨x,r,e,h,l⟩=>by subst e;cases(show x=.int t from h);rw[Qt l];rfl
theorem DE.lenS (ha:DT X ρ a (.str y)) (hy:y.length<=av) (hm:X.mg "len" = ah) (hg:Gl X "len") (hs:aj [a] X.env=[(ae,aD a X.env)]):DE X ρ (.Call (.Name "len" p) [a] [] pos) (.int y.length):=λσ H Q R q =>(vh j1e hg hm cq (jc peS qb hs) (by decide) (by decide) hs).to (ha σ H _ R λv H1 g1 e1=>⟨y,by rw[show v=.str y from e1],hy,q _ H1 g1 rfl⟩)
theorem DE.catS(ha:DT X ρ a (.str y))(hb:DT X ρ b (.str z))(hl:y.length+z.length<=av):DE X ρ (.BinOp a .Add b pos) (.str (y++z)):=λσ H Q R q =>(Yb j3t peS peS).to (ha σ H _ R λv H1 g1 e1=>hb σ H1 _ (R.grow g1) λu H2 g2 e2=>⟨y,z,e1,e2,hl,q _ H2 (g1.trans g2) rfl⟩)
theorem DE.ixC{c:Nat}(ha:DT X ρ a (.str y))(hb:DT X ρ b (.int i))(hy:y.length<=av)(h:L2.atI y.cps.toList i=aa c)(hs:Yo b):DE X ρ (.Subscript a b pos) (.str ⟨#[c]⟩):=λσ H Q R q =>(Od jhi peS peS hs).to (ha σ H _ R λv H1 g1 e1=>hb σ H1 _ (R.grow g1) λu H2 g2 e2=>⟨y,i,c,e1,e2,hy,h,q _ H2 (g1.trans g2) rfl⟩)
theorem DE.sliceS(ha:DT X ρ a (.str y))(hl:DP X ρ lo l)(hu:DP X ρ hi u)(hy:y.length<=av):DE X ρ (.Subscript a (.Slice lo hi ah p2) pos) (.str (cb y l u)):=λσ H Q R q =>(Bu jfo peS poS poS).to (ha σ H _ R λv H1 g1 e1=>hl σ H1 _ (R.grow g1) λH2 g2=>hu σ H2 _ (R.grow (g1.trans g2)) λH3 g3=>⟨y,e1,hy,q _ H3 (g1.trans (g2.trans g3)) rfl⟩)
theorem DE.int1 {k:Bool} (ha:DT X ρ a (.bl k)) (hm:X.mg "int" = ah) (hg:Gl X "int") (hs:aj [a] X.env=[(ae,aD a X.env)]):DE X ρ (.Call (.Name "int" p) [a] [] pos) (.int (if k then 1 else 0)):=λσ H Q R q =>(Mh j7e hg hm boot_int (jc peS qb hs) (by decide) (by decide) hs).to (ha σ H _ R λv H1 g1 e1=>.inr ⟨k,by rw[show v=.bl k from e1],q _ H1 g1 rfl⟩)
theorem DE.sum (lst:Bool) {ns:List Int} (ha:DT X ρ a (D.seq lst (ns.map D.int))) (hm:X.mg "sum" = ah) (hc:X.calm=af) (hg:Gl X "sum") (hs:aj [a] X.env=[(ae,aD a X.env)]):DE X ρ (.Call (.Name "sum" p) [a] [] pos) (.int ns.sum):=λσ H Q R q =>
 (vh (j76 hc) hg hm boot_sum (jc peS qb hs) (by decide) (by decide) hs).to (ha σ H _ R λv H1 g1 e1=>by
  obtain⟨t,xs,ev,sq,en⟩:=Q6 e1
  subst ev
  rw[Qt en]at sq
  exact⟨lst,t,ns,rfl,sq,q _ H1 g1 rfl⟩)
theorem DE.join{sep:aq}{ts:List aq}{n:Nat}{p0:aR}(ha:DT X ρ a (.lst (ts.map D.str)))(hok:cu sep ts=af)
  (hfew:((aQ p2 (aj [a] X.env)).all (λx=>!x.1)&&(bP p2 (b8 [] X.env)).all (λx=>x.1.isSome)&&decide (([a]:List au).length+([]:List b7).length+(if ([]:List b7).isEmpty then 0 else 1)<30))=af)
  (hbase:aW (.Constant (.str sep) n p0) "join" X.env (aD (.Constant (.str sep) n p0) X.env)=aD (.Constant (.str sep) n p0) X.env)
  (hline:(p1.endLine==p2.line)=af) (hs:aj [a] X.env=(ae,aD a X.env)::aj [] X.env):DE X ρ (.Call (.Attribute (.Constant (.str sep) n p0) "join" p1) [a] [] p2) (.str (br sep ts)):=λσ H Q R q =>
 (Ui gr iu PySem.F.type_str_join jdi Mg (jc peS qb hs) hbase hfew hline hs rfl).to ⟨rfl,ha σ H _ R λv H1 g1 ⟨t,xs,e,sq,en⟩=>⟨sep,t,ts,rfl,by rw[e],by rw[Mx en]at sq;exact sq,hok,q _ H1 g1 rfl⟩⟩
end
section
variable{prog:az}{w:aF}{A:aI}{lst:Bool}{j t:ao}{its:Array ak}
theorem j47(hh:A.handled=ah)(hne:t≠j):Draws prog w A j [j,t] its.size (λi v=>its[i]?=aa v) (λi h=>ji lst h j t i/\jf lst h t its) where
 live:=λ_ _ st=>by obtain⟨o,e,_⟩:=st.1.obj;exact⟨o,e⟩
 frame:=λ_ h h' st hk=>⟨st.1.stay λo e=>hk j (by simp) o e,by
  have q:=st.2
  unfold jf at q ⊢
  cases lst with
  |true=>rw[if_pos rfl]at q ⊢;exact q.at λo e=>hk t (by simp) o e
  |false=>rw[if_neg xm]at q ⊢;exact q.at λo e=>hk t (by simp) o e⟩
 item:=λi s Q E hi st hQ=>Zf st.1 st.2 (y:=its[i]) (by simp[hi]) λh' hit' hs'=>hQ _ h' s.toks (by simp[hi]) ⟨hit',st.2.ext hs'.extBut hne⟩ hs'
 done:=λs Q E st hE=>Yq hh st.1 st.2 (by simp) hE
theorem j6m{n:Nat}(hh:A.handled=ah)(hne:t≠j)(hn:its[n]?=ah):Draws prog w A j [j,t] n (λi v=>its[i]?=aa v) (λi h=>i=n/\ji lst h j t i/\jf lst h t its) where
 live:=λ_ _ st=>by obtain⟨o,e,_⟩:=st.2.1.obj;exact⟨o,e⟩
 frame:=λ_ h h' st hk=>⟨st.1,st.2.1.stay λo e=>hk j (by simp) o e,by
  have q:=st.2.2
  unfold jf at q ⊢
  cases lst with
  |true=>rw[if_pos rfl]at q ⊢;exact q.at λo e=>hk t (by simp) o e
  |false=>rw[if_neg xm]at q ⊢;exact q.at λo e=>hk t (by simp) o e⟩
 item:=λi s Q E hi st hQ=>absurd st.1 (Xd hi)
 done:=λs Q E st hE=>Yq hh st.2.1 st.2.2 hn hE
end
noncomputable abbrev eh2(h:aH)(lst:Bool)(t:ao):aH:=(zh1 h lst t).push { cls:=.type "enumerate",data:=.fields #[.none,.bool ae,.ref h.objs.size,fj 0,.none,.none] }
theorem ja4 {lst:Bool} (t:ao) (its:Array ak):kz (bX.«enumerate.__new__» ⟨[.type "enumerate",.ref t],[]⟩) (λ_ R s=>jf lst s.heap t its/\R (.ok (.ret (.ref (zh1 s.heap lst t).objs.size))) { s with heap:=eh2 s.heap lst t }) :=
 .of_wp λprog w A R s h=>by
  obtain⟨hp,g,d,tk,os⟩:=s;obtain⟨h1,h⟩:=h;have hsub:=sub_enumerate;have e1:jf lst (Shared.heap ⟨hp,g,d,tk,os⟩) t its:=h1;have ld:∃o:dy,hp.get? t=aa o:=by
   unfold jf at e1;cases lst with
   |true=>rw[if_pos rfl]at e1;obtain⟨o,e,_⟩:=e1;exact⟨o,e⟩
   |false=>rw[if_neg xm]at e1;obtain⟨o,e,_⟩:=e1;exact⟨o,e⟩
  obtain⟨o,ho⟩:=ld
  wp_walk using cx ho
  refine wpAny_stack_any λstk=>?_;refine aw ?_;split
  .rename_i cl _ _ _ _ _;cases(cl==cI "enumerate")
   .wp_walk using cx ho,Vt e1
    exact⟨_,rfl,h⟩
   .wp_walk using cx ho,Vt e1
    exact⟨_,rfl,h⟩
  .wp_walk using cx ho,Vt e1
   exact⟨_,rfl,h⟩
noncomputable def Ite(K:k7t)(lst:Bool)(t:ao):It :=
 ⟨λi H=>∃xs x,SqB K lst H t xs/\xs[i]?=aa x,
 λi H v H'=>∃p x,v=.ref p/\H p=ah/\H'=upd H p (.tup [.int (i:Int),x])/\∀xs,SqB K lst H t xs->xs[i]?=aa x,
 λi H=>∃xs,SqB K lst H t xs/\xs.length<=i⟩
theorem j4v{P:az}{w:aF}{K:k7t}{es:List au}{n:Nat}{pos:aR}{lst:Bool}{z j t:ao}(hzj:z≠j)(hzt:z≠t)(htj:t≠j) :
  Turn P w K (.Tuple es n pos) (Ite K lst t) [z,j] z (λi h=>(∃old,IsEnum h z j (i:Nat) old)/\ji lst h j t i) where
 mem:=by simp
 obj:=λi h ⟨⟨old,hz⟩,h1⟩ c hc=>by
  simp at hc;rcases hc with rfl|rfl
  .exact⟨_,hz,λv e=>by cases e⟩
  .exact h1.obj
 keep:=λi h h' ⟨⟨old,hz⟩,h1⟩ k=>⟨⟨old,k z (by simp) _ hz⟩,h1.stay λo e=>k j (by simp) o e⟩
 item:=by
  rintro X hP hw hK hc i pins s σ H E I hf ⟨⟨old,hz⟩,h1⟩ ⟨xs,x,sx,hx⟩;subst hP hw hK;obtain⟨us,ru,qu,_⟩:=I.side sx;obtain⟨u,hu,rx⟩:=ru.get hx;have hlt:i<us.toArray.size:=by obtain⟨h,_⟩:=Xf.mp hu;simpa using h
  refine wpAny_pyNext_enum_itemD (j47 (A:=X.A.in1) (I.ok.hd hc) htj) hz ⟨h1,qu⟩ hlt hzj (by simp[hzj,hzt]) λv h' tk hv ho st ht sz kp=>⟨_,rfl,?_⟩
  have ev:u=v:=by
   have:us.toArray[i]?=aa u:=by simpa using hu
   rw[this]at hv;exact aE hv
  subst ev;refine wpAny_letOwnedTupleGo_enum (s:={ s with heap:=h',toks:=tk+1 }) ho λh'' z'' sb=>?_
  replace sb:cw z h' h'':=sb
  have zlt:z<s.heap.objs.size:=xr hz;have kp':∀c o,c∉[z,j]->s.heap.get? c=aa o->h''.get? c=aa o:=λc o nc e=>by simp at nc;exact sb.extBut _ _ nc.1 (kp c o nc.1 nc.2 e)
  have pt:iE h'' s.heap.objs.size [.int i tk,u].toArray:=⟨_,sb.extBut _ _ (Pg zlt) ht,rfl,_,rfl⟩
  have I2:=(I.chgT hf kp' (xs:=[.int (i:Int),x]) (.cons ⟨tk,rfl⟩ (.cons rx .nil)) (by show 2<=av;decide) pt (V5.of (sb.extBut _ _ (Pg zlt) ht))).tok (tk+1);refine⟨.ref s.heap.objs.size,_,I2,rfl,⟨_,x,rfl,I.fresh,rfl,λws hw=>by rw[I.side_inj hw sx];exact hx⟩,⟨⟨u,?_⟩,st.1.ext sb.extBut (dW hzj)⟩,λc hc=>?_⟩
  .have e:((i+1:Nat):Int)=(i:Int)+1:=by push_cast;rfl
   rw[e];exact z''
  .obtain⟨o,e⟩:∃o,s.heap.get? c=aa o:=by
    simp at hc;rcases hc with rfl|rfl
    .exact⟨_,hz⟩
    .obtain⟨o,e,_⟩:=h1.obj;exact⟨o,e⟩
   rw[jj (Xd (xr e))];exact(hf c hc).1
 done:=by
  rintro X hP hw hK hc i pins s σ H E I hf ⟨⟨old,hz⟩,h1⟩ ⟨xs,sx,hend⟩;subst hP hw hK;obtain⟨us,ru,qu,_⟩:=I.side sx;have e1:=ru.length;have hn:us.toArray[i]?=ah:=by simp;omega
  refine wpAny_pyNext_enum_endD (j6m (A:=X.A.in1) (I.ok.hd hc) htj hn) hz ⟨rfl,h1,qu⟩ λh' kp=>⟨rfl,I.chg hf λc o nc e=>?_⟩
  simp at nc;exact kp c o nc.2 e
 self:=λ_ _ _ _ _ ⟨⟨old,hz⟩,_⟩ h=>kq hz h
section
variable{X:Cx}{ρ:Rho}{a b:au}{es:List au}{n:Nat}{pos p q1 q2:aR}{ds ds':List D}{lst:Bool}
noncomputable def Jv(ds:List D):List D:=ds.zipIdx.map λp=>D.tup [.int (p.2:Int),p.1]
theorem Kw{i:Nat}:(Jv ds)[i]?=(ds[i]?).map λd=>D.tup [.int (i:Int),d]:=by unfold Jv;rw[xu,List.getElem?_zipIdx];cases ds[i]?<;>simp
theorem j6a{K:k7t}{F:Hp}{t:ao}{xs:List V}(s1:SqB K lst F t xs)(e1:j6 K F ds xs):Uw K F (Ite K lst t) (Jv ds):=λi H A g hA=>by
 have s1':SqB K lst H t xs:=jk.seqB (g.seqB s1);have hl:(Jv ds).length=ds.length:=by unfold Jv;rw[xg,fe]
 refine⟨λh=>?_,λh=>⟨xs,s1',?_⟩,λv H' ⟨p,x,ev,np,eH,hx⟩=>?_⟩
 .rw[hl]at h;obtain⟨x,hx,_⟩:=e1.get (kh h);exact⟨xs,x,s1',hx⟩
 .rw[hl]at h;rw[e1.length];exact h
 .subst eH;refine⟨j7 np,λd hd=>?_⟩;rw[Kw]at hd;cases z:ds[i]? with
  |none=>rw[z]at hd;cases hd
  |some d1 =>rw[z]at hd;cases hd;obtain⟨x',hx',ex⟩:=e1.get z;have q1:=hx xs s1';rw[hx']at q1;have q1:=aE q1;subst q1;have pA:p∉A:=λz=>hA p z np;have gg:j4 F (del (upd H p (.tup [.int (i:Int),x'])) A):=g.trans (je (j7 np));exact⟨p,[.int (i:Int),x'],ev,.inl (.inl (by rw[j5 pA];exact jx)),.int (i:Int),[x'],rfl,rfl,x',[],rfl,ex.mono gg,rfl⟩
theorem DI.enum (lst:Bool) (ha:DE X ρ a (D.seq lst ds)) (hm:X.mg "enumerate" = ah) (hg:Gl X "enumerate") (hs:aj [a] X.env=[(ae,aD a X.env)]):DI X ρ (.Tuple es n q1) (.Call (.Name "enumerate" p) [a] [] pos) (Jv ds):=λσ H R r q pins s I=>by
 have args:Wl X [a] σ H (λvs H'=>∃v,vs=[v]/\j4 H H'/\Enc X.K (del H' (owns ρ)) (D.seq lst ds) v) :=
  (jc peS qb hs).to (ha σ H _ r λv H1 g1 e1=>⟨v,rfl,g1,e1⟩)
 refine iF (Jb I hg hm boot_enumerate (callWith_type1 (thn (args pos pins s I) λus s1 h1=>?_) hs rfl));obtain⟨vs,H1,I1,r1,v,ev,g1,e1⟩:=h1;subst ev;obtain⟨t,xs,et,sq,en⟩:=Q6 e1;subst et;obtain⟨u1,eu,ru1⟩:=r1.one;subst eu;cases ru1;obtain⟨w1,rw1,qw1,_⟩:=I1.side (jk.seqB sq);refine iS F.called_enumerate (by decide) (F.typeCall_enumerate_1 _) (F.newCall_enumerate_1 _) (λobj=>F.args_object_init_2 obj _) F.entry_enumerate_new (ja4 (lst:=lst) t w1.toArray) ⟨qw1,?_⟩;have z1:(zh1 s1.heap lst t).objs.size=s1.heap.objs.size+1:=Xk ..;have b2:(eh2 s1.heap lst t).get? (zh1 s1.heap lst t).objs.size=aa _:=X3 _ rfl;have b1:(eh2 s1.heap lst t).get? s1.heap.objs.size=aa _:=km _ (X3 _ rfl);have kp:∀c o,s1.heap.get? c=aa o->(eh2 s1.heap lst t).get? c=aa o:=λc o e=>km _ (km _ e);show _/\_;rw[z1]at b2 ⊢;have I2:Inv X pins σ H1 { s1 with heap:=eh2 s1.heap lst t }:=I1.kept (t':=s1.toks) kp;have lt1:t<s1.heap.objs.size:=by
  unfold jf at qw1;cases lst with
  |true=>rw[if_pos rfl]at qw1;obtain⟨_,e,_⟩:=qw1;exact xr e
  |false=>rw[if_neg xm]at qw1;obtain⟨_,e,_⟩:=qw1;exact xr e
 have side:ji lst (eh2 s1.heap lst t) s1.heap.objs.size t 0:=by
  unfold ji;cases lst with
  |true=>rw[if_pos rfl];exact⟨_,b1,rfl,rfl⟩
  |false=>rw[if_neg xm];exact⟨_,b1,rfl,rfl⟩
 refine⟨⟨_,b2,rfl⟩,kq (s:={ s1 with heap:=eh2 s1.heap lst t }) b2 ?_⟩;refine⟨_,_,_,Ite X.K lst t,H1,rfl,I2,j4v (j:=s1.heap.objs.size) (Nat.succ_ne_self _) (Pg (su lt1)) (Xd lt1),⟨⟨_,b2⟩,side⟩,λc hc=>?_,q _ H1 g1 (j6a sq en)⟩;have hc':c=s1.heap.objs.size+1\/c=s1.heap.objs.size:=by simpa using hc
 have hge:s1.heap.objs.size<=c:=by rcases hc' with e|e<;>rw[e]<;>first|exact X7 _|exact jK _ _
 obtain⟨f0,f1,f2,f3,f4,f5⟩:=I1.fpOk hge (I1.hok.fresh hge);exact⟨f0,f1,f2,f3,f4,f5⟩
end
section
variable{X:Cx}
theorem j8u:OpR X (bj .FloorDiv) (rI (λ_ j=>0<j/\j<18446744073709551616) λi j=>.int (i/j)):=opI λi j _ _ _ _ _ hc q=>by
 have e:i/j=i.fdiv j:=by rw[gB _ nofun]
 refine floordiv_int nofun (by rw[<-e];exact q) (.inl (PyProof.noPylong_of_log2 ?_))
 have h2:(2:Nat)^64=18446744073709551616:=by decide
 have:=(lK (n:=j.natAbs) (k:=64) nofun).mpr (by rw[h2];omega);omega
end
section
variable{X:Cx}{ρ:Rho}{a b e:au}{d d':D}{ds:List D}{i j:Int}{pos p p1 p2:aR}{P:Po}
theorem DE.fdivB(ha:DT X ρ a (.int i))(hb:DT X ρ b (.int j))(h:0<j/\j<18446744073709551616):DE X ρ (.BinOp a .FloorDiv b pos) (.int (i/j)):=DE.arI (g:=λi j=>i/j) j8u ha hb h
end
noncomputable def ddS(acc:List aq)(v:aq):List aq:=if acc.any (· == v)=af then acc else acc++[v]
noncomputable def dd(ts:List aq):List aq:=ts.foldl ddS []
theorem jem(ts:List aq)(v:aq):dd (ts++[v])=ddS (dd ts) v:=by simp[dd]
theorem Dp:∀(ts acc:List aq),(ts.foldl ddS acc).length<=acc.length+ts.length
 |[],acc=>by simp
 |v::ts,acc=>by
  have h:=Dp ts (ddS acc v);have h2:(ddS acc v).length<=acc.length+1:=by unfold ddS;split<;>simp
  rw[Pz,xq];omega
def Z0(P:az)(w:aF)(h:aH)(S:ao)(ts:List aq):Prop:=h.SetOf (dG P w) S (λk=>(dd ts).any (· == k)) (dd ts).length
section
variable{P:az}{w:aF}{A:aI}{I S:ao}{fp wr:List ao}{Gn:Array ft->Array ft->Prop}{Pv:Nat->ak->Prop}{St:Nat->ar->Prop}{ts:List aq}
theorem Z0.stay{h h':aH}(x:Z0 P w h S ts)(k:∀o,h.get? S=aa o->h'.get? S=aa o):Z0 P w h' S ts:=by obtain⟨o,es,ep,t,ho,r⟩:=x;exact⟨o,es,ep,t,k o ho,r⟩
theorem Z0.more{h:aH}{v:aq}(x:h.SetOf (dG P w) S (λk=>(dd ts).any (· == k) || decide (k=v)) (if (dd ts).any (· == v)=af then(dd ts).length else(dd ts).length+1)):Z0 P w h S (ts++[v]):=by
 unfold Z0;rw[jem];have e1:(λk=>(ddS (dd ts) v).any (· == k))=λk=>(dd ts).any (· == k) || decide (k=v):=by
  funext k
  unfold ddS;by_cases h1:(dd ts).any (· == v)=af
  .rw[if_pos h1];by_cases h2:k=v
   .subst h2;rw[h1];rfl
   .rw[decide_eq_false h2,gJ]
  .rw[if_neg h1,List.any_append];congr 1;by_cases h2:k=v
   .subst h2;simp
   .have:¬v=k:=λz=>h2 z.symm;simp[h2,this]
 have e2:(ddS (dd ts) v).length=if (dd ts).any (· == v)=af then(dd ts).length else(dd ts).length+1:=by unfold ddS;split<;>simp
 rw[e1,e2];exact x
theorem fill{R:fm->ar->Prop}(W:WalksS P w A.in1 I fp wr Gn ts.length Pv St)(out:S∉fp)(hv:∀i v,Pv i v->∃x t,ts[i]?=aa x/\v=.str x t)(room:ts.length+1<gw):∀(r i:Nat)(q:ar),i+r=ts.length->St i q->Z0 P w q.heap S (ts.take i) ->
  (∀q',Moved (S::wr) Gn q q'->Z0 P w q'.heap S ts->R (.ok (.ret .none)) q')->cK (aC P w) A (.builtin "set.update.loop" ⟨[.ref S,.ref I],[]⟩) R q:=by
 have outw:S∉wr:=λz=>out (W.sub S z);have wider:∀b∈wr,b∈S::wr:=λb z=>xf S z;intro r;induction r with
 |zero =>intro i q hi st fu fin;have e:i=ts.length:=hi;subst e;refine dw dP ?_;rw[cT c8 _];refine ai (m:=dS (.ref I)) (W.done q _ _ st λq' mv=>?_);refine aw (fin q' (mv.mono wider) ?_);rw[cU]at fu;exact fu.stay λo z=>mv.heap S o outw z
 |succ r ih =>
  intro i q hi st fu fin;have lt:i<ts.length:=by omega
  refine dw dP ?_;rw[cT c8 _];refine ai (m:=dS (.ref I)) (W.item i q _ _ lt st λv q' pv st' mv=>?_);obtain⟨x,t,hx,ev⟩:=hv i v pv;subst ev;have fu':Z0 P w q'.heap S (ts.take i):=fu.stay λo z=>mv.heap S o outw z;refine ai (m:=eC [b9 x t] (setAdd S (.str x t))) (bU ?_);unfold setAdd;refine bU (ai ((dG P w).pyHash (k:=x) (strKind_is P w x t) ?_));have small:(dd (ts.take i)).length+1<gw:=by
   have:=Dp (ts.take i) [];have e:(dd (ts.take i)).length<=i:=by
    have:([]:List aq).length+(ts.take i).length<=i:=by rw[Xu,Tp];omega
    exact Xg (Dp (ts.take i) []) this
   omega
  refine wpAny_setAddHashed_of (knd:=dG P w) (strKind_is P w x t) rfl fu' small λh' sb full2=>?_;have next:Z0 P w h' S (ts.take (i+1)):=by rw[S6,hx];exact Z0.more full2
  refine aw ⟨iq c8 _,ih (i+1) _ nofun (W.frame _ q' _ _ st' (ph _) λb hb o e=>?_) next λq2 mv2 full3=>?_⟩
  .have ne:b≠S:=λz=>out (z▸hb);rw[sb.2 b ne];exact e
  .refine fin q2 (Moved.trans W.gtrans ((mv.mono wider).then_heap (ph _) λb o hb e=>?_) mv2) full3;have ne:b≠S:=λz=>hb (by rw[z];exact xj ..);rw[sb.2 b ne];exact e
end
section
variable{P:az}{w:aF}{A:aI}{E:k7u}{s:ar}
noncomputable abbrev Q3(led:Bool):dy:={ cls:=.type "set",dict:=ah,data:=.set #[] 0 (.fresh 0 0 led) }
theorem j9t{led:Bool}{l:ao}{its:Array ak}{ts:List aq}{X:iT->ar->Prop}{Y:k7u}(hh:A.handled=ah)(hl:s.heap.IsList l its)(hts:∀(i:Nat)(v:ak),its[i]?=aa v->∃x t,ts[i]?=aa x/\v=.str x t)(hn:its.size=ts.length)(room:ts.length+1<gw)
  (q:∀h' tk,Z0 P w h' s.heap.objs.size ts->(∀b o,b<s.heap.objs.size->s.heap.get? b=aa o->h'.get? b=aa o)->X (.done (.ret .none)) { s with heap:=h',toks:=tk }) :
  ay (aC P w) A.in1 (bX.«set.__init__» ⟨[.ref s.heap.objs.size,.ref l],[]⟩) X Y { s with heap:=s.heap.push (Q3 led) }:=by
 obtain⟨⟨oc,od,oda,os⟩,e1,e2,n,e3⟩:=hl;have e2:oc=.type "list":=e2;have e3:oda=.seq its n:=e3;subst e2 e3;have here:(s.heap.push (Q3 led)).get? s.heap.objs.size=aa (Q3 led):=X3 _ rfl;have lst:(s.heap.push (Q3 led)).get? l=aa { cls:=.type "list",dict:=od,data:=.seq its n,slots:=os }:=km _ e1;have ne1:=PySem.F.sub_list_set;have ne2:=PySem.F.sub_list_frozenset;have ne3:(cI "list" == cI "dict")=ae:=by decide
 have isl:(s.heap.push (Q3 led)).IsList l its:=⟨_,lst,rfl,n,rfl⟩
 unfold bX.«set.__init__» noKeywords Builtin.Frozenset.updateFrom;generalize keep:iQ=PI
 wp_walk
 subst keep;refine cy isl (ai (wpAny_runValue ?_));have lt:l<s.heap.objs.size:=xr e1;have sz:(s.heap.push (Q3 led)).objs.size=s.heap.objs.size+1:=Xk ..;have walk:=(Walks.list (prog:=P) (w:=w) (A:=A.in1.in1) (by simp[hh]) (s.heap.push (Q3 led)).objs.size l (by rw[sz];exact Xd (su lt)) its).toS;rw[hn]at walk;refine fill (ts:=ts) (S:=s.heap.objs.size) walk (λz=>?_) hts room ts.length 0 { s with heap:=(s.heap.push (Q3 led)).push { cls:=.type "list_iterator",data:=.fields #[.ref l,.int 0 0] } } nofun ⟨⟨_,X3 _ rfl,rfl,rfl⟩,isl.push _⟩ ?_ λq' mv full=>?_
 .rw[sz]at z;rcases xn.mp z with z|z
  .exact Xd (Th _) z
  .exact Pg lt (X4.mp z)
 .have z:Z0 P w (s.heap.push (Q3 led)) s.heap.objs.size []:=(setObjOf_fresh (knd:=dG P w) led).setOf here (by unfold gw;omega);exact z.stay λo e=>km _ e
 .obtain⟨h',g',d',tk',os'⟩:=q';obtain⟨m1,m2,m3,m4,m5⟩:=mv;cases m2;cases m3;cases m4;refine aw (aw (q h' tk' full λb o hb e=>m1 b o ?_ (km _ (km _ e))));intro z;rw[sz]at z;rcases xn.mp z with z|z
  .exact Xd hb z
  .exact Xd (su hb) (X4.mp z)
theorem j77{l:ao}{its:Array ak}{ts:List aq}{Q:k7u}(hh:A.handled=ah)(hl:s.heap.IsList l its)(hts:∀(i:Nat)(v:ak),its[i]?=aa v->∃x t,ts[i]?=aa x/\v=.str x t)(hn:its.size=ts.length)(room:ts.length+1<gw)
  (q:∀h' tk,Z0 P w h' s.heap.objs.size ts->(∀b o,b<s.heap.objs.size->s.heap.get? b=aa o->h'.get? b=aa o)->Q (.ref s.heap.objs.size) { s with heap:=h',toks:=tk }):ay (aC P w) A (call (.type "set") [.ref l]) Q E s:=by
 have cs:=PySem.F.called_set;obtain⟨c0,tl0,hm0⟩:=cs.mro;have m1:=cs.made;have m2:=cs.sub;have m3:=cs.notType;have m4:=cs.canCreate;have m5:=PySem.F.typeCall_set_1 (.ref l);refine fX (codeAny_of_tree (?_:ay _ _ (callAny (.type "set") _) _ _ _));refine aw ⟨Code.quiet_builtin _ (by decide +kernel),dw PySem.F.entry_type_call ?_⟩;rw[Around.under_plain (weight_type_call_type "set" [.ref l] []) rfl]
 repeat (any_goals (first|assumption|wp_step))
 refine bO (PySem.code_set_new_1 (.ref l) (E:=E) (Q₁:=λo q1=>∃led:Bool,o=.ref s.heap.objs.size/\q1={ s with heap:=s.heap.push (Q3 led) }) λled=>⟨led,rfl,rfl⟩) λr q1 hr=>?_;cases r with
 |error e=>exact hr
 |ok fl =>
  cases fl with
  |ret o =>
   obtain⟨led,eo,eq1⟩:=hr;subst eo eq1;have ty:Shared.TypeIs { s with heap:=s.heap.push (Q3 led) } (.ref s.heap.objs.size) "set":=⟨_,X3 _ rfl,rfl⟩
   have m6:=cs.init.lookup;have m7:=cs.init.bind (.ref s.heap.objs.size)
   repeat (any_goals (first|assumption|wp_step))
   refine bO (codeAny_call_builtin (R:=wants (λr q2=>r=.none/\∃h' tk,q2={ s with heap:=h',toks:=tk }/\Z0 P w h' s.heap.objs.size ts/\∀b o,b<s.heap.objs.size->s.heap.get? b=aa o->h'.get? b=aa o) E) cs.init.plain PySem.F.entry_set_init (PySem.check_set_init_1 ty ?_)) λr2 q2 hr2=>?_
   .exact j9t (led:=led) (by simp[hh]) hl hts hn room λh' tk full old=>⟨rfl,h',tk,rfl,full,old⟩
   .cases r2 with
    |error e=>exact hr2
    |ok fl2 =>
     cases fl2 with
     |ret r3 =>
      obtain⟨e3,h',tk,e4,full,old⟩:=hr2;subst e3 e4
      repeat (any_goals (first|assumption|wp_step))
      exact q _ _ full old
     |_=>exact hr2.elim
  |_=>exact hr.elim
end
section
variable{X:Cx}{ρ:Rho}{a:au}{p p1 p2 pos:aR}
theorem DE.lenSet {ts:List aq} (ha:DT X ρ a (.lst (ts.map D.str))) (hc:X.calm=af) (room:ts.length+1<4096) (hm:X.mg "len" = ah) (hm2:X.mg "set" = ah) (hg:Gl X "len") (hg2:Gl X "set") (hs:aj [a] X.env=[(ae,aD a X.env)])
  (hs2:aj [.Call (.Name "set" p1) [a] [] p2] X.env=[(ae,aD (.Call (.Name "set" p1) [a] [] p2) X.env)]):DE X ρ (.Call (.Name "len" p) [.Call (.Name "set" p1) [a] [] p2] [] pos) (.int (dd ts).length):=λσ H Q R q pins s I=>by
 have inner:ay (aC X.prog X.w) X.A (aD (.Call (.Name "set" p1) [a] [] p2) X.env) (λu s2=>∃(S:ao)(H1:Hp),u=.ref S/\Inv X pins σ H1 s2/\j4 H H1/\Z0 X.prog X.w s2.heap S ts) X.xe s:=by
  refine aX (Jb I hg2 hm2 boot_set ?_);refine callWith_type1 (thn ((jc (es:=[]) peS qb hs).to (σ:=σ) (H:=H) (Q:=λvs H1=>∃(l:ao)(xs:List V),vs=[.ref l]/\j4 H H1/\SqL X.K H1 l xs/\j6 X.K H1 (ts.map D.str) xs) (ha σ H _ R λv H1 g ⟨l,xs,e,sq,en⟩=>⟨l,xs,by rw[e],g,sq,en⟩) p2 pins s I) λus s1 ⟨vs,H1,I1,r,l,xs,ev,g,sq,en⟩=>?_) hs rfl;subst ev;obtain⟨u,eu,r1⟩:=vals1 r;subst eu;cases(show u=aJ l from r1);obtain⟨its,rv,pl,_⟩:=I1.list sq;rw[Mx en]at rv;have hlen:its.toArray.size=ts.length:=by rw[X5,<-rv.length,xg]
  refine j77 (ts:=ts) (I1.ok.hd hc) pl.isList (λi v hv=>?_) hlen (by show ts.length+1<4096;exact room) λh' tk full old=>?_
  .have hi:i<ts.length:=by have:=(Array.getElem?_eq_some_iff.mp hv).1;omega
   obtain⟨w1,hw,t,ew⟩:=rv.get (x:=.str ts[i]) (i:=i) (by rw[xu,kh hi];rfl);have:its.toArray[i]?=aa w1:=by simpa using hw
   rw[this]at hv;cases hv;exact⟨ts[i],t,kh hi,ew⟩
  .exact⟨_,H1,rfl,I1.kept (t':=tk) λb o e=>old b o (xr e) e,g,full⟩
 refine aX (Jb I hg hm cq ?_);refine dZ (by rw[hs2];rfl) (cW ?_);show ay _ _ (gd ((ae,aD _ X.env)::aQ pos [])) _ _ s;refine cJ (thn inner λu s2 h2=>dD ?_);obtain⟨S,H1,rfl,I2,g,⟨o,es,ep,t,ho,hex,hd,hel,hmem,hb,hf,hn⟩⟩:=h2;refine call_len_set ho hex hd hf ?_ ?_
 .have:es.size<4096:=hb;omega
 .rw[hn];exact⟨.int _,H1,I2.tok _,⟨_,rfl⟩,q _ H1 g rfl⟩
end
section
variable{prog:az}{w:aF}{A:aI}{E:k7u}{s:ar}{d it vw:ao}{od:dy}{es:Array kQ}{ep i:Nat}{ok ov:ak}
end
noncomputable def jhn(ks:List (List Int))(ds:List D):List D:=(ks.zip ds).map λp=>D.tup [.tup (p.1.map D.int),p.2]
section
variable{X:Cx}{ρ:Rho}{a b:au}{es:List au}{n:Nat}{pos p p1 p2 q1:aR}{ks:List (List Int)}{ds:List D}{k:List Int}
theorem any_range:∀bs:List Bool,(aB bs.length).any (λi=>(bs[i]?).getD af)=bs.any id
 |[]=>rfl
 |b::bs=>by rw[xq,cP,Tw,List.any_map,Tw,<-any_range bs];rfl
theorem j1w (hc:X.calm=af):Jy X (.builtin "any") (λxs H Q=>∃(l:ao)(bs:List Bool),xs=[.ref l]/\SqL X.K H l (bs.map V.bl)/\Q (.bl (bs.any id)) H):=by
 intro pins s σ H xs us Q I r ⟨l,bs,e,sq,q⟩;subst e;obtain⟨u,eu,ru⟩:=vals1 r;subst eu;cases ru;obtain⟨its,rv,pl,_⟩:=I.list sq;have hlt:l<s.heap.objs.size:=by obtain⟨_,_,e,_⟩:=pl;exact xr e
 have hl:its.length=bs.length:=by rw[<-rv.length,xg]
 refine call_any_walk (cy pl.isList ⟨s.heap.objs.size,[s.heap.objs.size,l],[s.heap.objs.size],its.toArray.size,_,_,λi=>(bs[i]?).getD af,rfl,Walks.list (A:=X.A.in1) (I.ok.hd hc) _ _ (Xd hlt) its.toArray,⟨⟨_,X3 _ rfl,rfl,rfl⟩,pl.isList.push _⟩,?_,λh' tk kp=>?_⟩)
 .intro i v s' Q' E' hv hq;have hi:i<its.length:=by have:=Array.getElem?_eq_some_iff.mp hv;obtain⟨h,_⟩:=this;simpa using h
  have hb:i<bs.length:=by omega
  obtain⟨w1,hw,rw1⟩:=rv.get (x:=.bl bs[i]) (i:=i) (by rw[xu,kh hb];rfl);have:its.toArray[i]?=aa w1:=by simpa using hw
  rw[this]at hv;cases hv;cases rw1;simp only[kh hb,dQ]at hq;exact bM hq
 .have ev:(aB its.toArray.size).any (λi=>(bs[i]?).getD af)=bs.any id:=by rw[X5,hl];exact any_range bs
  rw[ev];refine⟨.bl _,H,I.kept (t':=tk) λb o e=>kp b o ?_ (km _ e),rfl,q⟩;intro z;rw[X4.mp z]at e;exact Pj _ (xr e)
theorem DE.any {bs:List Bool} (ha:DT X ρ a (.lst (bs.map D.bl))) (hm:X.mg "any" = ah) (hc:X.calm=af) (hg:Gl X "any") (hs:aj [a] X.env=[(ae,aD a X.env)]):DE X ρ (.Call (.Name "any" p) [a] [] pos) (.bl (bs.any id)):=λσ H Q R q =>(vh (j1w hc) hg hm boot_any (jc peS qb hs) (by decide) (by decide) hs).to (ha σ H _ R λv H1 g1 ⟨l,xs,e,sq,en⟩=>⟨l,bs,by rw[e],by rw[N8 en]at sq;exact sq,q _ H1 g1 rfl⟩)
theorem DS.unp{i j:Nat}{x y:aq}{e:au}{P:Po}{d d':D}(hij:i≠j)(he:DE X ρ e (.tup [d,d']))(h:P.nx ((ρ.set i (.val d)).set j (.val d')))(hc:X.calm=af)(hN:X.N.Nodup)(hi:X.N[i]?=aa x)(hj:X.N[j]?=aa y)(hx:Loc X.env.scope x)(hy:Loc X.env.scope y)
  (fx:X.fn x=af\/X.env.scope.names.lookup x=aa .local) (fy:X.fn y=af\/X.env.scope.names.lookup y=aa .local)
  (hs:ij [.Tuple [.Name x p1,.Name y p2] n q1] e pos.line X.env=pure ae) (hw:ik [.Tuple [.Name x p1,.Name y p2] n q1] e X.env=pure ah) :
  DS X ρ (.Assign [.Tuple [.Name x p1,.Name y p2] n q1] e pos) P:=λσ H E R q=>by
 refine(jge peS pgS hs hw).to (he σ H _ R λv H1 g1 e1=>?_);obtain⟨sub,hG⟩:=DG.pair (ρ:=ρ) (q1:=p1) (q2:=p2) (n:=n) (pos:=q1) (d:=d) (d':=d') i j hij hN hi hj hx hy fx fy hc;exact hG σ H1 v _ (R.grow g1) e1 λσ' R'=>q.nx _ σ' H1 h R' (j4.trans (Fr0.grow g1) (Fr0.drop sub))
end
section
variable{X:Cx}{pos pos':aR}{o i value:au}{td ty tv:TE}
theorem Inv.bigD{pins:k7v}{σ:St}{H:Hp}{s:ar}(I:Inv X pins σ H s):fZ<s.heap.objs.size:=by have h:ax<s.heap.objs.size:=(I.mod.glob.keeps I.bk).lt;exact Xz (by decide) h
end
section
variable{X:Cx}{ρ:Rho}{it e:au}{P:Po}{ds:List D}{x t y:Nat}{nx nt ny:aq}{n8:Nat}{p1 p2 p3 p4 p5 p6 p7 p8 p9 p10 p11 p12 p13 p14 p15 p16 p17 p18:aR}
end
noncomputable def jbr:List (List Int)->List D->List Int->Option D
 |k'::ks,d::ds,k=>if k'=k then aa d else jbr ks ds k
 |_,_,_=>ah
section
variable{X:Cx}{ρ:Rho}{a b:au}{d:D}{ds:List D}{ks:List (List Int)}{k:List Int}{pos p p1 p2 p3:aR}
end
section
variable{prog:az}{w:aF}{A:aI}{E:k7u}{s:ar}{d it vw:ao}{od:dy}{es:Array kQ}{ep i:Nat}
end
section
variable{prog:az}{w:aF}{A:aI}{E:k7u}{s:ar}{T:String}{r d:ao}{n:Nat}{P:Nat->ak->Prop}{OK:aH->Prop}
end
section
variable{X:Cx}{ρ:Rho}{a:au}{ds:List D}{ks:List (List Int)}{pos p p1 p2:aR}
end
section
variable{X:Cx}{ρ:Rho}{it e1 e2:au}{P:Po}{ds:List D}{x t y:Nat}{nx nt ny:aq}{p1 p2 p3 p4 p5 p6 p10 p11 p12 p14 p16 p17 p18:aR}
theorem Us:∀ns:List Int,qw (ns.map D.int)=af
 |[]=>rfl
 |n::ns=>by rw[xx,qw,Us ns];rfl
end
section
variable{X:Cx}{ρ:Rho}{a e:au}{l:List D}{d:D}{p1 pos:aR}
noncomputable def ixD(d:D):List D->Option Nat
 |[]=>ah
 |x::r=>if deq x d=af then aa 0 else(ixD d r).map (· + 1)
end
section
variable{X:Cx}{pins:k7v}{σ:St}{H:Hp}{l q S I:ao}{xs:List V}{R:fm->ar->Prop}
end
section
variable{X:Cx}{ρ:Rho}{σ:St}{H:Hp}{q:ao}{f:aq}{l:List D}{xs:List V}{kf:Nat->Int}{a:au}{d:D}{p p1 pk pos:aR}
end
section
variable{X:Cx}{pins:k7v}{σ:St}{H:Hp}{l S I:ao}{xs:List V}{R:fm->ar->Prop}
end
noncomputable def jkt(l:List (List Int))(i j:Nat):Bool:=HT.lexLt (l.getD i []) (l.getD j [])
section
variable{X:Cx}{ρ:Rho}{a:au}{l:List (List Int)}{k:List Int}{p pos:aR}
end
section
variable{X:Cx}{ρ:Rho}{it e2:au}{P:Po}{ds:List D}{x t:Nat}{nx nt:aq}{p1 p2 p3 p4 p10 p11 p12 p14 p16 p17 p18:aR}
end
noncomputable def jmy(p q:Int×List Int):Bool:=if p.1=q.1 then HT.lexLt p.2 q.2 else decide (p.1<q.1)
noncomputable def jmx(l:List (Int×List Int))(i j:Nat):Bool:=jmy (l.getD i (0,[])) (l.getD j (0,[]))
noncomputable def pairD(p:Int×List Int):D:=.tup [.int p.1,.tup (p.2.map D.int)]
section
open PySem.SeqAt
open PySem.AutoSeq1 (wpAny_loadPart')
open PySem.MeetsSeq PySem.MeetsSeq2 PySem.MeetsSeq3
end
section
variable{X:Cx}{ρ:Rho}{a:au}{l:List (Int×List Int)}{k:Int×List Int}{p pos:aR}
end
section
variable{X:Cx}{ρ:Rho}{a:au}{p p1 p2 pos:aR}
end
noncomputable def Qy(kvs:List (aq×Int))(k:aq):Option Int:=(kvs.find? λp=>decide (p.1=k)).map λp=>p.2
noncomputable def Lx(kvs:List (aq×Int))(k:aq):Bool:=kvs.any λp=>decide (p.1=k)
noncomputable def dput(kvs:List (aq×Int))(k:aq)(n:Int):List (aq×Int):=if Lx kvs k=af then kvs.map λp=>if p.1=k then(p.1,n)else p else kvs++[(k,n)]
theorem W8{p:aq×Int}{kvs:List (aq×Int)}{vs:List (Key×ak)}(r:KV (kvI (p::kvs)) vs):∃t qs,vs=(.inr p.1,.int p.2 t)::qs/\KV (kvI kvs) qs:=by
 have r':KV ((.inr p.1,.int p.2)::kvI kvs) vs:=r;unfold KV at r';cases r' with
 |@cons _ q _ qs h t =>
  obtain⟨h1,h2⟩:=h;obtain⟨q1,q2⟩:=q;obtain⟨tk,e⟩:=(show ∃t,q2=bu p.2 t from h2)
  have h1:bQ p.1=q1:=h1;subst h1 e;exact⟨tk,qs,rfl,t⟩
theorem j0o:∀{kvs:List (aq×Int)} {vs:List (Key×ak)},KV (kvI kvs) vs->vs.length=kvs.length
 |[],vs,r=>by have r':KV ([]:List (Key×V)) vs:=r;unfold KV at r';cases r';rfl
 |p::kvs,vs,r=>by obtain⟨t,qs,e,r'⟩:=W8 r;subst e;rw[xq,xq,j0o r']
theorem j0n{vs:List (Key×ak)}(r:KV (kvI []) vs):vs=[]:=by have:=j0o r;exact List.length_eq_zero_iff.mp this
theorem j63{k:aq}{n:Int}:∀{kvs:List (aq×Int)} {vs:List (Key×ak)},KV (kvI kvs) vs->Qy kvs k=aa n->∃t,valueAt vs (.inr k)=aa (.int n t)
 |[],_,_,h=>by cases h
 |p::kvs,vs,r,h=>by
  obtain⟨t,qs,e,r'⟩:=W8 r;subst e;unfold Qy at h;rw[d8]at h;by_cases z:p.1=k
  .rw[decide_eq_true z]at h;cases h;exact⟨t,by simp[valueAt,d8,z]⟩
  .rw[decide_eq_false z]at h;obtain⟨t',e'⟩:=j63 (kvs:=kvs) r' h;refine⟨t',?_⟩;rw[<-e'];have z':¬((bQ p.1:Key)=bQ k):=λy=>z (fC y);simp[valueAt,d8,z']
theorem j64{k:aq}:∀{kvs:List (aq×Int)} {vs:List (Key×ak)},KV (kvI kvs) vs->(vs.any λkv=>decide (kv.1=(bQ k:Key)))=Lx kvs k
 |[],_,r=>by rw[j0n r];rfl
 |p::kvs,vs,r=>by
  obtain⟨t,qs,e,r'⟩:=W8 r;subst e;have ih:=j64 (k:=k) r';unfold Lx at ih ⊢;rw[Tw,Tw,ih];congr 1;by_cases z:p.1=k
  .simp[z]
  .have z':¬((bQ p.1:Key)=bQ k):=λy=>z (fC y);rw[decide_eq_false z,decide_eq_false z']
theorem j2h{k:aq}{n:Int}{u:ak}(ru:RelV (.int n) u):∀{kvs:List (aq×Int)} {vs:List (Key×ak)},KV (kvI kvs) vs ->
  KV (kvI (kvs.map λp=>if p.1=k then(p.1,n)else p)) (vs.map λkv=>if kv.1=(bQ k:Key) then(kv.1,u)else kv)
 |[],_,r=>by rw[j0n r];exact Paired.nil
 |p::kvs,vs,r=>by
  obtain⟨t,qs,e,r'⟩:=W8 r;subst e;have ih:=j2h (k:=k) ru r';by_cases z:p.1=k
  .have z':(bQ p.1:Key)=bQ k:=congrArg _ z;rw[xx,xx,if_pos z,if_pos z'];exact Paired.cons ⟨rfl,ru⟩ ih
  .have z':¬((bQ p.1:Key)=bQ k):=λy=>z (fC y);rw[xx,xx,if_neg z,if_neg z'];exact Paired.cons ⟨rfl,t,rfl⟩ ih
theorem j2g{p:aq×Int}{u:ak}(ru:RelV (.int p.2) u):∀{kvs:List (aq×Int)} {vs:List (Key×ak)},KV (kvI kvs) vs->KV (kvI (kvs++[p])) (vs++[(.inr p.1,u)])
 |[],_,r=>by rw[j0n r];exact Paired.cons ⟨rfl,ru⟩ Paired.nil
 |q::kvs,vs,r=>by obtain⟨t,qs,e,r'⟩:=W8 r;subst e;exact Paired.cons ⟨rfl,t,rfl⟩ (j2g ru r')
theorem jhd{k:aq}{n:Int}{u:ak}{kvs:List (aq×Int)}{vs:List (Key×ak)}(r:KV (kvI kvs) vs)(ru:RelV (.int n) u):KV (kvI (dput kvs k n)) (stored vs (.inr k) u):=by
 unfold dput stored;rw[j64 r];by_cases z:Lx kvs k=af
 .rw[if_pos z,if_pos z];exact j2h ru r
 .rw[if_neg z,if_neg z];exact j2g (p:=(k,n)) ru r
section
variable{X:Cx}{ρ:Rho}{a b e k:au}{rest:List aS}{P:Po}{kvs:List (aq×Int)}{z:aq}{n:Int}{i j:Nat}{nx ny:aq}{pos pos' p p1 p2 p3 p4 p5 p6 p7 p8:aR}{td ty tv:TE}{o value:au}
theorem jbq{pins:k7v}{σ:St}{H:Hp}{s:ar}{d:ao}(I:Inv X pins σ H s)(hx:H d=aa (.dK (kvI kvs))):kvs.length<=av/\(d==fZ)=ae/\∃vs,KV (kvI kvs) vs/\s.heap.DictOf (W7 X.prog X.w) d vs:=by
 obtain⟨z1,z2,z3⟩:=(show jz X.prog X.w H s.heap d (.dK (kvI kvs))from I.hok _ _ hx)
 exact⟨by simpa [kvI]using z1,z2,z3⟩
theorem jl2:IxR X (λx y H Q=>∃(d:ao)(kvs:List (aq×Int)) (k:aq) (n:Int),x=.ref d/\y=.str k/\H d=aa (.dK (kvI kvs))/\Qy kvs k=aa n/\Q (.int n) H):=by intro value slice pins s σ H x y v u Q I rx ry h hs;obtain⟨d,kvs,k,n,rfl,rfl,hx,hv,q⟩:=h;cases rx;obtain⟨t,rfl⟩:=ry;obtain⟨hz,hd,vs,rel,dd⟩:=jbq I hx;obtain⟨t',hw⟩:=j63 rel hv;exact lY dd.typeIs slot_dict_getitem.lookup (wpAny_getItem_of (Bd X.prog X.w k t) dd.mapOf hw ⟨.int n,H,I.tok _,⟨_,rfl⟩,q⟩) hs
theorem DE.dix(ha:DT X ρ a (.sct kvs))(hb:DT X ρ b (.str z))(h:Qy kvs z=aa n)(hs:Yo b):DE X ρ (.Subscript a b pos) (.int n):=λσ H Q R q =>(Od jl2 peS peS hs).to (ha σ H _ R λv H1 g1 ⟨d,e,hx⟩=>hb σ H1 _ (R.grow g1) λu H2 g2 e2=>⟨d,kvs,z,n,e,e2,g2 _ _ hx,h,q _ H2 (g1.trans g2) rfl⟩)
end
theorem Ij:jY (.type "zip") "__getattr__" = pure ah:=by rw[lE,iZ];kernel_rfl
theorem j33:jY (.type "zip") "keys" = pure ah:=by rw[lE,iZ];kernel_rfl
theorem j1j:entryFor table "zip.__getattribute__" = aa bX.«object.__getattribute__» :=
 entryFor_alias (id':="object.__getattribute__") (by kernel_rfl) (by decide +kernel) (by decide +kernel) (by kernel_rfl)
theorem jca(a:ao)(fs:Array ak)(u:dH) :
  kz (bX.«object.__getattribute__» ⟨[.ref a,.str "keys" u],[]⟩) (λA R s=>s.heap.get? a=aa { cls:=.type "zip",dict:=ah,data:=.fields fs,slots:=#[] }/\raisesAttr (.ref a) "keys" A R s) :=
 Meets.of_wp λprog w A R s hs=>by
  obtain⟨hp,g,d,tk,os⟩:=s;obtain⟨hx,hs⟩:=hs;have hT:(⟨hp,g,d,tk,os⟩:ar).TypeIs (.ref a) "zip":=⟨_,hx,rfl⟩
  have hmiss:=j33;have hname:(["__module__","__name__","__qualname__","__doc__","__annotations__"]:List aq).contains ("keys":aq)=ae:=by decide
  unfold bX.«object.__getattribute__»
  repeat (any_goals (first|assumption|wp_step))
  try simp only[hname,Xx,if_false]
  repeat (any_goals (first|assumption|wp_step))
  exact wpAny_raiseAttrError hs.1 hs.2 (attrMsg_fits (by decide +kernel) (by size_fits))
section
variable{prog:az}{w:aF}{A:aI}{E:k7u}{s:ar}
theorem jcb{a:ao}{fs:Array ak}{Q:Option ak->ar->Prop}(hx:s.heap.get? a=aa { cls:=.type "zip",dict:=ah,data:=.fields fs,slots:=#[] })(hA:A.handled=ah)
  (h:∀h' tk,(∀b o,s.heap.get? b=aa o->h'.get? b=aa o)->Q ah { s with heap:=h',toks:=tk }):ay (aC prog w) A (getAttr? (.ref a) "keys") Q E s:=by
 obtain⟨hp,g,d,tk,os⟩:=s;have hT:∀tk',(⟨hp,g,d,tk',os⟩:ar).TypeIs (.ref a) "zip":=λ_=>⟨_,hx,rfl⟩
 have f1:=sub_AttributeError;have f3:=F.slot_zip_getattribute.lookup;have f4:=F.slot_zip_getattribute.bind (.ref a);have f5:=Ij;unfold getAttr? getAttrBy? getAttrBy
 repeat (any_goals (first|assumption|exact hT _|((with_reducible show ay _ _ (call (Value.builtin "zip.__getattribute__") _ _) _ _ _);refine bF F.slot_zip_getattribute (hT _) j1j (F.args_zip_getattribute_2 _ _) (jca a fs _) ⟨hx,hA,λh' tk' e hx'=>?_⟩)|wp_step))
 obtain⟨t',u',he⟩:=hx'.there;show ay _ _ (k6 _ _ _ _ _ _ _) _ _ _;unfold k6
 repeat (any_goals (first|assumption|wp_step))
 all_goals exact h _ _ hx'.keeps
end
abbrev Ua(h:aH)(z TI TO p:ao)(f:Bool):Prop:=h.get? z=aa { cls:=.type "zip",dict:=ah,data:=.fields #[fj p,.bool f,.bool ae,.ref TI,.ref TO],slots:=#[] }
section
variable{prog:az}{w:aF}{A:aI}{E:k7u}{s:ar}{l1 l2:Bool}{z TI TO i1 i2 t1 t2 p:ao}{f:Bool}{op:dy}{k:Nat}{us vs:Array ak}{x y a b:ak}
theorem K5{Q:Bool->ar->Prop}(hz:Ua s.heap z TI TO p f)(hp:s.heap.get? p=aa op)(q:∀h',Ua h' z TI TO p af->cw z s.heap h'->Q ae { s with heap:=h' }) :
  ay (aC prog w) A (aL (.ref z)) Q E s:=by
 unfold aL;refine ai (aT hz rfl (x:=fj p) rfl ?_);show ay _ _ (loadIfAlive ((p:Int).toNat) >>= _) _ _ _;rw[Xb];refine ai (W.kdx_alive hp ?_);simp only[Option.isNone_some,Xx,if_false];refine ai (aT hz rfl (x:=.bool f) rfl ?_);cases f with
 |true =>rw[if_neg (show ¬((bp af != bp af)=af)from xm)];exact aw (q _ hz (Heap.SameBut.refl _ _))
 |false =>rw[if_pos (show(bp ae != bp af)=af from rfl)];exact ai (bE hz (by simp) λg zg sg=>aw (q g zg sg))
theorem j4q{Q:k7u}(D:dk z TI TO i1 i2 t1 t2)(hz:Ua s.heap z TI TO p f)(hp:s.heap.get? p=aa op)(hTI:bx s.heap TI (.ref i1) (.ref i2))
  (h1:ji l1 s.heap i1 t1 k) (h2:ji l2 s.heap i2 t2 k) (q1:jf l1 s.heap t1 us) (q2:jf l2 s.heap t2 vs) (hx:us[k]?=aa x) (hy:vs[k]?=aa y)
  (q:∀h',Ua h' z TI TO p af->ji l1 h' i1 t1 (k+1)->ji l2 h' i2 t2 (k+1)->bx h' s.heap.objs.size x y->h'.objs.size=s.heap.objs.size+1 ->
   (∀c o,c≠z->c≠i1->c≠i2->s.heap.get? c=aa o->h'.get? c=aa o)->Q (.ref s.heap.objs.size) { s with heap:=h' }) :
  ay (aC prog w) A (bX.«zip.__next__» ⟨[.ref z],[]⟩) (λfin s'=>∃v,fin=.done (.ret v)/\Q v s') E s:=by
 show ay _ _ (fQ (.ref z) 2 >>= _) _ _ _;refine ai (aT hz rfl (x:=.bool ae) rfl ?_);show ay _ _ (fQ (.ref z) 3 >>= _) _ _ _;refine ai (aT hz rfl (x:=.ref TI) rfl (ai (bg hTI rfl ?_)));show ay _ _ (aL (.ref z) >>= _) _ _ _;refine ai (K5 hz hp λg₁ z₁ s₁=>?_);simp only[Xx,if_false];refine ai ?_;simp only[iK,d7,eR];refine ai (ai (bU ?_));show ay _ _ (aG (.ref i1) >>= _) _ _ _;refine ai (Zf (h1.ext s₁.extBut D.i1z) (q1.ext s₁.extBut D.l1z) hx λg₂ h1₂ s₂=>aw ?_);refine aw (ai (ai (bU ?_)));show ay _ _ (aG (.ref i2) >>= _) _ _ _;refine ai (Zf ((h2.ext s₁.extBut D.i2z).ext s₂.extBut D.i12.symm) ((q2.ext s₁.extBut D.l2z).ext s₂.extBut D.l2i1) hy λg₃ h2₃ s₃=>aw ?_);refine aw (aw ?_);refine ai (lS (hsz:=by show(2:Nat)<=av;decide) (aw ⟨_,rfl,?_⟩));have sz:g₃.objs.size=s.heap.objs.size:=by rw[s₃.1,s₂.1,s₁.1]
 have z₃:Ua g₃ z TI TO p af:=s₃.extBut _ _ D.i2z.symm (s₂.extBut _ _ D.i1z.symm z₁);have up:∀c o,g₃.get? c=aa o->(g₃.push { cls:=.type "tuple",data:=.seq #[x,y] }).get? c=aa o:=λc o e=>km _ e;have h1₃:ji l1 g₃ i1 t1 (k+1):=h1₂.ext s₃.extBut D.i12;have pr:bx (g₃.push { cls:=.type "tuple",data:=.seq #[x,y] }) s.heap.objs.size x y:=by rw[<-sz];exact X3 _ rfl
 have szp:(g₃.push { cls:=.type "tuple",data:=.seq #[x,y] }).objs.size=s.heap.objs.size+1:=by rw[Xk,sz]
 show Q (.ref g₃.objs.size) _;rw[sz];exact q _ (up _ _ z₃) (h1₃.stay λo e=>up _ o e) (h2₃.stay λo e=>up _ o e) pr szp λc o n1 n2 n3 e=>up _ _ (s₃.extBut _ _ n3 (s₂.extBut _ _ n2 (s₁.extBut _ _ n1 e)))
theorem j7l{Q:iT->ar->Prop}(hh:A.handled=ah)(D:dk z TI TO i1 i2 t1 t2)(hz:Ua s.heap z TI TO p f)(hp:s.heap.get? p=aa op)(hTI:bx s.heap TI (.ref i1) (.ref i2))
  (h1:ji l1 s.heap i1 t1 k) (q1:jf l1 s.heap t1 us) (hx:us[k]?=ah)
  (q:∀h' e,(∀c o,c≠z->c≠i1->c≠i2->s.heap.get? c=aa o->h'.get? c=aa o)->(∃o,h'.get? e=aa o/\o.cls=.type "StopIteration")->E (.ref e) { s with heap:=h' }) :
  ay (aC prog w) A (bX.«zip.__next__» ⟨[.ref z],[]⟩) Q E s:=by
 show ay _ _ (fQ (.ref z) 2 >>= _) _ _ _;refine ai (aT hz rfl (x:=.bool ae) rfl ?_);show ay _ _ (fQ (.ref z) 3 >>= _) _ _ _;refine ai (aT hz rfl (x:=.ref TI) rfl (ai (bg hTI rfl ?_)));show ay _ _ (aL (.ref z) >>= _) _ _ _;refine ai (K5 hz hp λg₁ z₁ s₁=>?_);simp only[Xx,if_false];refine ai ?_;simp only[iK,d7,eR];refine ai (ai (bU ?_));show ay _ _ (aG (.ref i1) >>= _) _ _ _;exact ai (Yq hh (h1.ext s₁.extBut D.i1z) (q1.ext s₁.extBut D.l1z) hx λg₂ e s₂ he=>q g₂ e (λc o n1 n2 _ z=>s₂ _ _ n2 (s₁.extBut _ _ n1 z)) he)
def ZS(z TI TO i1 i2 t1 t2:ao)(l1 l2:Bool)(k:Nat)(h:aH):Prop :=
 (eD h z TI TO .none/\(∃a b,bx h TO a b)\/∃(p:ao)(f:Bool)(op:dy),Ua h z TI TO p f/\h.get? p=aa op/\p≠z/\p≠TO/\p≠i1/\p≠i2)/\bx h TI (.ref i1) (.ref i2)/\ji l1 h i1 t1 k/\ji l2 h i2 t2 k
theorem jc3{Q:Option ak->ar->Prop}(D:dk z TI TO i1 i2 t1 t2)(S:ZS z TI TO i1 i2 t1 t2 l1 l2 k s.heap)(q1:jf l1 s.heap t1 us)(q2:jf l2 s.heap t2 vs)(hx:us[k]?=aa x)(hy:vs[k]?=aa y)
  (q:∀h',ZS z TI TO i1 i2 t1 t2 l1 l2 (k+1) h'->bx h' s.heap.objs.size x y->(∀c o,c∉[z,TO,i1,i2]->s.heap.get? c=aa o->h'.get? c=aa o)->Q (aa (.ref s.heap.objs.size)) { s with heap:=h' }):ay (aC prog w) A (dS (.ref z)) Q E s:=by
 obtain⟨S,S1,S2,S3⟩:=S;have nz:∀{c o},s.heap.get? c=aa o->s.heap.objs.size≠c:=λe=>Pg (xr e);obtain⟨o1,g1,_⟩:=S2.obj;obtain⟨o2,g2,_⟩:=S3.obj;rcases S with ⟨hz,a,b,hTO⟩|⟨p,f,op,hz,hp,np1,np2,np3,np4⟩
 .refine Ml D hz S1 hTO S2 S3 q1 q2 hx hy λh' a1 a2 a3 a4 a5 a6 a7=>q h' ⟨.inr ⟨s.heap.objs.size,ae,_,a1,a5,nz hz,nz hTO,nz g1,nz g2⟩,a7 _ _ D.TIz D.TITO D.TIi1 D.TIi2 S1,a3,a4⟩ a5 λc o nc e=>?_;simp at nc;exact a7 c o nc.1 nc.2.1 nc.2.2.1 nc.2.2.2 e
 .have T:s.TypeIs (.ref z) "zip":=⟨_,hz,rfl⟩
  unfold dS;refine ai (fP (be (name:=cD "__next__") T Tc (bY Tc T eF
   (j4q D hz hp S1 S2 S3 q1 q2 hx hy λh' a1 a3 a4 a5 a6 a7=>aw (q h' ⟨.inr ⟨p,af,op,a1,a7 _ _ np1 np3 np4 hp,np1,np2,np3,np4⟩,a7 _ _ D.TIz D.TIi1 D.TIi2 S1,a3,a4⟩ a5 λc o nc e=>?_)) (dX _))))
  simp at nc;exact a7 c o nc.1 nc.2.2.1 nc.2.2.2 e
theorem jf5{Q:Option ak->ar->Prop}(hh:A.handled=ah)(D:dk z TI TO i1 i2 t1 t2)(S:ZS z TI TO i1 i2 t1 t2 l1 l2 k s.heap)(q1:jf l1 s.heap t1 us)(q2:jf l2 s.heap t2 vs)(hx:us[k]?=ah)
  (q:∀h',(∀c o,c∉[z,TO,i1,i2]->s.heap.get? c=aa o->h'.get? c=aa o)->Q ah { s with heap:=h' }):ay (aC prog w) A (dS (.ref z)) Q E s:=by
 obtain⟨S,S1,S2,S3⟩:=S;rcases S with ⟨hz,a,b,hTO⟩|⟨p,f,op,hz,hp,np1,np2,np3,np4⟩
 .refine Bc hh D hz S1 hTO S2 S3 q1 q2 (.inl hx) λh' kp=>q h' λc o nc e=>?_;simp at nc;exact kp c o nc.1 nc.2.1 nc.2.2.1 nc.2.2.2 e
 .have T:s.TypeIs (.ref z) "zip":=⟨_,hz,rfl⟩
  unfold dS;refine ai (fP (be (name:=cD "__next__") T Tc (bY Tc T eF
   (j7l hh D hz hp S1 S2 q1 hx λh' e kp he=>?_) (dX _))))
  obtain⟨o,ho,hc⟩:=he;refine ai (kN (T:="StopIteration") (b:=af) ⟨o,ho,hc⟩ lU (aw (q _ λc o nc e=>?_)));simp at nc;exact kp c o nc.1 nc.2.2.1 nc.2.2.2 e
end
theorem Ju:plainId "dict.update.loop" = af:=by decide +kernel
theorem Y8:entryFor table "dict.update.loop" = aa bX.«dict.update.loop»:=entryFor_of_tree (by kernel_rfl)
theorem ja6{kvs:List (aq×Int)}{k:aq}{n:Int}(h:Lx kvs k=ae):dput kvs k n=kvs++[(k,n)]:=by unfold dput;rw[if_neg (by rw[h];simp)]
theorem j7y{ks:List aq}{ns:List Int}{k:Nat}{x:aq}{y:Int}(hn:ks.Nodup)(hx:ks[k]?=aa x)(hy:ns[k]?=aa y):dput ((ks.zip ns).take k) x y=(ks.zip ns).take (k+1):=by
 have hz:(ks.zip ns)[k]?=aa (x,y):=by rw[gz];exact⟨hx,hy⟩
 rw[S6,hz,ja6]
 .rfl
 .unfold Lx;rw[fE];intro p hp hc;obtain⟨i,hi,e⟩:=List.mem_iff_getElem.mp hp;have hi':i<k:=by simp at hi;omega
  rw[List.getElem_take]at e;have hi2:i<(ks.zip ns).length:=by simp at hi ⊢;omega
  have hi3:i<ks.length:=by simp at hi2;omega
  have ek:ks[i]?=aa p.1:=by rw[<-e,jv];exact kh hi3
  have hc:p.1=x:=of_decide_eq_true hc;rw[hc]at ek;have hk3:=(Xf.mp hx).1;have:=(List.getElem?_inj hi3 hn).mp (ek.trans hx.symm);omega
section
variable{X:Cx}{pins:k7v}{σ:St}{z TI TO i1 i2 t1 t2 d:ao}{l1 l2:Bool}{ks:List aq}{ns:List Int}{A:aI}{R:fm->ar->Prop}
theorem jjt(hh:A.handled=ah)(D:dk z TI TO i1 i2 t1 t2)(hn:ks.Nodup)(hkn:ks.length=ns.length)(hls:ks.length<=av){H:Hp}(hd:H d=ah)(s1:SqB X.K l1 H t1 (ks.map V.str))(s2:SqB X.K l2 H t2 (ns.map V.int)) :
  ∀(n k:Nat)(s:ar),ks.length-k=n->k<=ks.length->Inv X pins σ (upd H d (.dK (kvI ((ks.zip ns).take k)))) s->(∀c∈[z,TO,i1,i2],Z1 X pins (upd H d (.dK (kvI []))) c)->(∀c∈[z,TI,TO,i1,i2],c≠d)->ZS z TI TO i1 i2 t1 t2 l1 l2 k s.heap ->
   (∀s',Inv X pins σ (upd H d (.dK (kvI (ks.zip ns)))) s'->R (.ok (.ret .none)) s')->cK (aC X.prog X.w) A (.builtin "dict.update.loop" ⟨[.ref d,.ref z,fj (k:Int),.none],[]⟩) R s:=by
 intro n;induction n with
 |zero =>
  intro k s hk hle I hf hne S fin;have ek:k=ks.length:=by omega
  have gs:j4 H (upd H d (.dK (kvI ((ks.zip ns).take k)))):=j7 hd;obtain⟨us,ru,qu,_⟩:=I.side (gs.seqB s1);obtain⟨vs,rv,qv,_⟩:=I.side (gs.seqB s2);have lu:=ru.length;rw[xg]at lu;have hf':∀c∈[z,TO,i1,i2],Z1 X pins (upd H d (.dK (kvI ((ks.zip ns).take k)))) c:=λc hc=>by obtain⟨f0,f1⟩:=hf c hc;have nd:c≠d:=hne c (by simp at hc ⊢;rcases hc with h|h|h|h<;>simp[h]);rw[jj nd]at f0;exact⟨by rw[jj nd];exact f0,f1⟩
  refine dw Y8 ?_;rw[cT Ju _];unfold bX.«dict.update.loop»;refine ai (jf5 (A:=A.in1) hh D S qu qv (by simp;omega) λh' kp=>?_);have I2:Inv X pins σ (upd H d (.dK (kvI ((ks.zip ns).take k)))) { s with heap:=h' }:=I.chg hf' kp;rw[Tj (by rw[Tt];omega)]at I2;exact ai (aw (aw (fin _ I2)))
 |succ n ih =>
  intro k s hk hle I hf hne S fin;have hlt:k<ks.length:=by omega
  have gs:j4 H (upd H d (.dK (kvI ((ks.zip ns).take k)))):=j7 hd;obtain⟨us,ru,qu,_⟩:=I.side (gs.seqB s1);obtain⟨vs,rv,qv,_⟩:=I.side (gs.seqB s2);have hf':∀c∈[z,TO,i1,i2],Z1 X pins (upd H d (.dK (kvI ((ks.zip ns).take k)))) c:=λc hc=>by obtain⟨f0,f1⟩:=hf c hc;have nd:c≠d:=hne c (by simp at hc ⊢;rcases hc with h|h|h|h<;>simp[h]);rw[jj nd]at f0;exact⟨by rw[jj nd];exact f0,f1⟩
  have hkx:ks[k]?=aa ks[k]:=kh hlt;have hlt2:k<ns.length:=by omega
  have hky:ns[k]?=aa ns[k]:=kh hlt2;obtain⟨u,hu,rx⟩:=ru.get (i:=k) (x:=.str ks[k]) (by rw[xu,hkx];rfl);obtain⟨v,hv,ry⟩:=rv.get (i:=k) (x:=.int ns[k]) (by rw[xu,hky];rfl);obtain⟨t,rfl⟩:=(show ∃t,u=b9 ks[k] t from rx)
  refine dw Y8 ?_;rw[cT Ju _];unfold bX.«dict.update.loop»;refine ai (jc3 (A:=A.in1) D S qu qv (by simpa using hu) (by simpa using hv) λh' S' pr kp=>?_);have I2:Inv X pins σ (upd H d (.dK (kvI ((ks.zip ns).take k)))) { s with heap:=h' }:=I.chg hf' kp;refine ai (bU ?_);refine ai (wpAny_tryCatch ?_);unfold lD;refine ai (iO (T:="tuple") ⟨_,pr,rfl⟩ ?_);rw[if_pos (by decide)];refine ai (bg pr rfl (aw ?_));show ay _ _ (eC _ (dictSet d (.str ks[k] t) v)) _ _ _;refine bU ?_;obtain⟨hz,hdm,ws,rel,dd⟩:=jbq I2 (d:=d) jx;refine wpAny_dictSet_pairs (hsz:=by rw[j0o rel];exact hz) (Bd X.prog X.w ks[k] t) dd λh'' dd' sb=>?_;have he:∃q,h''.get? d=aa q:=let ⟨q,_,_,hq,_⟩:=dd';⟨q,hq⟩;have hl':((ks.zip ns).take (k+1)).length<=av:=by rw[Xu,Tt];omega
  have kv':=jhd (k:=ks[k]) rel ry;rw[j7y hn hkx hky]at kv';have I3:Inv X pins σ (upd H d (.dK (kvI ((ks.zip ns).take (k+1))))) { s with heap:=h'',toks:=s.toks+1 }:=by
   have:=I2.write (h':=h'') (x:=d) (e:=d) (o:=.dK (kvI ((ks.zip ns).take (k+1)))) (t':=s.toks+1) (by rw[jx];exact True.intro) (.inl rfl) (λb q hb z=>(sb.2 b hb).trans z) he ⟨by simpa [kvI]using hl',hdm,_,kv',dd'⟩
   rwa [jc9]at this
  refine aw ⟨iq Ju _,?_⟩;have ek:((k:Int)+1)=((k+1:Nat):Int):=by push_cast;rfl
  rw[ek];have ne_d:∀c o,h'.get? c=aa o->c≠d->h''.get? c=aa o:=λc o e nc=>(sb.2 c nc).trans e;refine ih (k+1) _ nofun nofun I3 hf hne ?_ fin;obtain⟨Sa,S1,S2,S3⟩:=S';refine⟨?_,ne_d _ _ S1 (hne _ (by simp)),S2.stay λo e=>ne_d _ o e (hne _ (by simp)),S3.stay λo e=>ne_d _ o e (hne _ (by simp))⟩;rcases Sa with ⟨a,b,c,e⟩|⟨p,f,op,a,b,r⟩
  .exact .inl ⟨ne_d _ _ a (hne _ (by simp)),b,c,ne_d _ _ e (hne _ (by simp))⟩
  .refine .inr ⟨p,f,?_⟩;by_cases zp:p=d
   .subst zp;obtain⟨q,hq⟩:=he;exact⟨q,ne_d _ _ a (hne _ (by simp)),hq,r⟩
   .exact⟨op,ne_d _ _ a (hne _ (by simp)),ne_d _ _ b zp,r⟩
end
section
variable{X:Cx}{ρ:Rho}{a b:au}{ks:List aq}{ns:List Int}{p p2 p3 p4:aR}
theorem ne5(n:Nat):n+4≠n+5/\n+2≠n+5/\n+3≠n+5/\n≠n+5/\n+1≠n+5:=by omega
theorem Dn{K:k7t}{H:Hp}:∀{ks:List aq}{xs:List V},j6 K H (ks.map D.str) xs->xs=ks.map V.str
 |[],_,h=>h
 |k::ks,_,⟨x,r,e,h,l⟩=>by have h:x=.str k:=h;subst e h;rw[Dn l];rfl
theorem DE.dzip (l1 l2:Bool) (ha:DE X ρ a (D.seq l1 (ks.map D.str))) (hb:DE X ρ b (D.seq l2 (ns.map D.int))) (hn:ks.Nodup) (hkn:ks.length=ns.length) (hls:ks.length<=av) (hc:X.calm=af) (hm:X.mg "dict" = ah) (hmz:X.mg "zip" = ah) (hg:Gl X "dict") (hgz:Gl X "zip")
  (hs0:aj [.Call (.Name "zip" p2) [a,b] [] p3] X.env=(ae,aD (.Call (.Name "zip" p2) [a,b] [] p3) X.env)::aj [] X.env) (hs:aj [a,b] X.env=(ae,aD a X.env)::aj [b] X.env) (hs2:aj [b] X.env=(ae,aD b X.env)::aj [] X.env) :
  DE X ρ (.Call (.Name "dict" p) [.Call (.Name "zip" p2) [a,b] [] p3] [] p4) (.sct (ks.zip ns)):=λσ H Q r q pins s I=>by
 have args:Wl X [a,b] σ H (λvs H'=>∃v u,vs=[v,u]/\j4 H H'/\Enc X.K (del H' (owns ρ)) (D.seq l1 (ks.map D.str)) v/\Enc X.K (del H' (owns ρ)) (D.seq l2 (ns.map D.int)) u) :=
  (jc peS (jc peS qb hs2) hs).to (ha σ H _ r λv H1 g1 e1=>hb σ H1 _ (r.grow g1) λu H2 g2 e2=>⟨v,u,rfl,g1.trans g2,e1.mono (je g2),e2⟩)
 have hpl:(aQ p3 (aj [b] X.env)).any (·.1)=ae:=by rw[hs2];rfl
 refine iF (Jb I hg hm boot_dict (callWith_type1 ?_ hs0 (by rfl)));rw[hs0];show ay _ _ (gd ((ae,aD (.Call (.Name "zip" p2) [a,b] [] p3) X.env)::aQ p4 (aj [] X.env))) _ _ s;refine cJ ?_;refine iF (Jb I hgz hmz m8 (callWith_type1 (thn (args p3 pins s I) λus s1 h1=>?_) hs hpl));obtain⟨vs,H1,I1,r1,v,u,ev,g1,e1,e2⟩:=h1;subst ev;obtain⟨t1,xs,et1,sq1,en1⟩:=Q6 e1;obtain⟨t2,ys,et2,sq2,en2⟩:=Q6 e2;subst et1 et2;obtain⟨u1,u2,eu,ru1,ru2⟩:=r1.two;subst eu;cases ru1;cases ru2;obtain⟨w1,rw1,qw1,_⟩:=I1.side (jk.seqB sq1);obtain⟨w2,rw2,qw2,_⟩:=I1.side (jk.seqB sq2);refine iS lP (by decide) (jU _ _) (kl _ _) (λobj=>iN obj _ _) ko (j21 (l1:=l1) (l2:=l2) t1 t2 w1.toArray w2.toArray) ⟨qw1,qw2,?_⟩;have z1:(zh1 s1.heap l1 t1).objs.size=s1.heap.objs.size+1:=Xk ..;have z2:(zh2 s1.heap l1 l2 t1 t2).objs.size=s1.heap.objs.size+2:=by rw[Xk,z1]
 have z3:(zh3 s1.heap l1 l2 t1 t2).objs.size=s1.heap.objs.size+3:=by rw[Xk,z2]
 have z4:(zh4 s1.heap l1 l2 t1 t2).objs.size=s1.heap.objs.size+4:=by rw[Xk,z3]
 have z5:(zh5 s1.heap l1 l2 t1 t2).objs.size=s1.heap.objs.size+5:=by rw[Xk,z4]
 have b5:(zh5 s1.heap l1 l2 t1 t2).get? (zh4 s1.heap l1 l2 t1 t2).objs.size=aa _:=X3 _ rfl;have b4:(zh5 s1.heap l1 l2 t1 t2).get? (zh3 s1.heap l1 l2 t1 t2).objs.size=aa _:=km _ (X3 _ rfl);have b3:(zh5 s1.heap l1 l2 t1 t2).get? (zh2 s1.heap l1 l2 t1 t2).objs.size=aa _:=km _ (km _ (X3 _ rfl));have b2:(zh5 s1.heap l1 l2 t1 t2).get? (zh1 s1.heap l1 t1).objs.size=aa _:=km _ (km _ (km _ (X3 _ rfl)));have b1:(zh5 s1.heap l1 l2 t1 t2).get? s1.heap.objs.size=aa _:=km _ (km _ (km _ (km _ (X3 _ rfl))));have kp:∀c o,s1.heap.get? c=aa o->(zh5 s1.heap l1 l2 t1 t2).get? c=aa o:=λc o e=>km _ (km _ (km _ (km _ (km _ e))));show _/\_;rw[z2,z3,z4]at b5;rw[z1,z2]at b3;rw[z3]at b4;rw[z1]at b2;rw[z4];have I2:Inv X pins σ H1 { s1 with heap:=zh5 s1.heap l1 l2 t1 t2 }:=I1.kept (t':=s1.toks) kp;have lt1:t1<s1.heap.objs.size:=by
  unfold jf at qw1;cases l1 with
  |true=>rw[if_pos rfl]at qw1;obtain⟨_,e,_⟩:=qw1;exact xr e
  |false=>rw[if_neg xm]at qw1;obtain⟨_,e,_⟩:=qw1;exact xr e
 have lt2:t2<s1.heap.objs.size:=by
  unfold jf at qw2;cases l2 with
  |true=>rw[if_pos rfl]at qw2;obtain⟨_,e,_⟩:=qw2;exact xr e
  |false=>rw[if_neg xm]at qw2;obtain⟨_,e,_⟩:=qw2;exact xr e
 have side:∀{l:Bool}{j t:ao},(zh5 s1.heap l1 l2 t1 t2).get? j=aa { cls:=.type (Wg l),data:=.fields #[.ref t,.int 0 0] }->ji l (zh5 s1.heap l1 l2 t1 t2) j t 0:=λ{l j t} e=>by
  unfold ji;cases l with
  |true=>rw[if_pos rfl];exact⟨_,e,rfl,rfl⟩
  |false=>rw[if_neg xm];exact⟨_,e,rfl,rfl⟩
 refine⟨⟨_,b5,rfl⟩,dD ?_⟩;have ex1:=Dn en1;have ex2:=Qt en2;subst ex1 ex2;have sq1':=(jk (A:=owns ρ)).seqB sq1;have sq2':=(jk (A:=owns ρ)).seqB sq2;have sd1:=side (l:=l1) b1;have sd2:=side (l:=l2) b2;have fpk:∀c,s1.heap.objs.size<=c->c<s1.heap.objs.size+5->Z1 X pins (upd H1 (s1.heap.objs.size+5) (.dK (kvI []))) c:=λc h5 h6=>I1.fpOk h5 (by rw[jj (Xd h6)];exact I1.hok.fresh h5);clear side;generalize hgen:zh5 s1.heap l1 l2 t1 t2=hz at *;have hh:X.A.handled=ah:=I.ok.hd hc;have bz:=b5;show ay (aC X.prog X.w) X.A (gj (.type "dict") [.ref (s1.heap.objs.size+4)]) _ _ { s1 with heap:=hz };refine callType_codes (Q₁:=λobj s₁=>obj=.ref hz.objs.size/\s₁={ s1 with heap:=hz.push { cls:=.type "dict",data:=.dict #[] } }) F.kt_called_dict (F.kt_typeCall_dict_1 _) F.entry_dict_init (kt_code_dict_new _ ⟨rfl,rfl⟩) ?_;rintro obj s₁ ⟨rfl,rfl⟩;have hnew:(hz.push { cls:=.type "dict",data:=.dict #[] }).DictOf (W7 X.prog X.w) hz.objs.size []:=Heap.DictOf.new hz;have up:∀c o,hz.get? c=aa o->(hz.push { cls:=.type "dict",data:=.dict #[] }).get? c=aa o:=λc o e=>km _ e;refine⟨hnew.typeIs,F.args_dict_init_2 _ _,?_⟩;unfold bX.«dict.__init__»;refine ai ?_;unfold lC;refine ai (wpAny_notOrdered_dict hnew.typeIs ?_);show ay _ _ (pure (hz.objs.size,[aJ (s1.heap.objs.size+4)])) _ _ _;refine aw ?_;show ay _ _ (fH "dict.__init__" hz.objs.size (.ref (s1.heap.objs.size+4)) [] .none) _ _ _;unfold fH;refine ai (iO (T:="zip") ⟨_,up _ _ bz,rfl⟩ ?_);rw[if_pos (by decide)];refine ai (jcb (up _ _ bz) hh λh' tk kp=>?_);rw[if_pos (by rfl)];refine ai (hZ ?_);refine ai (gv (TI:=s1.heap.objs.size+2) (TO:=s1.heap.objs.size+3) (f0:=.none) (kp _ _ (up _ _ bz)) ?_);refine aw ⟨iq Ju _,?_⟩;have I3:Inv X pins σ (upd H1 hz.objs.size (.dK (kvI []))) { s1 with heap:=h',toks:=tk } :=
  I2.laid (a:=hz.objs.size) (h':=h') (o:=.dK (kvI [])) (t':=tk) (λb o e=>kp _ _ (up _ _ e)) (X7 _) ⟨d5 _,beq_eq_false_iff_ne.mpr (dW (Xd I2.bigD)),[],Paired.nil,hnew.keep kp⟩
 have nd:H1 hz.objs.size=ah:=I2.hok.fresh (X7 _);rw[z5]at I3 nd ⊢;refine jjt (A:=X.A.in1) (R:=wants (λr s₂=>r=b0/\EP X pins σ Q (aJ (s1.heap.objs.size+5)) s₂) X.xe) (H:=H1) (l1:=l1) (l2:=l2) (show X.A.in1.handled=ah from hh) (zipApart_new lt1 lt2) hn hkn hls nd sq1' sq2' ks.length 0 _ nofun (d5 _) (by rw[List.take_zero];exact I3) (λc hc=>?_) (λc hc=>?_) ⟨.inl ⟨kp _ _ (up _ _ bz),_,_,kp _ _ (up _ _ b4)⟩,kp _ _ (up _ _ b3),sd1.stay λo e=>kp _ _ (up _ _ e),sd2.stay λo e=>kp _ _ (up _ _ e)⟩ λs' I'=>?_
 .exact fpk c (by simp at hc;rcases hc with e|e|e|e<;>rw[e]<;>omega) (by simp at hc;rcases hc with e|e|e|e<;>rw[e]<;>omega)
 .simp at hc;have n5:=ne5 s1.heap.objs.size;rcases hc with e|e|e|e|e<;>rw[e]
  .exact n5.1
  .exact n5.2.1
  .exact n5.2.2.1
  .exact n5.2.2.2.1
  .exact n5.2.2.2.2
 .exact⟨rfl,.ref (s1.heap.objs.size+5),_,I',rfl,q _ _ (g1.trans (j7 nd)) ⟨_,rfl,by rw[j5 ((r.grow g1).fresh nd)];exact jx⟩⟩
end
section
variable{X:Cx}{ρ:Rho}{a e:au}{es:List au}{x:aq}{d:D}{p p1 p2 pos:aR}{y:aq}{ds:List D}
theorem Nk{M:jI}{A:aI}{E:k7u}{s:ar}{env:dz}{value:au}{pos:aR}{Q:k7u}
  (h:ay M A (aD value env) (λv s₁=>ay M A (pyReprObj v) (λr s₂=>ay M A (formatField r bJ) Q E s₂) E s₁) E s) :
  ay M A (aD (.FormattedValue value 114 ah pos) env) Q E s:=by
 rw[arm_eval_FormattedValue];refine ai (bS h (λv s₁ h₁=>?_) λ_ _ x=>x);refine ai (ie ?_);show ay _ _ (do let v' <-eC [v] (pyReprObj v);formatField v' bJ) Q E s₁;exact ai (bU h₁)
theorem DE.fmtR(ha:DT X ρ e (.str y))(hy:(bZ y).length<=av):DE X ρ (.FormattedValue e 114 ah pos) (.str (bZ y)):=λσ H Q R q pins s I=>by
 refine Nk (thn (ha σ H (λv H1=>v=.str y/\j4 H H1) R (λv H1 g e=>⟨e,g⟩) pins s I) λu s1 ⟨v,H1,I1,r,ev,g⟩=>?_);subst ev;obtain⟨t,rfl⟩:=(show ∃t,u=b9 y t from r)
 refine wpAny_pyReprObj_gives (df s1 y t) F.slot_str_repr F.entry_str_repr (F.args_str_repr_1 _) (gives_str_repr y t) ?_ rfl hy;exact lH (λt' tk=>⟨.str (bZ y),H1,I1.un (t':=tk) Un.refl I1.hok,⟨_,rfl⟩,q _ H1 g rfl⟩) hy
theorem O6.grow{σ:St}{H H':Hp}(k:O6 X σ H x)(g:j4 H H'):O6 X σ H' x:=λpins H2 s' e C I g2 hC Fe=>k pins H2 s' e C I (g.trans g2) hC Fe
theorem DXA.head(ha:DX X ρ a x)(hs:aj (a::es) X.env=(ae,aD a X.env)::aj es X.env):DXA X ρ (a::es) x:=λσ H Q R k =>(jc peS paS hs).to (ha σ H _ R k)
theorem DXA.tail(ha:DT X ρ a d)(h:DXA X ρ es x)(hs:aj (a::es) X.env=(ae,aD a X.env)::aj es X.env):DXA X ρ (a::es) x:=λσ H Q R k =>(jc peS paS hs).to (ha σ H _ R λv H1 g _=>h σ H1 _ (R.grow g) (k.grow g))
theorem DX.args {f:aq} (ha:DXA X ρ (e::es) x) (hg:Gl X f) (hdb:(f==k7x)=ae) {fa:ao} (hfa:X.mg f=aa (.ref fa)) (hk:W.keepIn X.K (.ref fa)=af)
  (he:aj (e::es) X.env=(ae,aD e X.env)::aj es X.env) (hpl:(aQ pos (aj es X.env)).any (·.1)=ae):DX X ρ (.Call (.Name f p) (e::es) [] pos) x:=λσ H Q R k pins s I=>by
 refine aX (Vc I hg hfa ?_ hdb);exact W.callWith_K (h₀:=X.base) I.ok.mod.kin hk (thn (ha σ H (λ_ _=>False) R k pos pins s I) λus s1 ⟨vs,H1,I1,r,z⟩=>z.elim) he hpl
end
noncomputable def Wr:List Int->Int
 |[]=>0
 |a::r=>r.foldl max a
theorem j95:∀(r:List Int)(a:Int),a<=r.foldl max a
 |[],a=>lM a
 |b::r,a=>by rw[Pz];have:=j95 r (max a b);omega
theorem Ku:∀(r:List Int)(a:Int),r.foldl max a∈a::r/\∀b∈a::r,b<=r.foldl max a
 |[],a=>⟨X4.mpr rfl,λb hb=>by rw[X4.mp hb];exact lM _⟩
 |c::r,a=>by
  rw[Pz];obtain⟨h1,h2⟩:=Ku r (max a c);refine⟨?_,λb hb=>?_⟩
  .rcases xn.mp h1 with z|z
   .rw[z];by_cases q:a<=c
    .rw[Int.max_eq_right q];exact xf _ xj
    .rw[Int.max_eq_left nofun];exact xj
   .exact xf _ (xf _ z)
  .have l:=h2 (max a c) xj;rcases xn.mp hb with z|z
   .rw[z];omega
   .rcases xn.mp z with z|z
    .rw[z];omega
    .exact h2 b (xf _ z)
theorem j0m{ns:List Int}(h:ns≠[]):Wr ns∈ns/\∀b∈ns,b<=Wr ns:=by
 cases ns with
 |nil=>exact absurd rfl h
 |cons a r=>exact Ku r a
theorem jdk{ns:List Int}{M:Int}(h1:M∈ns)(h2:∀a∈ns,a<=M):Wr ns=M:=by
 have hn:ns≠[]:=λe=>by rw[e]at h1;exact nomatch h1
 obtain⟨a,b⟩:=j0m hn;have:=h2 _ a;have:=b _ h1;omega
noncomputable def Mm(ns:List Int):Int:=-Wr (ns.map λn=>-n)
theorem j90{ns:List Int}(h:ns≠[]):Mm ns∈ns/\∀b∈ns,Mm ns<=b:=by
 obtain⟨h1,h2⟩:=j0m (ns:=ns.map λn=>-n) (by simpa using h);obtain⟨a,ha,e⟩:=Xa.mp h1;unfold Mm;refine⟨?_,λb hb=>?_⟩
 .rw[<-e,Int.neg_neg];exact ha
 .have:=h2 _ (Xa.mpr ⟨b,hb,rfl⟩);omega
theorem jdj{ns:List Int}{M:Int}(h1:M∈ns)(h2:∀a∈ns,M<=a):Mm ns=M:=by
 obtain⟨a,b⟩:=j90 (ns:=ns) λe=>by rw[e]at h1;exact nomatch h1
 have:=h2 _ a;have:=b _ h1;omega
section
variable{X:Cx}{ρ:Rho}{a b e:au}{es:List au}{x y:aq}{d:D}{i j:Int}{p p1 p2 p3 p4 pk pos:aR}{ds:List D}
theorem jay{pins:k7v}{s:ar}{σ:St}{H:Hp}{l:ao}{ns:List Int}(I:Inv X pins σ H s)(sq:SqL X.K H l (ns.map V.int))(hne:ns≠[]):∃zs,s.heap.IsList l (fk zs)/\0<zs.size/\zs.size=ns.length/\∀i,i<zs.size->gG zs i=ns.getD i 0:=by
 obtain⟨its,rv,pl,_⟩:=I.list sq;have hl:its.length=ns.length:=by rw[<-rv.length,xg]
 have val:∀(i:Nat)(v:ak),its[i]?=aa v->∃t,v=bu (ns.getD i 0) t:=by
  intro i v hv;have hi:i<its.length:=(Xf.mp hv).1;have hi':i<ns.length:=by omega
  obtain⟨w1,hw,rw1⟩:=rv.get (x:=.int (ns.getD i 0)) (i:=i) (by rw[xu,kh hi',kj,kh hi'];rfl);rw[hw]at hv;cases hv;exact rw1
 have hall:AllInts its.toArray:=by intro v hv;obtain⟨i,hi,e⟩:=List.mem_iff_getElem.mp (show v∈its by simpa using hv);obtain⟨t,e'⟩:=val i v (by rw[kh hi,e]);exact⟨_,t,e'⟩
 obtain⟨zs,hz⟩:=hall.items;have pl':=pl.isList;rw[hz]at pl';have hsz:0<zs.size:=by
  have:its.toArray.size=(fk zs).size:=by rw[hz]
  have h1:0<ns.length:=List.length_pos_iff.mpr hne;simp[fk]at this;omega
 have hns:∀i,i<zs.size->gG zs i=ns.getD i 0:=by
  intro i hi;obtain⟨v1,e1⟩:∃v,(fk zs)[i]?=aa v:=⟨_,Array.getElem?_eq_getElem (by simpa [fk]using hi)⟩
  obtain⟨t,ht⟩:=jG e1;rw[<-hz]at e1;obtain⟨t',ht'⟩:=val i _ (by simpa using e1);rw[ht]at ht';exact(Value.int.inj ht').1
 have len:zs.size=ns.length:=by
  have:its.toArray.size=(fk zs).size:=by rw[hz]
  simp[fk]at this;omega
 exact⟨zs,pl',hsz,len,hns⟩
theorem j7a (hc:X.calm=af):Jy X (.builtin "max") (λxs H Q=>∃(l:ao)(ns:List Int),xs=[.ref l]/\SqL X.K H l (ns.map V.int)/\ns≠[]/\Q (.int (Wr ns)) H):=by
 rintro pins s σ H xs us Q I r ⟨l,ns,e,sq,hne,q⟩;subst e;obtain⟨u,eu,ru⟩:=vals1 r;subst eu;cases ru;obtain⟨zs,pl',hsz,len,hns⟩:=jay I sq hne;refine max_intList (I.ok.hd hc) pl' hsz λv h' tk hv hk=>?_;obtain⟨t,rfl⟩:=jG hv;obtain⟨h1,h2⟩:=argBest_gt (gG zs) (zs.size-1);have hM:Wr ns=gG zs (kx (λi j=>decide (gG zs i>gG zs j)) (zs.size-1)):=by
  refine jdk ?_ λc hc=>?_
  .rw[hns _ nofun];rw[kj,kh nofun];exact Xy _
  .obtain⟨k,hk,rfl⟩:=List.mem_iff_getElem.mp hc;have:=h2 k nofun
   rw[hns k nofun,kj,kh hk]at this;exact this
 rw[hM]at q;exact⟨.int _,H,I.kept hk,⟨t,rfl⟩,q⟩
theorem j78 (hc:X.calm=af):Jy X (.builtin "min") (λxs H Q=>∃(l:ao)(ns:List Int),xs=[.ref l]/\SqL X.K H l (ns.map V.int)/\ns≠[]/\Q (.int (Mm ns)) H):=by
 rintro pins s σ H xs us Q I r ⟨l,ns,e,sq,hne,q⟩;subst e;obtain⟨u,eu,ru⟩:=vals1 r;subst eu;cases ru;obtain⟨zs,pl',hsz,len,hns⟩:=jay I sq hne;refine min_intList (I.ok.hd hc) pl' hsz λv h' tk hv hk=>?_;obtain⟨t,rfl⟩:=jG hv;obtain⟨h1,h2⟩:=argBest_lt (gG zs) (zs.size-1);have hM:Mm ns=gG zs (kx (λi j=>decide (gG zs i<gG zs j)) (zs.size-1)):=by
  refine jdj ?_ λc hc=>?_
  .rw[hns _ nofun];rw[kj,kh nofun];exact Xy _
  .obtain⟨k,hk,rfl⟩:=List.mem_iff_getElem.mp hc;have:=h2 k nofun
   rw[hns k nofun,kj,kh hk]at this;exact this
 rw[hM]at q;exact⟨.int _,H,I.kept hk,⟨t,rfl⟩,q⟩
theorem DE.max2 (ha:DT X ρ a (.int i)) (hb:DT X ρ b (.int j)) (hm:X.mg "max" = ah) (hc:X.calm=af) (hg:Gl X "max") (hs:aj [a,b] X.env=(ae,aD a X.env)::aj [b] X.env) (hs2:aj [b] X.env=(ae,aD b X.env)::aj [] X.env)
  (hpl:(aQ pos (aj [b] X.env)).any (·.1)=ae):DE X ρ (.Call (.Name "max" p) [a,b] [] pos) (.int (if j>i then j else i)):=λσ H Q R q =>
 (vh (j7b hc) hg hm boot_max (jc peS (jc peS qb hs2) hs) (by decide) (by decide) hs hpl).to (ha σ H _ R λv H1 g1 e1=>hb σ H1 _ (R.grow g1) λu H2 g2 e2=>⟨i,j,by rw[show v=.int i from e1,show u=.int j from e2],q _ H2 (g1.trans g2) rfl⟩)
theorem DE.maxL {ns:List Int} (ha:DT X ρ a (.lst (ns.map D.int))) (hn:ns≠[]) (hm:X.mg "max" = ah) (hc:X.calm=af) (hg:Gl X "max") (hs:aj [a] X.env=[(ae,aD a X.env)]):DE X ρ (.Call (.Name "max" p) [a] [] pos) (.int (Wr ns)):=λσ H Q R q =>(vh (j7a hc) hg hm boot_max (jc peS qb hs) (by decide) (by decide) hs).to (ha σ H _ R λv H1 g1 ⟨l,xs,e,sq,en⟩=>⟨l,ns,by rw[e],by rw[Qt en]at sq;exact sq,hn,q _ H1 g1 rfl⟩)
theorem DE.minL {ns:List Int} (ha:DT X ρ a (.lst (ns.map D.int))) (hn:ns≠[]) (hm:X.mg "min" = ah) (hc:X.calm=af) (hg:Gl X "min") (hs:aj [a] X.env=[(ae,aD a X.env)]):DE X ρ (.Call (.Name "min" p) [a] [] pos) (.int (Mm ns)):=λσ H Q R q =>(vh (j78 hc) hg hm boot_min (jc peS qb hs) (by decide) (by decide) hs).to (ha σ H _ R λv H1 g1 ⟨l,xs,e,sq,en⟩=>⟨l,ns,by rw[e],by rw[Qt en]at sq;exact sq,hn,q _ H1 g1 rfl⟩)
theorem DX.dzip (ha:DXA X ρ [a,b] y) (hm:X.mg "dict" = ah) (hmz:X.mg "zip" = ah) (hg:Gl X "dict") (hgz:Gl X "zip")
  (hs0:aj [.Call (.Name "zip" p2) [a,b] [] p3] X.env=(ae,aD (.Call (.Name "zip" p2) [a,b] [] p3) X.env)::aj [] X.env) (hs:aj [a,b] X.env=(ae,aD a X.env)::aj [b] X.env) (hs2:aj [b] X.env=(ae,aD b X.env)::aj [] X.env) :
  DX X ρ (.Call (.Name "dict" p) [.Call (.Name "zip" p2) [a,b] [] p3] [] p4) y:=λσ H Q R k pins s I=>by
 have hpl:(aQ p3 (aj [b] X.env)).any (·.1)=ae:=by rw[hs2];rfl
 refine iF (Jb I hg hm boot_dict (callWith_type1 ?_ hs0 (by rfl)));rw[hs0];show ay _ _ (gd ((ae,aD (.Call (.Name "zip" p2) [a,b] [] p3) X.env)::aQ p4 (aj [] X.env))) _ _ s;refine cJ ?_;exact iF (Jb I hgz hmz m8 (callWith_type1 (thn (ha σ H (λ_ _=>False) R k p3 pins s I) λus s1 ⟨vs,H1,I1,r,z⟩=>z.elim) hs hpl))
end
theorem j6.getE{K:k7t}{H:Hp}:∀{ds:List D}{xs:List V}{k:Nat}{d:D},j6 K H ds xs->ds[k]?=aa d->∃y,xs[k]?=aa y/\Enc K H d y/\j6 K H (ds.eraseIdx k) (xs.eraseIdx k)
 |[],_,_,_,_,h=>by simp at h
 |c::ds,xs,0,d,⟨v,r,e,ev,l⟩,h=>by rw[gR]at h;cases h;subst e;exact⟨v,rfl,ev,l⟩
 |c::ds,xs,k+1,d,⟨v,r,e,ev,l⟩,h=>by rw[Tg]at h;subst e;obtain⟨y,h1,h2,h3⟩:=j6.getE l h;exact⟨y,by rw[Tg];exact h1,h2,⟨v,r.eraseIdx k,rfl,ev,h3⟩⟩
section
variable{X:Cx}{ρ:Rho}{p1 p2 p3 p4 p5 p6 q1 pos:aR}
theorem DS.apop{i w k:Nat}{x u:aq}{l l2:ao}{ds es:List D}{z:Int}{d:D}{e:au}{P:Po}(hk:ρ[i]?=aa (.own l ds))(hk2:ρ[w]?=aa (.own l2 es))(ne:i≠w)(he:DE X ρ e (.int z))(hz:ixN es.length z=aa k)(hd':es[k]?=aa d)(hl:ds.length<av)(hes:es.length<=1000000)
  (h:P.nx ((ρ.set w (.own l2 (es.eraseIdx k))).set i (.own l (ds++[d]))))
  (hN:X.N[i]?=aa x) (hv:Vis X.env.scope x) (hd:(x==k7x)=ae) (hcd:(x==k7y)=ae) (hN2:X.N[w]?=aa u) (hv2:Vis X.env.scope u) (hd2:(u==k7x)=ae) (hcd2:(u==k7y)=ae)
  (hst:aj [e] X.env=[(ae,aD e X.env)]) (hst1:aj [.Call (.Attribute (.Name u p4) "pop" p5) [e] [] p6] X.env=[(ae,aD (.Call (.Attribute (.Name u p4) "pop" p5) [e] [] p6) X.env)])
  (hline:(p2.endLine==p3.line)=af) (hline2:(p5.endLine==p6.line)=af)
  (hbase:aW (.Name x p1) "append" X.env (aD (.Name x p1) X.env)=aD (.Name x p1) X.env) (hbase2:aW (.Name u p4) "pop" X.env (aD (.Name u p4) X.env)=aD (.Name u p4) X.env)
  (hfew:((aQ p3 (aj [.Call (.Attribute (.Name u p4) "pop" p5) [e] [] p6] X.env)).all (λx=>!x.1)&&(bP p3 (b8 [] X.env)).all (λx=>x.1.isSome)
   && decide (([.Call (.Attribute (.Name u p4) "pop" p5) [e] [] p6]:List au).length+([]:List b7).length+(if ([]:List b7).isEmpty then 0 else 1)<30))=af)
  (hfew2:((aQ p6 (aj [e] X.env)).all (λx=>!x.1)&&(bP p6 (b8 [] X.env)).all (λx=>x.1.isSome)
   && decide (([e]:List au).length+([]:List b7).length+(if ([]:List b7).isEmpty then 0 else 1)<30))=af)
  (hs:aM (.Call (.Attribute (.Name x p1) "append" p2) [.Call (.Attribute (.Name u p4) "pop" p5) [e] [] p6] [] p3) ah pos.line X.env=pure ae) :
  DS X ρ (.Expr (.Call (.Attribute (.Name x p1) "append" p2) [.Call (.Attribute (.Name u p4) "pop" p5) [e] [] p6] [] p3) pos) P:=λσ H E R q=>by
 obtain⟨hσ,xs,m,en⟩:=R.own i l ds hk;obtain⟨hσ2,ys,m2,en2⟩:=R.own w l2 es hk2;have hp:=Ui (X:=X) (apos:=p5) (cpos:=p6) Pu iy PySem.F.type_list_pop j8z (qz (pos:=p4) hN2 hv2 hd2 hcd2) (jc (peS (e:=e)) qb hst) hbase2 hfew2 hline2 hst rfl;refine(Zg (Ui Pu bK cE Vs (qz hN hv hd hcd) (jc hp qb hst1) hbase hfew hline hst1 rfl) hs).to ?_;refine⟨_,hσ,.inl ⟨rfl,xs,.inl (.inl m)⟩,⟨_,hσ2,.inl ⟨rfl,ys,.inl (.inl m2)⟩,he σ H _ R λv H1 g1 e1=>?_⟩⟩;have e1:v=.int z:=e1;subst e1;obtain⟨s1,s2,s3,s4⟩:=j2n hz;obtain⟨y,gy,ey,el⟩:=(en2.mono (je g1)).getE hd';have R1:=(R.grow g1).upd_own hk2 el;have hi:(ρ.set w (.own l2 (es.eraseIdx k)))[i]?=aa (.own l ds):=by rw[eQ (dW ne)];exact hk
 obtain⟨_,xs',m',en'⟩:=R1.own i l ds hi;have p63:(2:Int)^63=9223372036854775808:=by decide
 refine⟨l2,ys,z,k,y,rfl,rfl,g1 _ _ m2,by rw[p63];omega,by rw[p63];omega,by rw[en2.length];exact s1,gy,?_⟩;refine⟨l,xs',y,rfl,rfl,m',by rw[en'.length];exact hl,?_⟩;exact q.nx _ σ _ h (R1.upd_own hi (en'.append (.one (by rw[Qh hk2,Ve (Jr hk2)];exact ey)))) (j4.trans (Mw (σ:=σ) hk2 g1) (Mw (σ:=σ) hi (j4.refl _)))
end
section
variable{X:Cx}{ρ:Rho}{p1 p2 p3 p4 p5 p6 q1 pos:aR}
end
noncomputable def ch1(c:Nat):aq:=⟨#[c]⟩
noncomputable def chs(y:aq):List D:=y.cps.toList.map λc=>D.str (ch1 c)
noncomputable def ascii(y:aq):Bool:=y.cps.all (· < 128)
noncomputable def Its(y:aq):It:=⟨λi _=>i<y.cps.size,λi H x H'=>H'=H/\∃c,y.cps[i]?=aa c/\x=.str (ch1 c),λi _=>y.cps.size<=i⟩
theorem j7r {P:az} {w:aF} {K:k7t} {tg:au} (it:ao) (y:aq) (t:dH):Turn P w K tg (Its y) [it] it (λi h=>h.IsStrIter it "str_ascii_iterator" y t i) where
 mem:=by simp
 obj:=λi h st b hb=>by
  have e:b=it:=by simpa using hb
  subst e;obtain⟨o,e,c,d⟩:=st;exact⟨o,e,λv z=>by rw[d]at z;cases z⟩
 keep:=λi h h' st k=>let ⟨o,e,r⟩:=st;⟨o,k it (by simp) o e,r⟩
 item:=by intro X hP hw hK hc i pins s σ H E I hf st hg;subst hP hw hK;obtain⟨f0,f1,f2,f3,f4,f5⟩:=hf it (by simp);have W:=Walks.strAscii (prog:=X.prog) (w:=X.w) (I.ok.hd hc) it y t;refine W.item i s _ _ hg st λv h' tk hv st' kk=>?_;obtain⟨c,u,hcu,rfl⟩:=hv;have I1:Inv X pins σ H { s with heap:=h',toks:=tk }:=I.turned (λb o hb e=>kk b o (by simpa using hb) e) f0 f1 f3 f4 f5;obtain⟨o,e,oc,d⟩:=id st';exact⟨_,rfl,Eh (s:={ s with heap:=h',toks:=tk }) e oc d (by decide) ⟨.str (ch1 c),H,I1,⟨u,rfl⟩,⟨rfl,c,hcu,rfl⟩,st',λb hb=>(hf b hb).1⟩⟩
 done:=by intro X hP hw hK hc i pins s σ H E I hf st hg;subst hP hw hK;obtain⟨f0,f1,f2,f3,f4,f5⟩:=hf it (by simp);exact wpAny_pyNext_ascii_end (I.ok.hd hc) st (by have:y.cps.size<=i:=hg;simp;omega) λh' eb=>⟨rfl,I.turned (t':=s.toks) (λb o hb e=>eb b o hb e) f0 f1 f3 f4 f5⟩
 self:=λ_ _ _ _ _ st h=>wpAny_pyIter_striter_ascii st h
section
variable{X:Cx}{ρ:Rho}{a b c e tg it:au}{y z:aq}{i j k:Int}{p p2 pos:aR}
theorem j9d{K:k7t}{F:Hp}(y:aq):Uw K F (Its y) (chs y):=λi H A g hA=>by
 have hl:(chs y).length=y.cps.size:=by unfold chs;rw[xg,de]
 rw[hl];refine⟨λh=>h,λh=>h,λx H' ⟨e,c,hc,ex⟩=>?_⟩;subst e ex;refine⟨j4.refl _,λd hd=>?_⟩;unfold chs at hd;rw[xu,hJ,hc]at hd;cases hd;rfl
theorem DI.str(h:DT X ρ it (.str y))(ha:ascii y=af):DI X ρ tg it (chs y):=λσ H R r q pins s I=>by
 refine thn (h σ H (λv H1=>v=.str y/\j4 H H1) r (λv H1 g e=>⟨e,g⟩) pins s I) λv s1 ⟨x,H1,I1,r1,ex,g1⟩=>?_;subst ex;obtain⟨t,rfl⟩:=(show ∃t,v=b9 y t from r1)
 refine wpAny_pyIter_ascii ha ?_;refine⟨s1.heap.objs.size,[s1.heap.objs.size],_,_,H1,rfl,I1.kept (t':=s1.toks) λb o e=>km _ e,j7r _ y t,⟨_,X3 _ rfl,rfl,rfl⟩,λb hb=>?_,q _ H1 g1 (j9d y)⟩;have e:b=s1.heap.objs.size:=by simpa using hb
 subst e;exact I1.fpOk (X7 _) (I1.hok.fresh (X7 _))
noncomputable def inS(y z:aq):Bool:=!(bD z y 0 z.length 1).isEmpty
theorem Kl:OpR X (bo .Gt) (λx y H Q=>∃i j,x=.str i/\y=.str j/\Q (.bl (decide (j.cps.toList<i.cps.toList))) H):=by intro pins s σ H x y v u Q I rx ry h;obtain⟨i,j,rfl,rfl,q⟩:=h;obtain⟨t,rfl⟩:=rx;obtain⟨t',rfl⟩:=ry;exact P.gt_str (qj I q rfl)
theorem DE.ltS(ha:DT X ρ a (.str y))(hb:DT X ρ b (.str z)):DE X ρ (.Compare a [.Lt] [b] pos) (.bl (decide (y.cps.toList<z.cps.toList))):=λσ H Q R q =>(Jz Kg peS peS (zx _)).to (ha σ H _ R λv H1 g1 e1=>hb σ H1 _ (R.grow g1) λu H2 g2 e2=>⟨y,z,e1,e2,q _ H2 (g1.trans g2) rfl⟩)
theorem DB.ltS(ha:DT X ρ a (.str y))(hb:DT X ρ b (.str z)):DB X ρ (.Compare a [.Lt] [b] pos) (decide (y.cps.toList<z.cps.toList)):=λσ H Q R q =>(Jg Kg peS peS (zx _)).to (ha σ H _ R λv H1 g1 e1=>hb σ H1 _ (R.grow g1) λu H2 g2 e2=>⟨y,z,e1,e2,_,rfl,q H2 (g1.trans g2)⟩)
theorem DE.gtS(ha:DT X ρ a (.str y))(hb:DT X ρ b (.str z)):DE X ρ (.Compare a [.Gt] [b] pos) (.bl (decide (z.cps.toList<y.cps.toList))):=λσ H Q R q =>(Jz Kl peS peS (zx _)).to (ha σ H _ R λv H1 g1 e1=>hb σ H1 _ (R.grow g1) λu H2 g2 e2=>⟨y,z,e1,e2,q _ H2 (g1.trans g2) rfl⟩)
theorem DB.gtS(ha:DT X ρ a (.str y))(hb:DT X ρ b (.str z)):DB X ρ (.Compare a [.Gt] [b] pos) (decide (z.cps.toList<y.cps.toList)):=λσ H Q R q =>(Jg Kl peS peS (zx _)).to (ha σ H _ R λv H1 g1 e1=>hb σ H1 _ (R.grow g1) λu H2 g2 e2=>⟨y,z,e1,e2,_,rfl,q H2 (g1.trans g2)⟩)
theorem DE.inS(ha:DT X ρ a (.str y))(hb:DT X ρ b (.str z))(hm:aP .In b=ae):DE X ρ (.Compare a [.In] [b] pos) (.bl (inS y z)):=λσ H Q R q =>(Jz Kh peS peS hm).to (ha σ H _ R λv H1 g1 e1=>hb σ H1 _ (R.grow g1) λu H2 g2 e2=>⟨y,z,e1,e2,q _ H2 (g1.trans g2) rfl⟩)
theorem DB.inS(ha:DT X ρ a (.str y))(hb:DT X ρ b (.str z))(hm:aP .In b=ae):DB X ρ (.Compare a [.In] [b] pos) (inS y z):=λσ H Q R q =>(Jg Kh peS peS hm).to (ha σ H _ R λv H1 g1 e1=>hb σ H1 _ (R.grow g1) λu H2 g2 e2=>⟨y,z,e1,e2,_,rfl,q H2 (g1.trans g2)⟩)
theorem mulOk_of(h1:1<=k/\k<=1000)(h2:y.length<=1000):MulOk y k:=by
 refine⟨?_,λ_ _=>?_,λ_ _=>?_⟩
 .simp;omega
 .have:(1000:Int)<=(2^63-1)/k:=Int.le_ediv_of_mul_le nofun nofun
  omega
 .have hk:k.toNat<=1000:=by omega
  have:y.length*k.toNat<=1000000:=Nat.mul_le_mul h2 hk;unfold ba;rw[cn];simp;omega
theorem j3q:OpR X (bj .Mult) (λx y H Q=>∃i k,x=.str i/\y=.int k/\MulOk i k/\Q (.str (iM i k)) H):=by intro pins s σ H x y v u Q I rx ry h;obtain⟨i,k,rfl,rfl,hm,q⟩:=h;obtain⟨t,rfl⟩:=rx;obtain⟨t',rfl⟩:=ry;exact SB.mul hm λt' tk=>⟨.str _,H,I.un (t':=tk) Un.refl I.hok,⟨_,rfl⟩,q⟩
theorem DE.mulS(ha:DT X ρ a (.str y))(hb:DT X ρ b (.int k))(h1:1<=k/\k<=1000)(h2:y.length<=1000):DE X ρ (.BinOp a .Mult b pos) (.str (iM y k)):=λσ H Q R q =>(Yb j3q peS peS).to (ha σ H _ R λv H1 g1 e1=>hb σ H1 _ (R.grow g1) λu H2 g2 e2=>⟨y,k,e1,e2,mulOk_of h1 h2,q _ H2 (g1.trans g2) rfl⟩)
end
section
variable{X:Cx}{pins:k7v}{σ:St}{H:Hp}{l S I:ao}{xs:List V}{R:fm->ar->Prop}{dv:ak}
end
section
variable{X:Cx}{ρ:Rho}{a b c:au}{ns:List Int}{i j k:Int}{n:Nat}{p p1 pk pos:aR}
end
section
variable{X:Cx}{ρ ρ1 ρ':Rho}{e c:au}{ss sa sb:List aS}{is is2:List Nat}{d:D}{i:Nat}{x:aq}{p pos:aR}
def DMs(X:Cx)(ρ ρ':Rho)(is:List Nat)(ss:List aS):Prop:=∀(σ:St)(H:Hp)(E:Ends),Rep X.K ρ σ H->(∀σ' H',j4 H H'->Rep X.K ρ' σ' H'->(∀j,j∉is->σ'[j]?=σ[j]?)->E.nx σ' H')->Vh X ss E σ H
def DMt(X:Cx)(ρ ρ':Rho)(is:List Nat)(full tl:List aS):Prop:=∀(σ:St)(H:Hp)(E:Ends),Rep X.K ρ σ H->(∀σ' H',j4 H H'->Rep X.K ρ' σ' H'->(∀j,j∉is->σ'[j]?=σ[j]?)->Vh X tl E σ' H')->Vh X full E σ H
variable{tl:List aS}
end
def Kp(ρ ρ':Rho)(is:List Nat):Prop:=(∀b∈owns ρ',b∈owns ρ)/\∀j,j∉is->ρ'[j]?=ρ[j]?
section
variable{X:Cx}{ρ ρ1 ρ':Rho}{is js:List Nat}{i:Nat}{d:D}
end
noncomputable def jn6:HO->Bool
 |.ins _ _ _=>af
 |_=>ae
def Ql(H H':Hp):Prop:=∀b o,H b=aa o->jn6 o=ae->H' b=aa o
theorem Ql.del{H H':Hp}{A:List ao}(g:Ql H H'):Ql (del H A) (del H' A):=λb o h n=>by obtain⟨nb,e⟩:=of_del h;rw[j5 nb];exact g b o e n
theorem Ql.seq{K:k7t}{H H':Hp}{a:ao}{xs:List V}(g:Ql H H')(h:SqL K H a xs):SqL K H' a xs:=by
 rcases h with (h|⟨o,h⟩)|h
 .exact .inl (.inl (g _ _ h rfl))
 .exact .inl (.inr ⟨o,g _ _ h rfl⟩)
 .exact .inr h
theorem Ql.seqT{K:k7t}{H H':Hp}{a:ao}{xs:List V}(g:Ql H H')(h:SqT K H a xs):SqT K H' a xs:=by
 rcases h with (h|⟨o,h⟩)|h
 .exact .inl (.inl (g _ _ h rfl))
 .exact .inl (.inr ⟨o,g _ _ h rfl⟩)
 .exact .inr h
theorem vo.monoN{H H':Hp}(g:Ql H H'):∀{cs:List ao}{vs:List V},vo H cs vs->vo H' cs vs
 |[],_,h=>h
 |_::_,_,⟨v,r,o,u,e,h,d,rv,l⟩=>⟨v,r,o,u,e,g _ _ h rfl,d,rv,l.monoN g⟩
theorem LamAt.monoN{K:k7t}{H H':Hp}{x:aq}{a c:ao}{tx:Tx}{cl:List (aq×ao)}{vs:List V}(g:Ql H H')(h:LamAt K H x a c tx cl vs):LamAt K H' x a c tx cl vs :=
 ⟨h.tx,let ⟨pm,ctv,e⟩:=h.fo;⟨pm,ctv,g _ _ e rfl⟩,let ⟨oc,e,q⟩:=h.co;⟨oc,g _ _ e rfl,q⟩,h.nm,h.nd,h.cs.monoN g⟩
mutual
theorem Enc.monoN{K:k7t}{H H':Hp}(g:Ql H H'):∀{d:D}{v:V},Enc K H d v->Enc K H' d v
 |.non,_,h=>h
 |.bl _,_,h=>h
 |.int _,_,h=>h
 |.str _,_,h=>h
 |.tup _,_,⟨a,xs,e,q,l⟩=>⟨a,xs,e,g.seqT q,j6.monoN g l⟩
 |.lst _,_,⟨a,xs,e,q,l⟩=>⟨a,xs,e,g.seq q,j6.monoN g l⟩
 |.dct _ _,_,⟨a,xs,ep,vs,e,q,ek,kt,rv,l⟩=>⟨a,xs,ep,vs,e,g _ _ q rfl,ek,λx hx=>g.seqT (kt x hx),rv,j6.monoN g l⟩
 |.sct _,_,⟨a,e,q⟩=>⟨a,e,g _ _ q rfl⟩
 |.fn _ _,_,⟨a,c,tx,cl,vs,e,q,l⟩=>⟨a,c,tx,cl,vs,e,q.monoN g,j6.monoN g.del l⟩
theorem j6.monoN{K:k7t}{H H':Hp}(g:Ql H H'):∀{ds:List D}{xs:List V},j6 K H ds xs->j6 K H' ds xs
 |[],_,h=>h
 |_::_,_,⟨x,r,e,h,l⟩=>⟨x,r,e,Enc.monoN g h,j6.monoN g l⟩
end
theorem Rep.monoN{K:k7t}{ρ:Rho}{σ:St}{H H':Hp}(R:Rep K ρ σ H)(g:Ql H H'):Rep K ρ σ H' :=
 ⟨R.len,λi d e=>let ⟨v,q,h⟩:=R.val i d e;⟨v,q,h.monoN g.del⟩,λi a ds e=>let ⟨q,xs,h,l⟩:=R.own i a ds e;⟨q,xs,g _ _ h rfl,l.monoN g.del⟩,R.nd,λi a o x e=>let ⟨q,h⟩:=R.raw i a o x e;⟨q,h.elim .inl λh=>.inr ⟨g.del _ _ h.1 rfl,h.2⟩⟩,λx hx c P e=>g _ _ (R.tb x hx c P e) rfl⟩
noncomputable def pcF(b:ao)(k:Int):List (aq×V):=[("standing",.ref b),("spot",.int k)]
structure Ob where
 a:ao
 dx:ao
 b:ao
structure PcAt(C:ao)(H:Hp)(o:Ob)(ls:List aq)(k:Nat):Prop where
 ob:H o.a=aa (.ins C o.dx (pcF o.b (k:Int)))
 li:H o.b=aa (.lst (ls.map V.str))
def But(a:ao)(H H':Hp):Prop:=∀b o,b≠a->H b=aa o->H' b=aa o
theorem j0f (b:ao) (k:Int):(pcF b k).lookup ("standing":aq)=aa (.ref b):=by unfold pcF;rfl
theorem Fo (b:ao) (k:Int):(pcF b k).lookup ("spot":aq)=aa (.int k):=by
 unfold pcF;rw[Xi];have:(("spot":aq)==("standing":aq))=ae:=by decide +kernel
 rw[this];rfl
theorem Fp (b:ao) (k:Int) {m:aq} (h1:(m==("standing":aq))=ae) (h2:(m==("spot":aq))=ae):(pcF b k).lookup m=ah:=by unfold pcF;rw[Xi,h1,Xi,h2];rfl
theorem jdb (b:ao) (k j:Int):Jq "spot" (.int j) (pcF b k)=pcF b j:=by
 have z:¬(("standing":aq) = "spot"):=by decide +kernel
 show(if ("standing":aq) = "spot" then _ else(("standing":aq),V.ref b)::(if ("spot":aq) = "spot" then[(("spot":aq),V.int j)]else _))=pcF b j;rw[if_neg z,if_pos rfl];rfl
theorem j8r (b:ao):Jq "spot" (.int 0) (Jq "standing" (.ref b) [])=pcF b 0:=by
 have z:¬(("standing":aq) = "spot"):=by decide +kernel
 show(if ("standing":aq) = "spot" then _ else(("standing":aq),V.ref b)::Jq "spot" (.int 0) [])=pcF b 0;rw[if_neg z];rfl
theorem PcAt.stay{C:ao}{H H':Hp}{o:Ob}{ls:List aq}{k:Nat}(h:PcAt C H o ls k)(g:j4 H H'):PcAt C H' o ls k:=⟨g _ _ h.ob,g _ _ h.li⟩
structure PcT(K:k7t)(mg:k7w)(C fA fT fL fI:ao):Prop where
 cl:Cls K C
 nS:V7 K C "standing"
 nP:V7 K C "spot"
 mA:Meth K C "ahead" fA
 mT:Meth K C "taken" fT
 mL:Meth K C "all_taken" fL
 mkI:Mk K C fI
 mgC:mg "Pieces" = aa (.ref C)
 len:mg "len" = ah
def O9(C:ao):Sp:=λvs H Q _=>∃(o:Ob)(ls:List aq)(k:Nat),vs=[.ref o.a]/\PcAt C H o ls k/\Q (.str (ls.getD k "")) H
def Ck(C:ao):Sp:=λvs H Q _=>∃(o:Ob)(ls:List aq)(k:Nat),vs=[.ref o.a]/\PcAt C H o ls k/\∀H',PcAt C H' o ls (k+1)->But o.a H H'->Q (.str (ls.getD k "")) H'
def j39(C:ao):Sp:=λvs H Q _=>∃(o:Ob)(ls:List aq)(k:Nat),vs=[.ref o.a]/\PcAt C H o ls k/\Q (.bl (decide (ls.length<=k))) H
section
variable{P:az}{w:aF}{K:k7t}{mg:k7w}{base:aH}{C fA fT fL fI f:ao}{fd fdA:aN}{st:aS}
noncomputable def j7i(n:Nat)(p1 p2 p3 p4 p5 p6 p7 p8 p9 p10 p11 p12 p13 p14 p15 p16:aR):List aS :=
 [.If (.Compare (.Attribute (.Name "self" p1) "spot" p2) [.Lt] [.Call (.Name "len" p3) [.Attribute (.Name "self" p4) "standing" p5] [] p6] p7) [.Return (aa (.Subscript (.Attribute (.Name "self" p8) "standing" p9) (.Attribute (.Name "self" p10) "spot" p11) p12)) p13] [] p14,
 .Return (aa (.Constant (.str "") n p15)) p16]
theorem je8 {ls:List aq} {k:Nat} (h:k<ls.length):(ls.map V.str)[k]?=aa (.str (ls.getD k "")):=by rw[xu,kh h,kj,kh h];rfl
theorem j8x {n:Nat} {p1 p2 p3 p4 p5 p6 p7 p8 p9 p10 p11 p12 p13 p14 p15 p16:aR} (F:Fun K "ahead" "Pieces.ahead" st f fd) (T:PcT K mg C fA fT fL fI) (S:FnScope ["self"] ["self"] (j0 st)) (hb:jg st=j7i n p1 p2 p3 p4 p5 p6 p7 p8 p9 p10 p11 p12 p13 p14 p15 p16)
  (hv:Vis (j0 st) "self") (hg:(j0 st).names.lookup ("len":aq)=aa .globalImplicit):FnOk P w K mg base CX0 1 f fd ["self"] (O9 C):=by
 refine F.ok S (λvs H Q E h=>?_) (λcdv A outer s H vs Q E hr h=>?_)
 .obtain⟨a,ls,k,rfl,_⟩:=h;rfl
 .obtain⟨⟨a,dx,b⟩,ls,k,rfl,⟨h1,h2⟩,q⟩:=h;rw[hb];refine⟨_,zb (Ec (Jg j3r (Yu (qz (i:=0) rfl hv) rfl) (vh Zx hg T.len cq (jc (Yu (qz (i:=0) rfl hv) rfl) qb)) (zx _)) (W4 (Z3 (Od j2m (Yu (qz (i:=0) rfl hv) rfl) (Yu (qz (i:=0) rfl hv) rfl) (λ_ _=>rfl)))) W5) (W4 (Z3 Mg)),?_⟩;refine⟨_,rfl,a,C,dx,_,_,rfl,h1,T.cl,T.nP,Fo _ _,_,rfl,a,C,dx,_,_,rfl,h1,T.cl,T.nS,j0f _ _,b,_,rfl,.inl (SqL.of h2),_,_,rfl,rfl,_,rfl,?_⟩;rw[xg];refine jhq (λhc=>?_) (λhc=>?_)
  .have hlt:k<ls.length:=by have:=of_decide_eq_true hc;omega
   exact⟨_,rfl,a,C,dx,_,_,rfl,h1,T.cl,T.nS,j0f _ _,_,rfl,a,C,dx,_,_,rfl,h1,T.cl,T.nP,Fo _ _,b,_,(k:Int),_,rfl,rfl,SqL.of h2,Zj (je8 hlt),q⟩
  .have hlt:¬k<ls.length:=λz=>hc (decide_eq_true nofun);have e:ls.getD k "" = "":=by rw[kj,Xj nofun];rfl
   rw[e]at q;exact q
def Qv(X:Cx)(o:au)(m:aq)(apos pos:aR):Prop:=∃pl:lG Bool,aD (.Call (.Attribute o m apos) [] [] pos) X.env=(do
   let ov <-aD o X.env
   gc apos.atName
   let (f,first) <-eC [ov] (iA ov m pl)
   callWith pos f first (aQ pos (aj [] X.env)) (bP pos (b8 [] X.env)))
noncomputable def j4y(n:Nat)(p1 p2 p3 p4 p5 p6 p7 p8 p9 p10 p11 p12 p13 p14:aR):List aS :=
 [.Assign [.Name "piece" p1] (.Call (.Attribute (.Name "self" p2) "ahead" p3) [] [] p4) p5,
 .Assign [.Attribute (.Name "self" p6) "spot" p7] (.BinOp (.Attribute (.Name "self" p8) "spot" p9) .Add (.Constant (.int 1) n p10) p11) p12,
 .Return (aa (.Name "piece" p13)) p14]
theorem j8w {n:Nat} {p1 p2 p3 p4 p5 p6 p7 p8 p9 p10 p11 p12 p13 p14:aR} (F:Fun K "taken" "Pieces.taken" st f fd) (T:PcT K mg C fA fT fL fI) (S:FnScope ["self","piece"] ["self"] (j0 st)) (hb:jg st=j4y n p1 p2 p3 p4 p5 p6 p7 p8 p9 p10 p11 p12 p13 p14)
  (hv:Vis (j0 st) "self") (hl:(j0 st).names.lookup ("piece":aq)=aa .local) (hm:∀cdv A outer s H E,Qv (zm CX0 P w K mg base ["self","piece"] "Pieces.taken" (j0 st) f cdv A outer s H E).nox (.Name "self" p2) "ahead" p3 p4)
  (GA:FnOk P w K mg base CX0 1 fA fdA ["self"] (O9 C)) (bA:Binds K fdA ["self"] []):FnOk P w K mg base CX0 2 f fd ["self"] (Ck C):=by
 refine F.ok S (λvs H Q E h=>?_) (λcdv A outer s H vs Q E hr h=>?_)
 .obtain⟨a,ls,k,rfl,_⟩:=h;rfl
 .obtain⟨⟨a,dx,b⟩,ls,k,rfl,⟨h1,h2⟩,q⟩:=h;rw[hb];obtain⟨pl,ht⟩:=hm cdv A outer s H E;refine⟨_,zb (Z2 (i:=1) S.nd rfl (aZ hl) (Wq (qz (i:=0) rfl hv) T.cl T.mA GA hr bA .nil Vi ht)) (zb (j0b (qz (i:=0) rfl hv) (Yb j5s (Yu (qz (i:=0) rfl hv) rfl) j0d) rfl) (W4 (Z3 (qz (i:=1) rfl (aZ hl))))),?_⟩;have h1:H a=aa (.ins C dx (pcF b (k:Int))):=h1;have h2:H b=aa (.lst (ls.map V.str)):=h2;refine⟨_,rfl,a,dx,_,rfl,h1,Fp _ _ (by decide +kernel) (by decide +kernel),⟨a,dx,b⟩,ls,k,rfl,⟨h1,h2⟩,?_⟩;refine⟨_,rfl,a,C,dx,_,_,rfl,h1,T.cl,T.nP,Fo _ _,_,_,rfl,rfl,_,rfl,a,C,dx,_,rfl,h1,T.cl,T.nP,(by show 2<1000;decide),_,rfl,?_⟩;have nb:b≠a:=λz=>by rw[z,h1]at h2;cases h2
  refine q _ ⟨?_,by show upd H a _ b=_;rw[jj nb];exact h2⟩ (λc o n hc=>by rw[jj n];exact hc);show upd H a _ a=_;rw[jx,jdb];rfl
noncomputable def allB(p1 p2 p3 p4 p5 p6 p7 p8:aR):List aS:=[.Return (aa (.Compare (.Attribute (.Name "self" p1) "spot" p2) [.GtE] [.Call (.Name "len" p3) [.Attribute (.Name "self" p4) "standing" p5] [] p6] p7)) p8]
theorem jgv {p1 p2 p3 p4 p5 p6 p7 p8:aR} (F:Fun K "all_taken" "Pieces.all_taken" st f fd) (T:PcT K mg C fA fT fL fI) (S:FnScope ["self"] ["self"] (j0 st)) (hb:jg st=allB p1 p2 p3 p4 p5 p6 p7 p8)
  (hv:Vis (j0 st) "self") (hg:(j0 st).names.lookup ("len":aq)=aa .globalImplicit):FnOk P w K mg base CX0 1 f fd ["self"] (j39 C):=by
 refine F.ok S (λvs H Q E h=>?_) (λcdv A outer s H vs Q E hr h=>?_)
 .obtain⟨a,ls,k,rfl,_⟩:=h;rfl
 .obtain⟨⟨a,dx,b⟩,ls,k,rfl,⟨h1,h2⟩,q⟩:=h;rw[hb];refine⟨_,W4 (Z3 (Jz j3s (Yu (qz (i:=0) rfl hv) rfl) (vh Zx hg T.len cq (jc (Yu (qz (i:=0) rfl hv) rfl) qb)) (Bv _ (by decide) (by decide)))),?_⟩;refine⟨_,rfl,a,C,dx,_,_,rfl,h1,T.cl,T.nP,Fo _ _,_,rfl,a,C,dx,_,_,rfl,h1,T.cl,T.nS,j0f _ _,b,_,rfl,.inl (SqL.of h2),_,_,rfl,rfl,?_⟩;rw[xg];have e:decide (((ls.length:Nat):Int)<=((k:Nat):Int))=decide (ls.length<=k):=by
   by_cases z:ls.length<=k
   .rw[decide_eq_true z,decide_eq_true nofun]
   .rw[decide_eq_false z,decide_eq_false nofun]
  rw[<-e]at q;exact q
end
theorem K7:∀(tk:Nat)(xs:List aq),Vals (xs.map V.str) (strsFrom tk xs)
 |_,[]=>.nil
 |tk,x::r=>.cons ⟨tk,rfl⟩ (K7 (tk+1) r)
section
variable{X:Cx}{ρ:Rho}{a:au}{p1 p2 p3:aR}{y:aq}
theorem j8y:MtR X "str.split" (λx vs H Q=>∃z,x=.str z/\vs=[.str " "]/\z.length<=100000/\(aK z " ").length<=av/\∀p,H p=ah->Q (.ref p) (upd H p (.lst ((aK z " ").map V.str)))):=by
 rintro pins s σ H x vs v us Q I rx rv ⟨z,e,e',hz,hl,q⟩;subst e e';obtain⟨t,rfl⟩:=(show ∃t,v=b9 z t from rx)
 obtain⟨u,eu,ru⟩:=rv.one;subst eu;obtain⟨t2,rfl⟩:=(show ∃t,u=b9 " " t from ru)
 have lay:∀(its:List ak)(tk:Nat),Vals ((aK z " ").map V.str) its->Inv X pins σ (upd H s.heap.objs.size (.lst ((aK z " ").map V.str))) { s with heap:=s.heap.push { cls:=.type "list",data:=.seq its.toArray },toks:=tk }:=λits tk hv =>I.laid (t':=tk) (λb o e=>km _ e) (X7 _) ⟨by rw[xg];exact hl,its,0,hv,X3 _ rfl⟩
 have fr:H s.heap.objs.size=ah:=I.hok.fresh (X7 _);have hsz:z.length<=av:=by rw[cn];omega
 have hy:((" ":aq).length==0)=ae:=by decide
 by_cases h1:(decide (z.length<(" ":aq).length) || decide (cS z<cS (" ":aq)))=af
 .have es:aK z " " = [z]:=if_pos h1;refine bF dE (df _ _ _) fV (fG _ _) (meets_str_split_cannot_occur z " " t t2 h1) ?_;exact⟨.ref s.heap.objs.size,_,lay _ _ (by rw[es];exact .cons ⟨t,rfl⟩ .nil),rfl,q _ fr⟩
 .have h1:(decide (z.length<(" ":aq).length) || decide (cS z<cS (" ":aq)))=ae:=by simpa using h1
  by_cases h2:(bD z " " 0 z.length (z.length+1)).isEmpty=af
  .have es:aK z " " = [z]:=by unfold aK;rw[if_neg (by rw[h1];decide),if_pos h2]
   refine bF dE (df _ _ _) fV (fG _ _) (meets_str_split_not_found z " " t t2 h1 hy h2) ?_;exact⟨.ref s.heap.objs.size,_,lay _ _ (by rw[es];exact .cons ⟨t,rfl⟩ .nil),rfl,q _ fr⟩
  .have h2:(bD z " " 0 z.length (z.length+1)).isEmpty=ae:=by simpa using h2
   have es:aK z " " = lQ z (bD z " " 0 z.length (z.length+1)) (" ":aq).length:=by unfold aK;rw[if_neg (by rw[h1];decide),if_neg (by rw[h2];decide)]
   refine bF dE (df _ _ _) fV (fG _ _) (meets_str_split_sep z " " t t2 h1 hy h2 hsz (by rw[<-es];exact hl)) ?_;exact⟨.ref s.heap.objs.size,_,lay _ _ (by rw[es];exact K7 _ _),rfl,q _ fr⟩
end
section
variable{P:az}{w:aF}{K:k7t}{mg:k7w}{base:aH}{C fA fT fL fI f:ao}{fd:aN}{st:aS}
noncomputable def jbi(n n2:Nat)(p1 p2 p3 p4 p5 p6 p7 p8 p9 p10 p11:aR):List aS :=
 [.Assign [.Attribute (.Name "self" p1) "standing" p2] (.Call (.Attribute (.Name "text" p3) "split" p4) [.Constant (.str " ") n p5] [] p6) p7,
 .Assign [.Attribute (.Name "self" p8) "spot" p9] (.Constant (.int 0) n2 p10) p11]
def Cm(C:ao):Sp:=λvs H Q _=>∃(a dx:ao)(t:aq),vs=[.ref a,.str t]/\H a=aa (.ins C dx [])/\t.length<=100000/\(aK t " ").length<=av/\∀b H',H b=ah->PcAt C H' ⟨a,dx,b⟩ (aK t " ") 0->But a H H'->Q .non H'
theorem jdg {n n2:Nat} {p1 p2 p3 p4 p5 p6 p7 p8 p9 p10 p11:aR} (F:Fun K "__init__" "Pieces.__init__" st f fd) (T:PcT K mg C fA fT fL fI) (S:FnScope ["self","text"] ["self","text"] (j0 st)) (hb:jg st=jbi n n2 p1 p2 p3 p4 p5 p6 p7 p8 p9 p10 p11)
  (hv:Vis (j0 st) "self") (ht:Vis (j0 st) "text") (hl:(p4.endLine==p6.line)=af):FnOk P w K mg base CX0 1 f fd ["self","text"] (Cm C):=by
 refine F.ok S (λvs H Q E h=>?_) (λcdv A outer s H vs Q E hr h=>?_)
 .obtain⟨a,dx,t,rfl,_⟩:=h;rfl
 .obtain⟨a,dx,t,rfl,h1,hz,hn,q⟩:=h;rw[hb];refine⟨_,zb (j0b (qz (i:=0) rfl hv) (Ui gr dE PySem.F.type_str_split j8y (qz (i:=1) rfl ht) (jc Mg qb) rfl rfl hl) rfl) (W4 (j0b (qz (i:=0) rfl hv) j0d rfl)),?_⟩;refine⟨_,rfl,rfl,t,rfl,rfl,hz,hn,λb hb'=>?_⟩;have nab:a≠b:=zq h1 hb';refine⟨_,rfl,a,C,dx,[],rfl,(by rw[jj nab];exact h1),T.cl,T.nS,(by show 0<1000;decide),_,rfl,a,C,dx,_,rfl,jx,T.cl,T.nP,(by show 1<1000;decide),?_⟩;refine q b _ hb' ⟨by show upd _ a _ a=_;rw[jx,j8r];rfl,by show upd _ a _ b=_;rw[jj nab.symm,jj nab.symm,jx]⟩ λc o n hc=>?_;rw[jj n,jj n,jj (zq hc hb')];exact hc
end
structure Pm where
 nx:Rho->Nat->Prop
 rt:D->Nat->Prop
 ex:aq->Rho->Prop
def FrM(a:ao)(ρ ρ':Rho)(H H':Hp):Prop:=j4 (del H (a::owns ρ)) (del H' (a::owns ρ'))
structure EndsM(X:Cx)(C:ao)(o:Ob)(ls:List aq)(ρ:Rho)(H:Hp)(P:Pm)(E:Ends):Prop where
 nx:∀ρ' k' σ' H',P.nx ρ' k'->Rep X.K ρ' σ' H'->PcAt C (del H' (owns ρ')) o ls k'->FrM o.a ρ ρ' H H'->E.nx σ' H'
 rt:∀d k' v H',P.rt d k'->PcAt C H' o ls k'->j4 (del H (o.a::owns ρ)) (del H' [o.a])->Enc X.K H' d v->E.rt v H'
 ex:∀x ρ' σ' H',P.ex x ρ'->Rep X.K ρ' σ' H'->FrM o.a ρ ρ' H H'->O6 X σ' H' x
structure PcX(X:Cx)(C:ao):Prop where
 ex:∃(fA fT fL fI:ao)(dA dT dL dI:aN),PcT X.K X.mg C fA fT fL fI/\(FnOk X.prog X.w X.K X.mg X.base CX0 1 fA dA ["self"] (O9 C)/\Binds X.K dA ["self"] []) /\
  (FnOk X.prog X.w X.K X.mg X.base CX0 2 fT dT ["self"] (Ck C)/\Binds X.K dT ["self"] [])/\(FnOk X.prog X.w X.K X.mg X.base CX0 1 fL dL ["self"] (j39 C)/\Binds X.K dL ["self"] []) /\
  (FnOk X.prog X.w X.K X.mg X.base CX0 1 fI dI ["self","text"] (Cm C)/\Binds X.K dI ["self","text"] [])/\Room 3 X.A
def MSs(X:Cx)(C:ao)(o:Ob)(ls:List aq)(ρ:Rho)(k:Nat)(sts:List aS)(P:Pm):Prop :=
 ∀σ H E,Rep X.K ρ σ H->PcAt C (del H (owns ρ)) o ls k->EndsM X C o ls ρ H P E->Vh X sts E σ H
section
variable{X:Cx}{C:ao}{o:Ob}{ls:List aq}{ρ ρ1:Rho}{H H1 H':Hp}{P:Pm}{E:Ends}{k k':Nat}{st:aS}{rest:List aS}{σ:St}
theorem FrM.trans{a:ao}{ρ2:Rho}{H2:Hp}(f:FrM a ρ ρ1 H H1)(g:FrM a ρ1 ρ2 H1 H2):FrM a ρ ρ2 H H2:=j4.trans f g
theorem FrM.of0{a:ao}(f:Fr0 ρ ρ1 H H1):FrM a ρ ρ1 H H1:=λb u z=>by
 obtain⟨nb,z⟩:=of_del z;have nb2:b∉owns ρ:=λy=>nb (xf _ y);obtain⟨n1,z1⟩:=of_del (f b u (by rw[j5 nb2];exact z));rw[j5];exact z1;intro y;rcases xn.mp y with e|y
 .exact nb (by rw[e];exact xj)
 .exact n1 y
theorem FrM.but{a:ao}(h:But a H H'):FrM a ρ ρ H H':=λb u z=>by obtain⟨nb,z⟩:=of_del z;rw[j5 nb];exact h b u (λy=>nb (by rw[y];exact xj)) z
theorem EndsM.step(h:EndsM X C o ls ρ H P E)(f:FrM o.a ρ ρ1 H H1):EndsM X C o ls ρ1 H1 P E :=
 ⟨λρ' k' σ' H' n R pc g=>h.nx ρ' k' σ' H' n R pc (f.trans g),λd k' v H' n pc g e=>h.rt d k' v H' n pc (j4.trans f g) e,λx ρ' σ' H' n R g=>h.ex x ρ' σ' H' n R (f.trans g)⟩
theorem PcAt.nin(h:PcAt C (del H (owns ρ)) o ls k):o.a∉owns ρ/\o.b∉owns ρ:=⟨(of_del h.ob).1,(of_del h.li).1⟩
theorem PcAt.all(h:PcAt C (del H (owns ρ)) o ls k):PcAt C H o ls k:=h.stay jk
theorem PcAt.in'(h:PcAt C H' o ls k')(h0:PcAt C (del H (owns ρ)) o ls k)(sub:∀b∈owns ρ1,b∈owns ρ):PcAt C (del H' (owns ρ1)) o ls k' :=
 ⟨by rw[j5 λz=>h0.nin.1 (sub _ z)];exact h.ob,by rw[j5 λz=>h0.nin.2 (sub _ z)];exact h.li⟩
theorem Ql.but{a dx:ao}{fs:List (aq×V)}(h:H a=aa (.ins C dx fs))(b:But a H H'):Ql H H':=λc u hc n=>b c u (λz=>by rw[z,h]at hc;cases hc;cases n) hc
theorem But.ofDel{a:ao}(g:j4 (del H [a]) (del H' [a])):But a H H':=λc u n hc=>(of_del (g c u (by rw[j5 (by simpa using n)];exact hc))).2
theorem MSs.plain{N:Rho->Prop}(h1:DS X ρ st { nx:=N,rt:=λr=>∃d,r=.val d/\P.rt d k,ex:=P.ex })(h2:∀ρ1,N ρ1->MSs X C o ls ρ1 k rest P):MSs X C o ls ρ k (st::rest) P:=λσ H E R pc q =>
 (zb psS vq).to (h1 σ H { E with nx:=Vh X rest E } R ⟨λρ' σ' H' n R' f=>h2 ρ' n σ' H' E R' (pc.stay f) (q.step (.of0 f)),λ_ _ _ n=>n.elim,λ_ _ _ n=>n.elim,
  λr v H' ⟨d,e,n⟩ z=>by
   subst e
   obtain⟨g,en⟩:=z
   refine q.rt d k v H' n (pc.stay g) (λb u y=>?_) en
   obtain⟨nb,y⟩:=of_del y
   rw[j5 (by intro z;exact nb (by rw[X4.mp z];exact xj))]
   exact g b u (by rw[j5 λz=>nb (xf _ z)];exact y),
  λx ρ' σ' H' n R' f=>q.ex x ρ' σ' H' n R' (.of0 f)⟩)
theorem MSs.nil(h:P.nx ρ k):MSs X C o ls ρ k [] P:=λσ H E R pc q=>W5.to (q.nx ρ k σ H h R pc (.of0 (Fr0.refl ρ H)))
theorem MSs.ife{c:au}{sa:List aS}{b:Bool}{pos:aR}(hc:DB X ρ c b)(ha:b=af->MSs X C o ls ρ k sa { P with nx:=λ_ _=>False })(hb:b=ae->MSs X C o ls ρ k rest P):MSs X C o ls ρ k (.If c sa [] pos::rest) P:=λσ H E R pc q=>by
 refine(zb (Ec ptS vq vq) vq).to (hc σ H _ R λH1 g1=>?_);have pc1:PcAt C (del H1 (owns ρ)) o ls k:=pc.stay (je g1);have q1:=q.step (.of0 (Fr0.grow g1));cases b with
 |true=>exact Mt (ha rfl σ H1 _ (R.grow g1) pc1 ⟨λ_ _ _ _ n=>n.elim,q1.rt,q1.ex⟩)
 |false=>exact Mu (W5.to (hb rfl σ H1 E (R.grow g1) pc1 q1))
section
variable{pi i:Nat}{ob:dy}{x y:aq}{p py p1 p2 pos:aR}
theorem Wi {Q:VK} (T:PcX X C) (hp:ρ[pi]?=aa (.raw o.a ob rfN)) (hpN:X.N[pi]?=aa y) (hv:Vis X.env.scope y) (hd:(y==k7x)=ae) (hcd:(y==k7y)=ae) (mc:Qv X (.Name y py) "taken" p1 p2)
  (R:Rep X.K ρ σ H) (pc:PcAt C (del H (owns ρ)) o ls k) (q:∀H',Rep X.K ρ σ H'->PcAt C (del H' (owns ρ)) o ls (k+1)->FrM o.a ρ ρ H H'->Q (.str (ls.getD k "")) H'):Qk X (.Call (.Attribute (.Name y py) "taken" p1) [] [] p2) σ H Q:=by
 obtain⟨fA,fT,fL,fI,dA,dT,dL,dI,T,_,⟨GT,bT⟩,_,_,hr⟩:=T.ex;obtain⟨pl,ht⟩:=mc;refine(Wq (qz hpN hv hd hcd) T.cl T.mT GT (hr.mono (by decide)) bT .nil Vi ht).to ⟨_,(R.raw pi _ _ _ hp).1,o.a,o.dx,_,rfl,pc.all.ob,Fp _ _ (by decide +kernel) (by decide +kernel),o,ls,k,rfl,pc.all,λH' pc' bt=>?_⟩;exact q H' (R.monoN (.but pc.all.ob bt)) (pc'.in' pc λ_ h=>h) (.but bt)
theorem MSs.take (T:PcX X C) (hp:ρ[pi]?=aa (.raw o.a ob rfN)) (hpN:X.N[pi]?=aa y) (hv:Vis X.env.scope y) (hd:(y==k7x)=ae) (hcd:(y==k7y)=ae) (mc:Qv X (.Name y py) "taken" p1 p2)
  (hN:X.N.Nodup) (hi:X.N[i]?=aa x) (hx:Loc X.env.scope x) (hs:aM (.Call (.Attribute (.Name y py) "taken" p1) [] [] p2) (aa (.Name x p)) pos.line X.env=pure ae) (hf:X.fn x=af\/X.env.scope.names.lookup x=aa .local)
  (h2:MSs X C o ls (ρ.set i (.val (.str (ls.getD k "")))) (k+1) rest P):MSs X C o ls ρ k (.Assign [.Name x p] (.Call (.Attribute (.Name y py) "taken" p1) [] [] p2) pos::rest) P:=λσ H E R pc q =>
 (zb (Z2 hN hi hx peS hs hf) vq).to (Wi T hp hpN hv hd hcd mc R pc λH' R' pc' f=>h2 _ H' E (R'.set_val rfl) (pc'.stay (vd λb hb=>(jh rfl).subset hb)) (q.step (f.trans (.of0 (Fr0.drop λb hb=>(jh rfl).subset hb)))))
theorem MSs.takeE (T:PcX X C) (hp:ρ[pi]?=aa (.raw o.a ob rfN)) (hpN:X.N[pi]?=aa y) (hv:Vis X.env.scope y) (hd:(y==k7x)=ae) (hcd:(y==k7y)=ae) (mc:Qv X (.Name y py) "taken" p1 p2)
  (hs:aM (.Call (.Attribute (.Name y py) "taken" p1) [] [] p2) ah pos.line X.env=pure ae)
  (h2:MSs X C o ls ρ (k+1) rest P):MSs X C o ls ρ k (.Expr (.Call (.Attribute (.Name y py) "taken" p1) [] [] p2) pos::rest) P:=λσ H E R pc q =>
 (zb (Zg peS hs) vq).to (Wi T hp hpN hv hd hcd mc R pc λH' R' pc' f=>h2 _ H' E R' pc' (q.step f))
theorem MSs.takeIf {c e:au} {b:Bool} {d:D} {pi2:aR} (T:PcX X C) (hp:ρ[pi]?=aa (.raw o.a ob rfN)) (hpN:X.N[pi]?=aa y) (hv:Vis X.env.scope y) (hd:(y==k7x)=ae) (hcd:(y==k7y)=ae) (mc:Qv X (.Name y py) "taken" p1 p2)
  (hN:X.N.Nodup) (hi:X.N[i]?=aa x) (hx:Loc X.env.scope x) (hs:aM (.IfExp c (.Call (.Attribute (.Name y py) "taken" p1) [] [] p2) e pi2) (aa (.Name x p)) pos.line X.env=pure ae) (hf:X.fn x=af\/X.env.scope.names.lookup x=aa .local)
  (hc:DB X ρ c b) (he:b=ae->DE X ρ e d) (h2:b=af->MSs X C o ls (ρ.set i (.val (.str (ls.getD k "")))) (k+1) rest P) (h3:b=ae->MSs X C o ls (ρ.set i (.val d)) k rest P) :
  MSs X C o ls ρ k (.Assign [.Name x p] (.IfExp c (.Call (.Attribute (.Name y py) "taken" p1) [] [] p2) e pi2) pos::rest) P:=λσ H E R pc q=>by
 refine(zb (Z2 hN hi hx (j0e ptS peS peS) hs hf) vq).to (hc σ H _ R λH1 g1=>?_);have pc1:PcAt C (del H1 (owns ρ)) o ls k:=pc.stay (je g1);have q1:=q.step (.of0 (Fr0.grow g1));cases b with
 |true=>exact Mt (Wi T hp hpN hv hd hcd mc (R.grow g1) pc1 λH' R' pc' f=>h2 rfl _ H' E (R'.set_val rfl) (pc'.stay (vd λb hb=>(jh rfl).subset hb)) (q1.step (f.trans (.of0 (Fr0.drop λb hb=>(jh rfl).subset hb)))))
 |false=>exact Mu (he rfl σ H1 _ (R.grow g1) λv H2 g2 en=>h3 rfl _ H2 E (((R.grow g1).grow g2).set_val en) ((pc1.stay (je g2)).stay (vd λb hb=>(jh rfl).subset hb)) (q1.step ((FrM.of0 (Fr0.grow g2)).trans (.of0 (Fr0.drop λb hb=>(jh rfl).subset hb)))))
theorem MSs.whl{z:aq}{n:Nat}{body:List aS}{p3 p4:aR}(T:PcX X C)(W:Nat->Rho->Nat->Prop)(m:Nat)(h0:W m ρ k)(hpo:fD (aC X.prog X.w) X.A X.env X.xe)
  (hpN:X.N[pi]?=aa y) (hv:Vis X.env.scope y) (hd:(y==k7x)=ae) (hcd:(y==k7y)=ae) (mc:Qv X (.Name y py) "ahead" p1 p2)
  (hs:∀m ρ' k',W m ρ' k'->(∃ob,ρ'[pi]?=aa (.raw o.a ob rfN))/\(ls.getD k' "" ≠ z->MSs X C o ls ρ' k' body { P with nx:=λρ2 k2=>∃m2,m2<m/\W m2 ρ2 k2 })/\(ls.getD k' "" = z->MSs X C o ls ρ' k' rest P)) :
  MSs X C o ls ρ k (.While (.Compare (.Call (.Attribute (.Name y py) "ahead" p1) [] [] p2) [.NotEq] [.Constant (.str z) n p3] p4) body [] pos::rest) P:=λσ H E R pc q=>by
 obtain⟨fA,fT,fL,fI,dA,dT,dL,dI,T,⟨GA,bA⟩,_,_,_,hr⟩:=T.ex;obtain⟨pl,ht⟩:=mc;refine(zb (j8n hpo (Jg j3p (Wq (qz hpN hv hd hcd) T.cl T.mA GA (hr.mono (by decide)) bA .nil Vi ht) Mg (zx _)) vq) vq).to ?_;refine⟨λm σ' H'=>∃ρ' k',W m ρ' k'/\Rep X.K ρ' σ' H'/\PcAt C (del H' (owns ρ')) o ls k'/\FrM o.a ρ ρ' H H',⟨m,ρ,k,h0,R,pc,.of0 (Fr0.refl _ _)⟩,?_⟩;rintro m σ' H' ⟨ρ',k',w,R',pc',f⟩;obtain⟨⟨ob,hp⟩,hb,he⟩:=hs m ρ' k' w;refine⟨_,(R'.raw pi _ _ _ hp).1,o.a,o.dx,_,rfl,pc'.all.ob,Fp _ _ (by decide +kernel) (by decide +kernel),o,ls,k',rfl,pc'.all,rfl,_,rfl,?_⟩;refine jhq (λhc=>?_) (λhc=>?_)
 .have hz:ls.getD k' "" ≠ z:=λe=>by rw[e]at hc;simp at hc
  refine⟨λσ2 H2=>∃ρ2 k2,(∃m2,m2<m/\W m2 ρ2 k2)/\Rep X.K ρ2 σ2 H2/\PcAt C (del H2 (owns ρ2)) o ls k2/\FrM o.a ρ ρ2 H H2,λσ2 H2 ⟨ρ2,k2,⟨m2,hlt,w2⟩,R2,pc2,f2⟩=>⟨m2,hlt,ρ2,k2,w2,R2,pc2,f2⟩,?_⟩;have q':=q.step f;exact hb hz σ' H' _ R' pc' ⟨λρ2 k2 σ2 H2 n R2 pc2 f2=>⟨ρ2,k2,n,R2,pc2,f.trans f2⟩,λd k2 v H2 n pc2 g e=>q'.rt d k2 v H2 n pc2 g e,λx ρ2 σ2 H2 n R2 g=>q'.ex x ρ2 σ2 H2 n R2 g⟩
 .have hz:ls.getD k' "" = z:=by
   have:decide (V.str (ls.getD k' "")=V.str z)=af:=by simpa using hc
   exact V.str.inj (of_decide_eq_true this)
  exact he hz σ' H' E R' pc' (q.step f)
end
end
def jmo(K:k7t)(C:ao)(S:List aq->Nat->List D->D->Nat->Prop):Sp:=λvs H Q _=>∃(o:Ob)(ls:List aq)(k:Nat)(ds:List D)(d:D)(k':Nat)(ws:List V),vs=.ref o.a::ws/\TabOk K H/\PcAt C H o ls k/\j6 K H ds ws/\S ls k ds d k' /\
 ∀v H',PcAt C H' o ls k'->j4 (del H [o.a]) (del H' [o.a])->Enc K H' d v->Q v H'
def spM(K:k7t)(C:ao)(S:List aq->Nat->List D->D->Nat->Prop):Sp:=λvs H Q _=>∃(A:List ao)(o:Ob)(ls:List aq)(k:Nat)(ds:List D)(d:D)(k':Nat) (ws:List V),vs=.ref o.a::ws/\TabOk K H/\(∀a∈A,∃xs,H a=aa (.lst xs))/\PcAt C (del H A) o ls k/\j6 K (del H A) ds ws/\S ls k ds d k' /\
 ∀v H',PcAt C (del H' A) o ls k'->j4 (del H [o.a]) (del H' [o.a])->Enc K (del H' A) d v->Q v H'
def j38(K:k7t)(mg:k7w)(C:ao)(S:List aq->Nat->List D->aq->Prop):Sp:=λvs H _ E=>∃(o:Ob)(ls:List aq)(k:Nat)(ds:List D)(x:aq)(V:ak)(ws:List L2.V),vs=.ref o.a::ws/\TabOk K H/\PcAt C H o ls k/\j6 K H ds ws/\S ls k ds x/\mg x=aa V /\
 ∀H',j4 (del H [o.a]) (del H' [o.a])->E V ah H'
section
variable{P:az}{w:aF}{K:k7t}{mg:k7w}{base:aH}{n:Nat}{f C:ao}{fd:aN}{ps:List aq}
theorem FnOk.toM{S:List aq->Nat->List D->D->Nat->Prop}(F:FnOk P w K mg base CX0 n f fd ps (jmo K C S)):FnOk P w K mg base CX0 n f fd ps (spM K C S) :=
 F.framed.imp λvs H Q E ⟨A,o,ls,k,ds,d,k',ws,e,tb,hA,pc,en,hS,q⟩=>⟨A,hA,o,ls,k,ds,d,k',ws,e,tb.del hA,pc,en,hS,λv F pc' g e' hF=>by
  refine q v _ (by rw[Zi hF];exact pc') (λb u z=>?_) (by rw[Zi hF];exact e')
  obtain⟨nb,z⟩:=of_del z
  rw[j5 nb]
  by_cases y:b∈A
  .rw[Jl y];exact z
  .rw[jw y]
   exact(of_del (g b u (by rw[j5 nb,j5 y];exact z))).2⟩
end
structure CalM(X:Cx)(f:aq)(C:ao)(S:List aq->Nat->List D->D->Nat->Prop):Prop where
 ex:∃(n:Nat)(fa:ao)(fd:aN)(ps:List aq),FnOk X.prog X.w X.K X.mg X.base CX0 n fa fd ps (spM X.K C S)/\Room n X.A/\X.mg f=aa (.ref fa)/\W.keepIn X.K (.ref fa)=af/\Binds X.K fd ps []
structure CalMX(X:Cx)(f:aq)(C:ao)(S:List aq->Nat->List D->aq->Prop):Prop where
 ex:∃(n:Nat)(fa:ao)(fd:aN)(ps:List aq),FnOk X.prog X.w X.K X.mg X.base (CX1 X.prog X.w) n fa fd ps (j38 X.K X.mg C S)/\Room n X.A/\X.mg f=aa (.ref fa)/\W.keepIn X.K (.ref fa)=af/\Binds X.K fd ps []
section
variable{X:Cx}{C:ao}{o:Ob}{ls:List aq}{ρ ρ1:Rho}{H H1 H':Hp}{P:Pm}{E:Ends}{k k':Nat}{st:aS}{rest:List aS}{σ:St}{pi i:Nat}{ob:dy}{x y f:aq}{p py pf p1 p2 pos:aR}{es:List au}{ds:List D}{d:D}
structure MC(X:Cx)(pi:Nat)(f:aq)(es:List au)(c:au):Prop where
 ex:∃(y:aq)(pf py pos:aR),c=.Call (.Name f pf) (.Name y py::es) [] pos/\X.N[pi]?=aa y/\Vis X.env.scope y/\(y==k7x)=ae/\(y==k7y)=ae/\Gl X f/\(f==k7x)=ae /\
  aj (.Name y py::es) X.env=(ae,aD (.Name y py) X.env)::aj es X.env/\(aQ pos (aj es X.env)).any (·.1)=ae
theorem M6{S:List aq->Nat->List D->D->Nat->Prop}{c:au}{Q:VK}(cl:CalM X f C S)(m:MC X pi f es c)(hp:ρ[pi]?=aa (.raw o.a ob rfN))(ha:DA X ρ es ds)(hS:S ls k ds d k')
  (R:Rep X.K ρ σ H) (pc:PcAt C (del H (owns ρ)) o ls k) (q:∀v H',Rep X.K ρ σ H'->PcAt C (del H' (owns ρ)) o ls k'->FrM o.a ρ ρ H H'->Enc X.K (del H' (owns ρ)) d v->Q v H'):Qk X c σ H Q:=by
 obtain⟨y,pf,py,pos,rfl,hpN,hv,hd,hcd,hg,hdb,he,hpl⟩:=m.ex;obtain⟨n,fa,fd,ps,F,hr,hm,hk,hb⟩:=cl.ex;refine(W6 F hr hg hm hk hb .nil Vi (jc (qz hpN hv hd hcd) paS he) hdb he hpl).to ⟨_,(R.raw pi _ _ _ hp).1,ha σ H _ R λvs H1 g1 e1=>?_⟩;show spM X.K C S ((.ref o.a::vs)++[]) H1 Q E0;rw[Xo];have R1:=R.grow g1;have pc1:PcAt C (del H1 (owns ρ)) o ls k:=pc.stay (je g1);refine⟨owns ρ,o,ls,k,ds,d,k',vs,rfl,R1.tb,R1.owned,pc1,e1,hS,λv H' pc' g en=>?_⟩;have bt:=But.ofDel g;exact q v H' (R1.monoN (.but pc1.all.ob bt)) pc' ((FrM.of0 (Fr0.grow g1)).trans (.but bt)) en
theorem MSs.callS{S:List aq->Nat->List D->D->Nat->Prop}{c:au}(cl:CalM X f C S)(m:MC X pi f es c)(hp:ρ[pi]?=aa (.raw o.a ob rfN))(ha:DA X ρ es ds)(hS:S ls k ds d k')
  (hN:X.N.Nodup) (hi:X.N[i]?=aa x) (hx:Loc X.env.scope x) (hs:aM c (aa (.Name x p)) pos.line X.env=fR ae) (hf:X.fn x=af\/X.env.scope.names.lookup x=aa .local)
  (h2:MSs X C o ls (ρ.set i (.val d)) k' rest P):MSs X C o ls ρ k (.Assign [.Name x p] c pos::rest) P:=λσ H E R pc q =>
 (zb (Z2 hN hi hx peS hs hf) vq).to (M6 cl m hp ha hS R pc λv H' R' pc' f en=>h2 _ H' E (R'.set_val en) (pc'.stay (vd λb hb=>(jh rfl).subset hb)) (q.step (f.trans (.of0 (Fr0.drop λb hb=>(jh rfl).subset hb)))))
theorem MSs.retC{S:List aq->Nat->List D->D->Nat->Prop}{c:au}(cl:CalM X f C S)(m:MC X pi f es c)(hp:ρ[pi]?=aa (.raw o.a ob rfN))(ha:DA X ρ es ds)(hS:S ls k ds d k')
  (h2:P.rt d k'):MSs X C o ls ρ k (.Return (aa c) pos::rest) P:=λσ H E R pc q =>
 (zb (Z3 peS) vq).to (M6 cl m hp ha hS R pc λv H' R' pc' f en=>q.rt d k' v H' h2 pc'.all (λb u z=>by
  obtain⟨nb,z⟩:=of_del z
  obtain⟨_,z1⟩:=of_del (f b u (by rw[j5 nb];exact z))
  rw[j5 (by intro y;exact nb (by rw[X4.mp y];exact xj))]
  exact z1) (en.mono jk))
theorem MSs.appC{S:List aq->Nat->List D->D->Nat->Prop}{c:au}{l:ao}{acc:List D}{p3:aR}(cl:CalM X f C S)(m:MC X pi f es c)(hp:ρ[pi]?=aa (.raw o.a ob rfN))(ha:DA X ρ es ds)(hS:S ls k ds d k')
  (hk:ρ[i]?=aa (.own l acc)) (hl:acc.length<av) (hN:X.N[i]?=aa x) (hv:Vis X.env.scope x) (hd:(x==k7x)=ae) (hcd:(x==k7y)=ae)
  (hst:aj [c] X.env=[(ae,aD c X.env)]) (hline:(p1.endLine==p2.line)=af) (hbase:aW (.Name x p) "append" X.env (aD (.Name x p) X.env)=aD (.Name x p) X.env)
  (hfew:((aQ p2 (aj [c] X.env)).all (λx=>!x.1)&&(bP p2 (b8 [] X.env)).all (λx=>x.1.isSome)&&decide (([c]:List au).length+([]:List b7).length+(if ([]:List b7).isEmpty then 0 else 1)<30))=af)
  (hs:aM (.Call (.Attribute (.Name x p) "append" p1) [c] [] p2) ah pos.line X.env=fR ae)
  (h2:MSs X C o ls (ρ.set i (.own l (acc++[d]))) k' rest P):MSs X C o ls ρ k (.Expr (.Call (.Attribute (.Name x p) "append" p1) [c] [] p2) pos::rest) P:=λσ H E R pc q=>by
 obtain⟨hσ,xs,mm,en⟩:=R.own i l acc hk;refine(zb (Zg (Ui Pu bK cE Vs (qz hN hv hd hcd) (jc peS qb hst) hbase hfew hline hst rfl) hs) vq).to ?_;refine⟨_,hσ,.inl ⟨rfl,xs,.inl (.inl mm)⟩,M6 cl m hp ha hS R pc λv H' R' pc' f en'=>?_⟩;obtain⟨hσ',xs',mm',enx⟩:=R'.own i l acc hk;refine⟨l,xs',v,rfl,rfl,mm',by rw[enx.length];exact hl,?_⟩;have R2:=R'.upd_own hk (enx.append (.one en'));refine h2 σ _ E R2 ?_ (q.step (f.trans (.of0 ?_)))
 .rw[Qh hk,Ve (Jr hk)];exact pc'
 .exact Mw (σ:=σ) hk (j4.refl _)
theorem Wj{S:List aq->Nat->List D->aq->Prop}{c:au}{Q:VK}{z:aq}{V:ak}(cl:CalMX X f C S)(m:MC X pi f es c)(hp:ρ[pi]?=aa (.raw o.a ob rfN))(ha:DTA X ρ es ds)(hS:S ls k ds z)(hC:X.mg z=aa V)
  (R:Rep X.K ρ σ H) (pc:PcAt C (del H (owns ρ)) o ls k) (q:∀H',Rep X.K ρ σ H'->FrM o.a ρ ρ H H'->O6 X σ H' z):Qk X c σ H Q:=λpins s I=>by
 obtain⟨y,pf,py,pos,rfl,hpN,hv,hd,hcd,hg,hdb,he,hpl⟩:=m.ex;obtain⟨n,fa,fd,ps,F,hr,hm,hk,hb⟩:=cl.ex;refine aX (Vc I hg hm ?_ hdb);refine W.callWith_K (h₀:=X.base) I.ok.mod.kin hk (thn ((jc (qz hpN hv hd hcd) paS he).to (σ:=σ) (H:=H) (Q:=λvs H1=>∃ws,vs=.ref o.a::ws/\j4 H H1/\j6 X.K H1 ds ws) ⟨_,(R.raw pi _ _ _ hp).1,ha σ H _ R λvs H1 g e=>⟨vs,rfl,g,e⟩⟩ pos pins s I) λus s1 ⟨vs,H1,I1,r,ws,evs,g,en⟩=>⟨I1.kIn,?_⟩) he hpl;subst evs;have R1:=R.grow g;have pc1:PcAt C (del H1 (owns ρ)) o ls k:=pc.stay (je g);have sp:j38 X.K X.mg C S (.ref o.a::ws) H1 (λ_ _=>False) (λC' _ H'=>C'=V/\j4 (del H1 [o.a]) (del H' [o.a])):=⟨o,ls,k,ds,z,V,ws,rfl,R1.tb,pc1.all,en,hS,hC,λH' g=>⟨rfl,g⟩⟩
 have hl:us.length=ps.length:=by rw[<-r.length];exact F.len _ _ _ _ sp
 have hb':=hb s1 us I1.kIn (by rw[Xo];exact hl);rw[Xo]at hb';refine fX (bO (F.run X.A X.stack s1 H1 ⟨us,[]⟩ us _ _ _ hr I1.env0 hb' r sp) λr s' hq=>?_);cases r with
 |error ev =>obtain⟨e,C',H',rfl,os,bare,un,hok,fl,rfl,g'⟩:=hq;have I':Inv X pins σ H' s':=I1.call' os un hok bare (λb z=>nomatch z);have bt:=But.ofDel g';refine q H' (R1.monoN (.but pc1.all.ob bt)) ((FrM.of0 (Fr0.grow g)).trans (.but bt)) pins H' s' e C' I' (j4.refl _) hC ⟨λb hb=>fl.new b (I1.old hb),fl.free,?_⟩;obtain⟨oe,ws,a0,q1,q2,q3,q4,q5⟩:=fl.obj;refine⟨oe,ws,a0,q1,q2,q3,q4,q5.imp id ?_⟩;rintro⟨T,oT,ts,z1,z2,z3,z4,z5,z6,z7⟩;exact⟨T,oT,ts,z1,z2,z3,z4,z5,z6,λb hb=>z7 b (I1.old hb)⟩
 |ok fl =>
  cases fl with
  |ret u=>obtain⟨_,_,_,_,_,_,_,z⟩:=hq;exact z.elim
  |next=>exact aU hq
  |brk=>exact aU hq
  |cont=>exact aU hq
theorem MSs.callSX{S:List aq->Nat->List D->aq->Prop}{c:au}{z:aq}{V:ak}(cl:CalMX X f C S)(m:MC X pi f es c)(hp:ρ[pi]?=aa (.raw o.a ob rfN))(ha:DTA X ρ es ds)(hS:S ls k ds z)(hC:X.mg z=aa V)
  (hN:X.N.Nodup) (hi:X.N[i]?=aa x) (hx:Loc X.env.scope x) (hs:aM c (aa (.Name x p)) pos.line X.env=fR ae) (hf:X.fn x=af\/X.env.scope.names.lookup x=aa .local)
  (h2:P.ex z ρ):MSs X C o ls ρ k (.Assign [.Name x p] c pos::rest) P:=λσ H E R pc q =>
 (zb (Z2 hN hi hx peS hs hf) vq).to (Wj cl m hp ha hS hC R pc λH' R' f=>q.ex z ρ σ H' h2 R' f)
theorem MSs.retCX{S:List aq->Nat->List D->aq->Prop}{c:au}{z:aq}{V:ak}(cl:CalMX X f C S)(m:MC X pi f es c)(hp:ρ[pi]?=aa (.raw o.a ob rfN))(ha:DTA X ρ es ds)(hS:S ls k ds z)(hC:X.mg z=aa V)
  (h2:P.ex z ρ):MSs X C o ls ρ k (.Return (aa c) pos::rest) P:=λσ H E R pc q =>
 (zb (Z3 peS) vq).to (Wj cl m hp ha hS hC R pc λH' R' f=>q.ex z ρ σ H' h2 R' f)
theorem MSs.appCX{S:List aq->Nat->List D->aq->Prop}{c:au}{z:aq}{V:ak}{l:ao}{acc:List D}(cl:CalMX X f C S)(m:MC X pi f es c)(hp:ρ[pi]?=aa (.raw o.a ob rfN))(ha:DTA X ρ es ds)(hS:S ls k ds z)(hC:X.mg z=aa V)
  (hk:ρ[i]?=aa (.own l acc)) (hN:X.N[i]?=aa x) (hv:Vis X.env.scope x) (hd:(x==k7x)=ae) (hcd:(x==k7y)=ae)
  (hst:aj [c] X.env=[(ae,aD c X.env)]) (hline:(p1.endLine==p2.line)=af) (hbase:aW (.Name x p) "append" X.env (aD (.Name x p) X.env)=aD (.Name x p) X.env)
  (hfew:((aQ p2 (aj [c] X.env)).all (λx=>!x.1)&&(bP p2 (b8 [] X.env)).all (λx=>x.1.isSome)&&decide (([c]:List au).length+([]:List b7).length+(if ([]:List b7).isEmpty then 0 else 1)<30))=af)
  (hs:aM (.Call (.Attribute (.Name x p) "append" p1) [c] [] p2) ah pos.line X.env=fR ae)
  (h2:P.ex z ρ):MSs X C o ls ρ k (.Expr (.Call (.Attribute (.Name x p) "append" p1) [c] [] p2) pos::rest) P:=λσ H E R pc q=>by
 obtain⟨hσ,xs,mm,en⟩:=R.own i l acc hk;refine(zb (Zg (Ui Pu bK cE Vs (qz hN hv hd hcd) (jc peS qb hst) hbase hfew hline hst rfl) hs) vq).to ?_;exact⟨_,hσ,.inl ⟨rfl,xs,.inl (.inl mm)⟩,Wj cl m hp ha hS hC R pc λH' R' f=>q.ex z ρ σ H' h2 R' f⟩
end
section
variable{X:Cx}{C:ao}{o:Ob}{ls:List aq}{ρ ρ1:Rho}{H H1 H':Hp}{P:Pm}{E:Ends}{k k':Nat}{st:aS}{sa rest:List aS}{σ:St}{pi i:Nat}{ob:dy}{x y f:aq}{p py pf p1 p2 p3 p4 pos:aR}{es:List au}{ds:List D}{d:D}
theorem MSs.ifAll (T:PcX X C) (hp:ρ[pi]?=aa (.raw o.a ob rfN)) (hpN:X.N[pi]?=aa y) (hv:Vis X.env.scope y) (hd:(y==k7x)=ae) (hcd:(y==k7y)=ae) (mc:Qv X (.Name y py) "all_taken" p1 p2)
  (he:∀whole,eU (.Call (.Attribute (.Name y py) "all_taken" p1) [] [] p2) X.env whole=(do let v <-whole;gc (Expr.Call (.Attribute (.Name y py) "all_taken" p1) [] [] p2).pos;eC [v] (jZ v)))
  (ha:¬ls.length<=k->MSs X C o ls ρ k sa { P with nx:=λ_ _=>False }) (hb:ls.length<=k->MSs X C o ls ρ k rest P):MSs X C o ls ρ k (.If (.UnaryOp .Not (.Call (.Attribute (.Name y py) "all_taken" p1) [] [] p2) p3) sa [] pos::rest) P:=λσ H E R pc q=>by
 obtain⟨fA,fT,fL,fI,dA,dT,dL,dI,T,_,_,⟨GL,bL⟩,_,hr⟩:=T.ex;obtain⟨pl,ht⟩:=mc;refine(zb (Ec (j5h (j5g (Wq (qz hpN hv hd hcd) T.cl T.mL GL (hr.mono (by decide)) bL .nil Vi ht) he)) vq vq) vq).to ?_;refine⟨_,(R.raw pi _ _ _ hp).1,o.a,o.dx,_,rfl,pc.all.ob,Fp _ _ (by decide +kernel) (by decide +kernel),o,ls,k,rfl,pc.all,_,rfl,?_⟩;by_cases z:ls.length<=k
 .rw[decide_eq_true z];exact Mu (W5.to (hb z σ H E R pc q))
 .rw[decide_eq_false z];exact Mt (ha z σ H _ R pc ⟨λ_ _ _ _ n=>n.elim,q.rt,q.ex⟩)
theorem Rep.set_rf{K:k7t}{a:ao}{o:dy}(R:Rep K ρ σ H):Rep K (ρ.set i (.raw a o rfN)) (σ.set i (aa (.ref a))) H:=by
 have sub:(owns (ρ.set i (.raw a o rfN))).Sublist (owns ρ):=jh rfl;have g:j4 (del H (owns ρ)) (del H (owns (ρ.set i (.raw a o rfN)))):=vd λb hb=>sub.subset hb;refine⟨by simp[R.len],λj d' h=>?_,λj a ds h=>?_,sub.nodup R.nd,λj a' o' x' h=>?_,R.tb⟩
 .rcases getElem?_set_of h with ⟨rfl,z,hl⟩|⟨n,h⟩
  .cases z
  .obtain⟨u,q,h⟩:=R.val j d' h;exact⟨u,by rw[v9 n];exact q,h.mono g⟩
 .rcases getElem?_set_of h with ⟨rfl,z,_⟩|⟨n,h⟩
  .cases z
  .obtain⟨q,xs,h,l⟩:=R.own j a ds h;exact⟨by rw[v9 n];exact q,xs,h,l.mono g⟩
 .rcases getElem?_set_of h with ⟨rfl,z,hl⟩|⟨n,h⟩
  .cases z;exact⟨Yr (by rw[R.len];exact hl),.inl rfl⟩
  .obtain⟨q,h⟩:=R.raw j a' o' x' h;exact⟨by rw[v9 n];exact q,h.mono g⟩
noncomputable def dOb:dy:={ cls:=.none }
theorem DSs.make {Q:Po} {te:au} {t:aq} (T:PcX X C) (ht:DT X ρ te (.str t)) (h1:t.length<=100000) (h2:(aK t " ").length<=av) (hg:Gl X "Pieces") (hst:aj [te] X.env=(ae,aD te X.env)::aj [] X.env) (hpl:(aQ p2 (aj [] X.env)).any (·.1)=ae)
  (hN:X.N.Nodup) (hi:X.N[pi]?=aa y) (hx:Loc X.env.scope y) (hs:aM (.Call (.Name "Pieces" p1) [te] [] p2) (aa (.Name y py)) pos.line X.env=fR ae) (hf:X.fn y=af\/X.env.scope.names.lookup y=aa .local)
  (h:∀o:Ob,MSs X C o (aK t " ") (ρ.set pi (.raw o.a dOb rfN)) 0 rest { nx:=λρ' _=>Q.nx ρ',rt:=λd _=>Q.rt (.val d),ex:=Q.ex }) :
  DSs X ρ (.Assign [.Name y py] (.Call (.Name "Pieces" p1) [te] [] p2) pos::rest) Q:=λσ H E R q=>by
 obtain⟨fA,fT,fL,fI,dA,dT,dL,dI,T,_,_,_,⟨GI,bI⟩,hr⟩:=T.ex;refine(zb (Z2 hN hi hx (jd8 T.mkI GI (hr.mono (by decide)) hg T.mgC bI .nil Vi (jc peS qb hst) (by decide) hst hpl) hs hf) vq).to (ht σ H _ R λv H1 g1 e1=>?_);rw[show v=.str t from e1];intro x dx nx ndx nex;refine⟨x,dx,t,rfl,jx,h1,h2,λb H' nb pc bt=>⟨rfl,?_⟩⟩;have s0:j4 H1 (upd (upd H1 dx (.own x)) x (.ins C dx [])):=λb o e=>by rw[jj (zq e nx),jj (zq e ndx)];exact e
 have s1:j4 H1 H':=λb o e=>bt b o (zq e nx) (s0 b o e);have R1:=R.grow (g1.trans s1);have sub:(owns (ρ.set pi (.raw x dOb rfN))).Sublist (owns ρ):=jh rfl;have nin:∀c,H1 c=ah->c∉owns (ρ.set pi (.raw x dOb rfN)):=λc hc z=>(R.grow g1).fresh hc (sub.subset z);have nb1:H1 b=ah:=s0.free nb;have fr:Fr0 ρ (ρ.set pi (.raw x dOb rfN)) H H':=j4.trans (Fr0.grow (g1.trans s1)) (Fr0.drop λb hb=>sub.subset hb);refine h ⟨x,dx,b⟩ _ H' E R1.set_rf ⟨?_,?_⟩ ⟨λρ' k' σ' H2 n R' pc' f=>?_,λd k' v H2 n pc' g en=>?_,λz ρ' σ' H2 n R' f=>?_⟩
 .rw[j5 (nin x nx)];exact pc.ob
 .rw[j5 (nin b nb1)];exact pc.li
 .refine q.nx ρ' σ' H2 n R' λc u z=>?_;obtain⟨n1,z1⟩:=of_del (fr c u z);have ncx:c≠x:=λe=>by obtain⟨_,y⟩:=of_del z;rw[e,g1.free nx]at y;cases y
  obtain⟨n2,z2⟩:=of_del (f c u (by rw[j5 (by intro y;rcases xn.mp y with e|e;exact ncx e;exact n1 e)];exact z1));rw[j5 λy=>n2 (xf _ y)];exact z2
 .refine q.rt _ v H2 n ⟨λc u z=>?_,en⟩;obtain⟨n1,z1⟩:=of_del (fr c u z);have ncx:c≠x:=λe=>by obtain⟨_,y⟩:=of_del z;rw[e,g1.free nx]at y;cases y
  exact(of_del (g c u (by rw[j5 (by intro y;rcases xn.mp y with e|e;exact ncx e;exact n1 e)];exact z1))).2
 .refine q.ex z ρ' σ' H2 n R' λc u z=>?_;obtain⟨n1,z1⟩:=of_del (fr c u z);have ncx:c≠x:=λe=>by obtain⟨_,y⟩:=of_del z;rw[e,g1.free nx]at y;cases y
  obtain⟨n2,z2⟩:=of_del (f c u (by rw[j5 (by intro y;rcases xn.mp y with e|e;exact ncx e;exact n1 e)];exact z1));rw[j5 λy=>n2 (xf _ y)];exact z2
end
noncomputable def startM(N:List aq)(a:ao)(ds:List D):Rho:=(qy N (.int 0::ds)).set 0 (.raw a dOb rfN)
theorem Ff{K:k7t}{H:Hp}{N:List aq}{ds:List D}{ws:List V}{a:ao}(tb:TabOk K H)(h:j6 K H ds ws):Rep K (startM N a ds) (start N (.ref a::ws)) H :=
 (Vq (N:=N) tb (show j6 K H (.int 0::ds) (.int 0::ws) from⟨.int 0,ws,rfl,rfl,h⟩)).set_rf (i:=0) (a:=a) (o:=dOb)
theorem Ba(N:List aq)(a:ao)(ds:List D):owns (startM N a ds)=[]:=by have h:(owns (startM N a ds)).Sublist (owns (qy N (.int 0::ds))):=jh rfl;rw[Z4]at h;exact List.sublist_nil.mp h
section
variable{P:az}{w:aF}{K:k7t}{mg:k7w}{base:aH}{x qual:aq}{st:aS}{f C:ao}{fd:aN}{N ps:List aq}{n:Nat}
theorem jnc{S:List aq->Nat->List D->D->Nat->Prop}(F:Fun K x qual st f fd)(Sc:FnScope N ps (j0 st))(hl:∀ls k ds d k',S ls k ds d k'->ds.length+1=ps.length)
  (hbody:∀(cdv:ak)(A:aI)(outer:List dz)(s:ar)(H:Hp)(E:XK),Ux K f cdv->Room n (A.deeper (bB qual (j0 st) s.heap.objs.size f cdv))->∀o ls k ds d k',S ls k ds d k' ->
   MSs (zm CX0 P w K mg base N qual (j0 st) f cdv A outer s H E).nox C o ls (startM N o.a ds) k (jg st) { nx:=λ_ _=>False,rt:=λd2 k2=>d2=d/\k2=k',ex:=λ_ _=>False }):FnOk P w K mg base CX0 (n+1) f fd ps (spM K C S):=by
 refine FnOk.toM (F.okC Sc (λvs H Q E ⟨o,ls,k,ds,d,k',ws,e,tb,pc,en,hS,_⟩=>by rw[e,xq,en.length];exact hl ls k ds d k' hS) λcdv A outer s H vs Q E hcv hr ⟨o,ls,k,ds,d,k',ws,e,tb,pc,en,hS,q⟩=>⟨_,vq,?_⟩);subst e;have ho:=Ba N o.a ds;refine hbody cdv A outer s H E hcv hr o ls k ds d k' hS _ H _ (Ff tb en) (by rw[ho,Jh];exact pc) ⟨λ_ _ _ _ z=>z.elim,λd2 k2 v H' ⟨e1,e2⟩ pc' g en'=>?_,λ_ _ _ _ z=>z.elim⟩;subst e1 e2;rw[ho]at g;exact q v H' pc' g en'
theorem jlg{S:List aq->Nat->List D->aq->Prop}(F:Fun K x qual st f fd)(Sc:FnScope N ps (j0 st))(hl:∀ls k ds y,S ls k ds y->ds.length+1=ps.length)
  (hbody:∀(cdv:ak)(A:aI)(outer:List dz)(s:ar)(H:Hp)(E:XK),Ux K f cdv->Room n (A.deeper (bB qual (j0 st) s.heap.objs.size f cdv))->∀o ls k ds y,S ls k ds y ->
   MSs (zm (CX1 P w) P w K mg base N qual (j0 st) f cdv A outer s H E) C o ls (startM N o.a ds) k (jg st) { nx:=λ_ _=>False,rt:=λ_ _=>False,ex:=λz _=>z=y }):FnOk P w K mg base (CX1 P w) (n+1) f fd ps (j38 K mg C S):=by
 obtain⟨oc,od,dV,kV,doc,pm,an,cdv,ct,osl,rfl,lk,hcd⟩:=F.ex;refine Ek lk hcd Sc (λvs H Q E ⟨o,ls,k,ds,y,V,ws,e,tb,pc,en,hS,_⟩=>by rw[e,xq,en.length];exact hl ls k ds y hS) λA outer s H vs Q E hr ⟨o,ls,k,ds,y,V,ws,e,tb,pc,en,hS,hC,hE⟩=>⟨_,vq,?_⟩
 subst e;have ho:=Ba N o.a ds;refine hbody cdv A outer s H E ⟨oc,od,_,osl,lk,rfl⟩ hr o ls k ds y hS _ H _ (Ff tb en) (by rw[ho,Jh];exact pc) ⟨λ_ _ _ _ z=>z.elim,λ_ _ _ _ z=>z.elim,λz ρ' σ' H' n R g=>?_⟩;cases(show z=y from n);intro pins H2 s' e C' I g2 hC' Fe;cases hC.symm.trans hC';unfold FrM at g;rw[ho]at g;refine Kq I Fe (hE H2 λb u z=>?_);obtain⟨nb,z⟩:=of_del z;obtain⟨_,z1⟩:=of_del (g b u (by rw[j5 nb];exact z));rw[j5 nb];exact g2 b u z1
end
section
variable{X:Cx}{ρ:Rho}{a:au}{p p1 p2 pos:aR}
theorem ints_of:∀(ns:List Int)(its:List ak),Vals (ns.map V.int) its->gX its ns
 |[],_,.nil=>.nil
 |_::ns,_,.cons ⟨_,e⟩ t=>by subst e;exact .cons _ _ (ints_of ns _ t)
noncomputable def ddI(ns:List Int):List Int:=firstMet (λi=>ns.getD i 0) ns.length
theorem DE.lenSetI {ns:List Int} (ha:DT X ρ a (.lst (ns.map D.int))) (hc:X.calm=af) (room:ns.length+1<4096) (hm:X.mg "len" = ah) (hm2:X.mg "set" = ah) (hg:Gl X "len") (hg2:Gl X "set") (hs:aj [a] X.env=[(ae,aD a X.env)])
  (hs2:aj [.Call (.Name "set" p1) [a] [] p2] X.env=[(ae,aD (.Call (.Name "set" p1) [a] [] p2) X.env)]):DE X ρ (.Call (.Name "len" p) [.Call (.Name "set" p1) [a] [] p2] [] pos) (.int (ddI ns).length):=λσ H Q R q pins s I=>by
 have inner:ay (aC X.prog X.w) X.A (aD (.Call (.Name "set" p1) [a] [] p2) X.env) (λu s2=>∃(S:ao)(H1:Hp),u=.ref S/\Inv X pins σ H1 s2/\j4 H H1/\s2.heap.SetOf (intKind X.prog X.w) S (λk'=>(ddI ns).any (· == k')) (ddI ns).length) X.xe s:=by
  refine aX (Jb I hg2 hm2 boot_set ?_);refine callWith_type1 (thn ((jc (es:=[]) peS qb hs).to (σ:=σ) (H:=H) (Q:=λvs H1=>∃(l:ao)(xs:List V),vs=[.ref l]/\j4 H H1/\SqL X.K H1 l xs/\j6 X.K H1 (ns.map D.int) xs) (ha σ H _ R λv H1 g ⟨l,xs,e,sq,en⟩=>⟨l,xs,by rw[e],g,sq,en⟩) p2 pins s I) λus s1 ⟨vs,H1,I1,r,l,xs,ev,g,sq,en⟩=>?_) hs rfl;subst ev;obtain⟨u,eu,r1⟩:=vals1 r;subst eu;cases(show u=aJ l from r1);obtain⟨its,rv,pl,_⟩:=I1.list sq;rw[Qt en]at rv;have hlen:its.toArray.size=ns.length:=by rw[X5,<-rv.length,xg]
  refine call_set_list (ns:=ns) (I1.ok.hd hc) pl.isList ?_ (by rw[hlen];show ns.length+1<4096;exact room) λh' tk full old=>?_
  .exact ints_of ns its rv
  .rw[hlen]at full;exact⟨_,H1,rfl,I1.kept (t':=tk) λb o e=>old b o (xr e) e,g,full⟩
 refine aX (Jb I hg hm cq ?_);refine dZ (by rw[hs2];rfl) (cW ?_);show ay _ _ (gd ((ae,aD _ X.env)::aQ pos [])) _ _ s;refine cJ (thn inner λu s2 h2=>dD ?_);obtain⟨S,H1,rfl,I2,g,⟨o,es,ep,t,ho,hex,hd,hel,hmem,hb,hf,hn⟩⟩:=h2;refine call_len_set ho hex hd hf ?_ ?_
 .have:es.size<4096:=hb;omega
 .rw[hn];exact⟨.int _,H1,I2.tok _,⟨_,rfl⟩,q _ H1 g rfl⟩
theorem DO.callT {S:List D->List D->Prop} {x:aq} {e:au} {es:List au} {ds l:List D} (c:Cal X x (spF X.K S)) (ha:DTA X ρ (e::es) ds) (hS:S ds l) (hn:qw l=af) (hg:Gl X x) (hdb:(x==k7x)=ae)
  (he:aj (e::es) X.env=(ae,aD e X.env)::aj es X.env) (hpl:(aQ pos (aj es X.env)).any (·.1)=ae):DO X ρ (.Call (.Name x p) (e::es) [] pos) l:=λσ H Q R q=>by
 obtain⟨k,f,fd,ps,F,hr,hm,hk,hb,_⟩:=c.ex;refine(W6 F (hr.mono (ph _)) hg hm hk hb .nil Vi paS hdb he hpl).to (ha σ H _ R λvs H1 g1 e1=>?_);show spF X.K S (vs++[]) H1 Q E0;rw[Xo];exact⟨[],ds,l,R.tb.mono g1,(λa h=>nomatch h),by rw[Jh];exact e1,hS,λa xs H2 g2 n m z=>q a xs H2 (g1.trans g2) (g1.free n) m ((z.mono jk).hide (λc hc=>by
  rcases xn.mp hc with z|z
  .rw[z];exact .inl ⟨xs,m⟩
  .exact .inl ((R.grow (g1.trans g2)).owned c z)) hn)⟩
end
end L2
end
section
namespace L2
noncomputable def step(acc:List (List Int))(f:List Int):List (List Int):=acc.flatMap λa=>f.map λx=>a++[x]
noncomputable def vf(fs:List (List Int)):List (List Int):=fs.foldl step [[]]
noncomputable def Wo:List (List Int)->List (List Int)
 |[]=>[[]]
 |f::fs=>f.flatMap λx=>(Wo fs).map (x :: ·)
theorem Dk:∀(fs:List (List Int)) (acc:List (List Int)),fs.foldl step acc=acc.flatMap λa=>(Wo fs).map (a ++ ·)
 |[],acc=>by simp[Wo]
 |f::fs,acc=>by
  rw[Pz,Dk fs,step,List.flatMap_assoc];congr 1
  funext a
  rw[Wo,List.map_flatMap,List.flatMap_map];congr 1
  funext x
  rw[X6];congr 1
  funext r
  simp
theorem j4c(fs:List (List Int)):vf fs=Wo fs:=by rw[vf,Dk];simp
noncomputable def Jj:Nat->List (List Int)
 |0=>[[]]
 |m+1=>(Jj m).map (0 :: ·)++(Jj m).map (1 :: ·)
theorem M8:∀m,(Jj m).length=2^m
 |0=>rfl
 |m+1=>by rw[Jj,Xe,xg,xg,M8 m,i4];omega
theorem Rb{b:Int}(hb:0<b)(n c:Int):∀{i m:Nat},i<=m->j9 b i (n+b^m*c)=j9 b i n
 |0,m,_=>rfl
 |i+1,m,h=>by
  rw[j9,j9,Rb hb n c nofun];congr 1;obtain⟨k,rfl⟩:∃k,m=i+(k+1):=⟨m-i-1,by omega⟩
  have hp:b^i≠0:=kU (d6 hb);rw[Int.pow_add,kA,ib _ _ hp,fM,fN (b^k) b,kA,Int.add_mul_emod_self_left]
theorem Va:∀m:Nat,(aB (2^m)).map (λn=>j9 2 m ((n:Nat):Int))=Jj m
 |0=>rfl
 |m+1=>by
  have e:2^(m+1)=2^m+2^m:=by rw[i4];omega
  rw[e,List.range_add,Xw,Jj,<-Va m,X6,X6,X6];have pc:((2^m:Nat):Int)=(2:Int)^m:=by simp
  congr 1
  .apply T5;intro n hn;have hn':n<2^m:=Xc.mp hn;show j9 2 (m+1) (n:Int)=0::j9 2 m (n:Int);rw[j9];congr 1;have h0:(n:Int)/2^m=0:=cR nofun (by rw[<-pc];omega)
   rw[h0];rfl
  .apply T5;intro n hn;have hn':n<2^m:=Xc.mp hn;show j9 2 (m+1) ((2^m+n:Nat):Int)=1::j9 2 m (n:Int);have e1:((2^m+n:Nat):Int)=(n:Int)+2^m*1:=by rw[Int.natCast_add,pc,lL,i6]
   rw[e1,j9,Rb (by decide) _ _ (X7 m)];congr 1;have hp:(2:Int)^m≠0:=kU (d6 (by decide));have h0:(n:Int)/2^m=0:=cR nofun (by rw[<-pc];omega)
   rw[ib _ _ hp,h0];rfl
noncomputable def fits:List Int->List Int->Bool
 |t::ts,x::xs=>(t==2 || t==x)&&fits ts xs
 |_,_=>af
end L2
end
section
namespace L2
open PySem
inductive Sv where
 |un
 |val (d:D)
 |own (l:List D)
 |exc (x:aq)
noncomputable abbrev En:=List Sv
set_option genInjectivity true in
inductive Rk where
 |e (d:D)
 |o (l:List D)
 |w (l:List D)
 |t (d:D)
noncomputable def Rk.d:Rk->D
 |.e d=>d
 |.o l=>.lst l
 |.w l=>.lst l
 |.t d=>d
noncomputable def Rk.st:Rk->Option D
 |.e d=>aa d
 |.o l=>aa (.lst l)
 |.w l=>ah
 |.t d=>if Jk d=af then aa d else ah
noncomputable def Rk.sq:Rk->Option (Bool×List D)
 |.e (.lst l)=>aa (af,l)
 |.e (.tup l)=>aa (ae,l)
 |.o l=>aa (af,l)
 |.w l=>aa (af,l)
 |_=>ah
noncomputable def Rk.lw:Rk->Option (List D)
 |.o l=>aa l
 |.w l=>aa l
 |_=>ah
inductive Rc where
 |val (d:D)
 |fresh (l:List D)
 |err (x:aq)
 |lval (d:D)
 |mval (d:D) (k:Nat)
 |merr (x:aq)
 |no
noncomputable def Rc.rk:Rc->Option Rk
 |.val d=>aa (.e d)
 |.fresh l=>aa (.o l)
 |_=>ah
inductive Bop where
 |add|sub|mul|fdiv|mod|pow|shl|shr|band|bxor
inductive Cop where
 |lt|le|gt|ge|eq|ne|isin|notin
inductive Bf where
 |len|min|max|all|tuple|list|sum|int|any|sorted
inductive Mf where
 |count
inductive Ex where
 |lit (d:D)
 |var (i:Nat)
 |glob (x:aq)
 |bin (op:Bop) (a b:Ex)
 |cmp (op:Cop) (a b:Ex)
 |isN (a:Ex)
 |and (a b:Ex)
 |or (a b:Ex)
 |not (a:Ex)
 |ite (c a b:Ex)
 |nil
 |cons (a b:Ex)
 |tup (es:Ex)
 |lst (es:Ex)
 |ix (a b:Ex)
 |sl (a lo hi:Ex)
 |call (f:aq) (es:Ex)
 |blt (f:Bf) (es:Ex)
 |isi (a:Ex) (ts:List String)
 |comp (is:List Nat) (elt it cond:Ex)
 |seq (a:Ex)
 |range (es:Ex)
 |zip (a b:Ex)
 |fst (es:Ex)
 |join (sep:aq) (a:Ex)
 |enum (a:Ex)
 |lset (a:Ex)
 |lrng (a:Ex)
 |dzip (a b:Ex)
 |callD (f:aq) (es:Ex)
 |chn (a b c:Ex)
 |che (a b c:Ex)
 |maxD (a:Ex)
 |callK (f:aq) (es a:Ex)
 |dix (a b:Ex)
 |dnil
 |rpr (a:Ex)
 |upr (a:Ex)
 |din (a b:Ex)
 |items (a:Ex)
 |callV (i:Nat) (es:Ex)
 |dget (a b:Ex)
 |dvals (a:Ex)
 |minT (a:Ex)
set_option genInjectivity true in
inductive W where
 |v (r:Rk)
 |a (rs:List Rk)
 |i (ds:List D)
noncomputable def jm(n:Nat):Bool:=decide (n<=av)
noncomputable def binI:Bop->Int->Int->Option Int
 |.add,i,j=>aa (i+j)
 |.sub,i,j=>aa (i-j)
 |.mul,i,j=>if (-(2^64)<i/\i<2^64)\/(-(2^64)<j/\j<2^64)then aa (i*j)else ah
 |.fdiv,i,j=>if 0<j/\j<18446744073709551616 then aa (i/j)else ah
 |.mod,i,j=>if 0<j then aa (i%j)else ah
 |.pow,i,j=>if 0<=j/\j<=1000000/\i.natAbs<2^64 then aa (i^j.toNat)else ah
 |.shl,i,j=>if 0<=j/\j<=1000000/\i.natAbs<2^64 then aa (i*2^j.toNat)else ah
 |.shr,i,j=>if 0<=j then aa (i/2^j.toNat)else ah
 |.band,i,j=>aa (Builtin.bitAnd i j)
 |.bxor,i,j=>aa (Builtin.bitXor i j)
noncomputable def Ro(op:Bop)(a b:Rk):Option Rk :=
 match a.d,b.d with
 |.int i,.int j=>(binI op i j).map λk=>.e (.int k)
 |.str y,.str z=>match op with
  |.add=>if jm (y.length+z.length)=af then aa (.e (.str (y++z)))else ah
  |_=>ah
 |.str y,.int k=>match op with
  |.mul=>if (1<=k/\k<=1000)/\y.length<=1000 then aa (.e (.str (iM y k)))else ah
  |_=>ah
 |_,_=>match op,a.sq,b.sq,b.d with
  |.add,aa (af,l),aa (af,m),_=>if jm (l.length+m.length)=af then aa (.o (l++m))else ah
  |.add,aa (ae,l),aa (ae,m),_=>if jm (l.length+m.length)=af then aa (.e (.tup (l++m)))else ah
  |.mul,aa (ae,l),_,.int k=>if 1<=k/\k<2^63/\l.isEmpty=ae/\jm (l.length*k.toNat)=af then aa (.e (.tup (aA k.toNat l).flatten))else ah
  |.mul,_,_,.int k=>match a.lw with
   |some l=>if -(2^63)<=k/\k<2^63/\jm (l.length*k.toNat)=af then aa (.o (aA k.toNat l).flatten)else ah
   |none=>ah
  |_,_,_,_=>ah
noncomputable def cmpI:Cop->Int->Int->Option Bool
 |.lt,i,j=>aa (decide (i<j))
 |.le,i,j=>aa (decide (i<=j))
 |.gt,i,j=>aa (decide (j<i))
 |.ge,i,j=>aa (decide (j<=i))
 |.eq,i,j=>aa (decide (i=j))
 |.ne,i,j=>aa (!decide (i=j))
 |_,_,_=>ah
noncomputable def D.sqv:D->Option (Bool×List D)
 |.lst l=>aa (af,l)
 |.tup l=>aa (ae,l)
 |_=>ah
noncomputable def Je(op:Cop)(a b:D):Option Bool :=
 match op,a,b with
 |op,.int i,.int j=>cmpI op i j
 |.eq,a,b=>if a.dep<=90/\b.dep<=90 then aa (deq a b)else ah
 |.ne,.bl a,.bl b=>aa (a != b)
 |.ne,.str a,.str b=>aa (!decide (a=b))
 |.ne,.non,.non=>aa ae
 |.ne,.lst l,.lst m=>if D.depL l<=90/\D.depL m<=90 then aa (!J3 l m)else ah
 |.ne,.tup l,.tup m=>if D.depL l<=90/\D.depL m<=90 then aa (!J3 l m)else ah
 |.isin,.str a,.str b=>aa (inS a b)
 |.lt,.str a,.str b=>aa (decide (a.cps.toList<b.cps.toList))
 |.gt,.str a,.str b=>aa (decide (b.cps.toList<a.cps.toList))
 |.isin,a,b=>match b.sqv with
  |some (_,l)=>if D.depL l<=90/\a.dep<=90 then aa (l.any λe=>deq e a)else ah
  |none=>ah
 |.notin,a,b=>match b.sqv with
  |some (_,l)=>if D.depL l<=90/\a.dep<=90 then aa (!l.any λe=>deq e a)else ah
  |none=>ah
 |_,_,_=>ah
noncomputable def boolsOf:List D->Option (List Bool)
 |[]=>aa []
 |.bl b::r=>(boolsOf r).map (b :: ·)
 |_::_=>ah
noncomputable def intsOf:List D->Option (List Int)
 |[]=>aa []
 |.int b::r=>(intsOf r).map (b :: ·)
 |_::_=>ah
noncomputable def strsOf:List D->Option (List aq)
 |[]=>aa []
 |.str b::r=>(strsOf r).map (b :: ·)
 |_::_=>ah
noncomputable def Zy:Bf->List Rk->Option Rk
 |.len,[a]=>match a.d with
  |.lst l=>aa (.e (.int l.length))
  |.tup l=>aa (.e (.int l.length))
  |.str y=>if jm y.length=af then aa (.e (.int y.length))else ah
  |_=>ah
 |.min,[a,b]=>match a.d,b.d with
  |.int i,.int j=>aa (.e (.int (if j<i then j else i)))
  |_,_=>ah
 |.max,[a,b]=>match a.d,b.d with
  |.int i,.int j=>aa (.e (.int (if j>i then j else i)))
  |_,_=>ah
 |.max,[a]=>match a.d with
  |.lst l=>match intsOf l with
   |some ns=>if ns.isEmpty=ae then aa (.e (.int (Wr ns)))else ah
   |none=>ah
  |_=>ah
 |.min,[a]=>match a.d with
  |.lst l=>match intsOf l with
   |some ns=>if ns.isEmpty=ae then aa (.e (.int (Mm ns)))else ah
   |none=>ah
  |_=>ah
 |.all,[a]=>match a.d with
  |.lst l=>(boolsOf l).map λbs=>.e (.bl (bs.all id))
  |_=>ah
 |.any,[a]=>match a.d with
  |.lst l=>(boolsOf l).map λbs=>.e (.bl (bs.any id))
  |_=>ah
 |.tuple,[a]=>match a.sq with
  |some (_,l)=>aa (.e (.tup l))
  |none=>ah
 |.list,[a]=>match a.sq with
  |some (_,l)=>aa (.o l)
  |none=>ah
 |.sum,[a]=>match a.d with
  |.lst l=>(intsOf l).map λns=>.e (.int ns.sum)
  |.tup l=>(intsOf l).map λns=>.e (.int ns.sum)
  |_=>ah
 |.int,[a]=>match a.d with
  |.bl k=>aa (.e (.int (if k then 1 else 0)))
  |_=>ah
 |_,_=>ah
noncomputable def zj(t c:String):Option Bool :=
 if t = "function" then ah else
 if c = "int" then aa (t == "int" || t == "bool") else
 if c = "bool" then aa (t == "bool") else
 if c = "str" then aa (t == "str") else
 if c = "list" then aa (t == "list") else
 if c = "tuple" then aa (t == "tuple")else ah
noncomputable def qp(d:D):List String->Option Bool
 |[]=>aa ae
 |c::cs=>match zj d.ty c,qp d cs with
  |some a,aa b=>aa (a || b)
  |_,_=>ah
noncomputable def v7:List Nat->D->En->Option En
 |[i],d,ρ=>aa (ρ.set i (.val d))
 |[i,j],d,ρ=>match d with
  |.tup [a,b]=>aa ((ρ.set i (.val a)).set j (.val b))
  |_=>ah
 |[i,j,k],d,ρ=>match d with
  |.tup [a,.tup [b,c]]=>aa (((ρ.set i (.val a)).set j (.val b)).set k (.val c))
  |_=>ah
 |[i,j,k,_],d,ρ=>match d with
  |.tup [a,b,c]=>aa (((ρ.set i (.val a)).set j (.val b)).set k (.val c))
  |_=>ah
 |_,_,_=>ah
noncomputable def Ej(is:List Nat)(ρ:En):Bool:=is.all λi=>match ρ[i]? with
 |some .un=>af
 |_=>ae
noncomputable def Jw(f:D->Option (Option D)):List D->Option (List D)
 |[]=>aa []
 |d::ds=>match f d,Jw f ds with
  |some (aa x),aa xs=>aa (x::xs)
  |some ah,aa xs=>aa xs
  |_,_=>ah
noncomputable def vy:List Rk->Option (List D)
 |[]=>aa []
 |r::rs=>match r.st,vy rs with
  |some d,aa ds=>aa (d::ds)
  |_,_=>ah
noncomputable def W.one:W->Option Rk
 |.v r=>aa r
 |_=>ah
noncomputable def W.args:W->Option (List Rk)
 |.a rs=>aa rs
 |_=>ah
noncomputable def W.it:W->Option (List D)
 |.i ds=>aa ds
 |_=>ah
noncomputable def Qq:Option W->Option (Option Int)
 |some (.a [])=>aa ah
 |some (.a [r])=>match r.d with
  |.int i=>aa (aa i)
  |_=>ah
 |_=>ah
noncomputable def truth:Option W->Option Bool
 |some (.v r)=>match r.d with
  |.bl k=>aa k
  |_=>ah
 |_=>ah
noncomputable def j9z:Ex->Option Nat
 |.seq (.var i)=>aa i
 |.enum (.var i)=>aa i
 |_=>ah
noncomputable def frz(t:Ex)(ρ:En):En:=match j9z t with
 |some i=>match ρ[i]? with
  |some (.own l)=>ρ.set i (.val (.lst l))
  |_=>ρ
 |none=>ρ
noncomputable def Jo(t:Ex)(ρ:En):Bool:=match j9z t with
 |some i=>match ρ[i]? with
  |some (.own _)=>af
  |_=>ae
 |none=>ae
noncomputable def Jd:D->Option aq
 |.int i=>if -18446744073709551616<i/\i<18446744073709551616 then aa (cD (toString i))else ah
 |.str y=>if y.length<=10000 then aa y else ah
 |_=>ah
noncomputable def Jf:List Rk->Option (List aq)
 |[]=>aa []
 |r::rs=>match Jd r.d,Jf rs with
  |some y,aa ys=>aa (y::ys)
  |_,_=>ah
noncomputable def bang(x:aq):aq:=("!":aq)++x
noncomputable def qm(f:aq):aq:=("??":aq)++f
noncomputable def mq(f:aq):aq:=("@":aq)++f
noncomputable def tupI:D->Option (List Int)
 |.tup l=>intsOf l
 |_=>ah
noncomputable def j3x(kf:D->Option Int):D->Int->List D->Option D
 |b,_,[]=>aa b
 |b,kb,d::ds=>match kf d with
  |some k=>if k<kb then j3x kf d k ds else j3x kf b kb ds
  |none=>ah
noncomputable def jb1:List D->Option (List (List Int))
 |[]=>aa []
 |d::ds=>match tupI d,jb1 ds with
  |some k,aa ks=>aa (k::ks)
  |_,_=>ah
noncomputable def prI:D->Option (Int×List Int)
 |.tup [.int a,d]=>(tupI d).map λk=>(a,k)
 |_=>ah
noncomputable def jgf:List D->Option (List (Int×List Int))
 |[]=>aa []
 |d::ds=>match prI d,jgf ds with
  |some k,aa ks=>aa (k::ks)
  |_,_=>ah
noncomputable def Rc.lv:Rc->Option W
 |.lval d=>aa (.v (.e d))
 |_=>ah
noncomputable def Mv(w:Option W):Option W:=match w with
 |some (.a rs)=>if rs.length<=1000 then(Jf rs).map λys=>.v (.e (.str (Fy bJ ys)))else ah
 |_=>ah
noncomputable def jma(w:Option W):Option W:=match w with
 |some (.v x)=>match x.d with
  |.str y=>if y.length<=1000 then aa (.v (.e (.str (PySem.Txt.upper y))))else ah
  |_=>ah
 |_=>ah
noncomputable def Dy(s:Option Sv):Option W:=match s with
 |some (.val d)=>aa (.v (.e d))
 |some (.own l)=>aa (.v (.w l))
 |_=>ah
noncomputable def blW(i:Option Bool):Option W:=i.map λk=>.v (.e (.bl k))
noncomputable def rkW(r:Option Rk):Option W:=r.map .v
noncomputable def Qz(op:Bop)(a b:Option W):Option W:=match a,b with
 |some (.v x),aa (.v y)=>rkW (Ro op x y)
 |_,_=>ah
noncomputable def Ly(op:Cop)(a b:Option W):Option W:=match a,b with
 |some (.v x),aa (.v y)=>blW (Je op x.d y.d)
 |_,_=>ah
noncomputable def consW(a b:Option W):Option W:=match a,b with
 |some (.v x),aa (.a xs)=>aa (.a (x::xs))
 |_,_=>ah
noncomputable def Yp(a:Option W):Option W:=match a with
 |some (.a rs)=>match vy rs with
  |some ds=>if jm ds.length=af then aa (.v (.e (.tup ds)))else ah
  |none=>ah
 |_=>ah
noncomputable def Vz(a:Option W):Option W:=match a with
 |some (.a rs)=>match vy rs with
  |some ds=>if jm ds.length=af then aa (.v (.o ds))else ah
  |none=>ah
 |_=>ah
noncomputable def ixW(a b:Option W):Option W:=match a,b with
 |some (.v x),aa (.v y)=>match x.sq,y.d with
  |some (_,l),.int i=>(atI l i).map λd=>.v (.e d)
  |none,.int i=>match x.d with
   |.str z=>if jm z.length=af then(atI z.cps.toList i).map λc=>.v (.e (.str ⟨#[c]⟩))else ah
   |_=>ah
  |_,_=>ah
 |_,_=>ah
noncomputable def Uo(sep:aq)(a:Option W):Option W:=match a with
 |some (.v x)=>match x.d with
  |.lst l=>match strsOf l with
   |some ts=>if cu sep ts=af then aa (.v (.e (.str (br sep ts))))else ah
   |none=>ah
  |_=>ah
 |_=>ah
noncomputable def jkr(a:Option W):Option W:=match a with
 |some (.v y)=>match y.d with
  |.int n=>if 0<=n/\n<=1000000 then aa (.v (.o ((aB n.toNat).map λ(i:Nat)=>D.int (i:Int))))else ah
  |_=>ah
 |_=>ah
noncomputable def Ws(a:Option W):Option W:=match a with
 |some (.v x)=>match x.d with
  |.lst l=>match strsOf l with
   |some ts=>if ts.length<4000 then aa (.v (.e (.int (dd ts).length)))else ah
   |none=>match intsOf l with
    |some ns=>if ns.length<4000 then aa (.v (.e (.int (ddI ns).length)))else ah
    |none=>ah
  |_=>ah
 |_=>ah
noncomputable def Dm(a:Option W):Option W:=match a with
 |some (.v x)=>match x.st with
  |some (.lst l)=>aa (.i (Jv l))
  |some (.tup l)=>aa (.i (Jv l))
  |_=>ah
 |_=>ah
noncomputable def Qe(Γ:aq->List D->Rc)(f:aq)(a:Option W):Option W:=match a with
 |some (.a rs)=>match vy rs with
  |some ds=>rkW (Γ f ds).rk
  |none=>match Γ f (rs.map Rk.d) with
   |.val d=>aa (.v (.t d))
   |.fresh l=>if qw l=af then aa (.v (.o l))else ah
   |_=>ah
 |_=>ah
noncomputable def J0(f:Bf)(a:Option W):Option W:=match a with
 |some (.a rs)=>rkW (Zy f rs)
 |_=>ah
noncomputable def Li(a:Option W)(ts:List String):Option W:=match a with
 |some (.v x)=>blW (qp x.d ts)
 |_=>ah
noncomputable def M5(a:Option W):Option W:=match a with
 |some (.v (.e (.lst l)))=>aa (.i l)
 |some (.v (.e (.tup l)))=>aa (.i l)
 |some (.v (.o l))=>aa (.i l)
 |some (.v (.e (.str y)))=>if ascii y=af then aa (.i (chs y))else ah
 |_=>ah
noncomputable def Ma(a:Option W):Option W:=match a with
 |some (.a [x])=>match x.d with
  |.int n=>if -(2^62)<=n/\n<2^62 then aa (.i (upto 0 n.toNat))else ah
  |_=>ah
 |some (.a [x,y])=>match x.d,y.d with
  |.int m,.int n=>if -(2^62)<=m/\m<2^62/\-(2^62)<=n/\n<2^62 then aa (.i (upto m (n-m).toNat))else ah
  |_,_=>ah
 |_=>ah
noncomputable def Eo(a b:Option W):Option W:=match a,b with
 |some (.v x),aa (.v y)=>match x.st,y.st with
  |some (.lst l),aa (.lst m)=>aa (.i (Zk l m))
  |some (.lst l),aa (.tup m)=>aa (.i (Zk l m))
  |some (.tup l),aa (.lst m)=>aa (.i (Zk l m))
  |some (.tup l),aa (.tup m)=>aa (.i (Zk l m))
  |_,_=>ah
 |_,_=>ah
noncomputable def jnd(a b:Option W):Option W:=match a,b with
 |some (.v x),aa (.v y)=>match x.d,y.d with
  |.tup l,.dct ks _=>(intsOf l).map λk=>.v (.e (.bl (ks.contains k)))
  |_,_=>ah
 |_,_=>ah
noncomputable def jhm(a:Option W):Option W:=match a with
 |some (.v (.e (.dct ks ds)))=>aa (.i (jhn ks ds))
 |_=>ah
noncomputable def Ra(a b:Option W):Option W:=match a,b with
 |some (.v x),aa (.v y)=>match x.st.bind D.sqv,y.st.bind D.sqv with
  |some (_,l),aa (_,m)=>match strsOf l,intsOf m with
   |some ks,aa ns=>if ks.Nodup/\ks.length=ns.length/\jm ks.length=af then aa (.v (.e (.sct (ks.zip ns))))else ah
   |_,_=>ah
  |_,_=>ah
 |_,_=>ah
noncomputable def jng(a b c:Option W):Option W:=match a,b,c with
 |some (.v x),aa (.v y),aa (.v z)=>match x.d,y.d,z.d with
  |.int i,.int j,.int k=>aa (.v (.e (.bl (decide (i<=j)&&decide (j<=k)))))
  |_,_,_=>ah
 |_,_,_=>ah
noncomputable def jkq(a:Option W):Option W:=match a with
 |some (.v x)=>match x.d with
  |.lst l=>match intsOf l with
   |some ns=>aa (.v (.e (.int (Wr ns))))
   |none=>ah
  |_=>ah
 |_=>ah
noncomputable def jnf(a b c:Option W):Option W:=match a,b,c with
 |some (.v x),aa (.v y),aa (.v z)=>match x.d,y.d,z.d with
  |.int i,.int j,.int k=>aa (.v (.e (.bl (decide (i<j)&&decide (j<k)))))
  |_,_,_=>ah
 |_,_,_=>ah
noncomputable def jiy(Γ:aq->List D->Rc)(s:Option Sv)(a:Option W):Option W:=match s,a with
 |some (.val (.fn x cs)),aa (.a rs)=>match vy rs with
  |some ds=>if Uj ds=af then(Γ (v8 x) (cs++ds)).lv else ah
  |none=>ah
 |_,_=>ah
noncomputable def jll(a b:Option W):Option W:=match a,b with
 |some (.v (.e (.dct ks ds))),aa (.v y)=>match tupI y.d with
  |some k=>(jbr ks ds k).map λd=>.v (.e d)
  |none=>ah
 |_,_=>ah
noncomputable def jik(a:Option W):Option W:=match a with
 |some (.v (.e (.dct _ ds)))=>aa (.v (.e (.tup ds)))
 |_=>ah
noncomputable def jkn(a:Option W):Option W:=match a with
 |some (.v x)=>match x.d with
  |.lst l=>match jb1 l with
   |some ks=>(ks[kx (jkt ks) (ks.length-1)]?).map λk=>.v (.t (.tup (k.map D.int)))
   |none=>match jgf l with
    |some ps=>(ps[kx (jmx ps) (ps.length-1)]?).map λk=>.v (.t (pairD k))
    |none=>ah
  |_=>ah
 |_=>ah
noncomputable def Lw(a b:Option W):Option W:=match a,b with
 |some (.v x),aa (.v y)=>match x.d,y.d with
  |.sct kvs,.str k=>(Qy kvs k).map λn=>.v (.e (.int n))
  |_,_=>ah
 |_,_=>ah
noncomputable def ev(Γ:aq->List D->Rc)(G:aq->Option D):Ex->En->Option W
 |.lit d,_=>aa (.v (.e d))
 |.var i,ρ=>Dy ρ[i]?
 |.glob x,_=>(G x).map λd=>.v (.e d)
 |.bin op a b,ρ=>Qz op (ev Γ G a ρ) (ev Γ G b ρ)
 |.cmp op a b,ρ=>Ly op (ev Γ G a ρ) (ev Γ G b ρ)
 |.isN a,ρ=>match ev Γ G a ρ with
  |some (.v x)=>aa (.v (.e (.bl x.d.isNon)))
  |_=>ah
 |.and a b,ρ=>match truth (ev Γ G a ρ) with
  |some ae=>aa (.v (.e (.bl ae)))
  |some af=>(truth (ev Γ G b ρ)).map λk=>.v (.e (.bl k))
  |none=>ah
 |.or a b,ρ=>match truth (ev Γ G a ρ) with
  |some af=>aa (.v (.e (.bl af)))
  |some ae=>(truth (ev Γ G b ρ)).map λk=>.v (.e (.bl k))
  |none=>ah
 |.not a,ρ=>(truth (ev Γ G a ρ)).map λk=>.v (.e (.bl (!k)))
 |.ite c a b,ρ=>match truth (ev Γ G c ρ) with
  |some af=>match ev Γ G a ρ with
   |some (.v x)=>x.st.map λd=>.v (.e d)
   |_=>ah
  |some ae=>match ev Γ G b ρ with
   |some (.v x)=>x.st.map λd=>.v (.e d)
   |_=>ah
  |none=>ah
 |.nil,_=>aa (.a [])
 |.cons a b,ρ=>consW (ev Γ G a ρ) (ev Γ G b ρ)
 |.tup es,ρ=>Yp (ev Γ G es ρ)
 |.lst es,ρ=>Vz (ev Γ G es ρ)
 |.ix a b,ρ=>ixW (ev Γ G a ρ) (ev Γ G b ρ)
 |.sl a lo hi,ρ=>match ev Γ G a ρ,Qq (ev Γ G lo ρ),Qq (ev Γ G hi ρ) with
  |some (.v x),aa l,aa h=>match x.sq with
   |some (af,ds)=>aa (.v (.o (cutD ds l h)))
   |some (ae,ds)=>if HT.sIx ds.length 0 l=0/\HT.sIx ds.length ds.length h=ds.length then ah else aa (.v (.e (.tup (cutD ds l h))))
   |none=>match x.d with
    |.str z=>if jm z.length=af then aa (.v (.e (.str (cb z l h))))else ah
    |_=>ah
  |_,_,_=>ah
 |.call f es,ρ=>Qe Γ f (ev Γ G es ρ)
 |.blt f es,ρ=>J0 f (ev Γ G es ρ)
 |.isi a ts,ρ=>Li (ev Γ G a ρ) ts
 |.comp is elt it cond,ρ=>match ev Γ G it (frz it ρ) with
  |some (.i ds)=>if Ej is (frz it ρ)=af/\jm ds.length=af then
    (Jw (λd=>match v7 is d (frz it ρ) with
     |none=>ah
     |some ρ2=>match ev Γ G cond ρ2 with
      |some (.a [])=>match ev Γ G elt ρ2 with
       |some (.v x)=>x.st.map aa
       |_=>ah
      |some (.a [y])=>match y.d with
       |.bl af=>match ev Γ G elt ρ2 with
        |some (.v x)=>x.st.map aa
        |_=>ah
       |.bl ae=>aa ah
       |_=>ah
      |_=>ah) ds).bind λl=>if (Jo it ρ && !qw l)=af then ah else aa (.v (.o l))
   else ah
  |_=>ah
 |.seq a,ρ=>M5 (ev Γ G a ρ)
 |.chn a b c,ρ=>jnf (ev Γ G a ρ) (ev Γ G b ρ) (ev Γ G c ρ)
 |.che a b c,ρ=>jng (ev Γ G a ρ) (ev Γ G b ρ) (ev Γ G c ρ)
 |.maxD a,ρ=>jkq (ev Γ G a ρ)
 |.range es,ρ=>Ma (ev Γ G es ρ)
 |.zip a b,ρ=>Eo (ev Γ G a ρ) (ev Γ G b ρ)
 |.fst es,ρ=>Mv (ev Γ G es ρ)
 |.join sep a,ρ=>Uo sep (ev Γ G a ρ)
 |.enum a,ρ=>Dm (ev Γ G a ρ)
 |.dzip a b,ρ=>Ra (ev Γ G a ρ) (ev Γ G b ρ)
 |.callD f es,ρ=>match ev Γ G es ρ with
  |some (.a rs)=>match vy rs with
   |some ds=>match Γ f (ds++[.non]) with
    |.val d=>aa (.v (.e d))
    |_=>ah
   |none=>ah
  |_=>ah
 |.callK f es a,ρ=>match ev Γ G es ρ,ev Γ G a ρ with
  |some (.a rs),aa (.v x)=>match vy rs,x.st with
   |some ds,aa d'=>match Γ f (ds++[d']) with
    |.val d=>aa (.v (.e d))
    |_=>ah
   |_,_=>ah
  |_,_=>ah
 |.dix a b,ρ=>Lw (ev Γ G a ρ) (ev Γ G b ρ)
 |.dnil,_=>aa (.v (.e (.sct [])))
 |.rpr a,ρ=>match ev Γ G a ρ with
  |some (.v x)=>match x.d with
   |.str y=>if (bZ y).length<=2000 then aa (.v (.e (.str (bZ y))))else ah
   |_=>ah
  |_=>ah
 |.upr a,ρ=>jma (ev Γ G a ρ)
 |.lrng a,ρ=>jkr (ev Γ G a ρ)
 |.lset a,ρ=>Ws (ev Γ G a ρ)
 |.din a b,ρ=>jnd (ev Γ G a ρ) (ev Γ G b ρ)
 |.items a,ρ=>jhm (ev Γ G a ρ)
 |.callV i es,ρ=>jiy Γ ρ[i]? (ev Γ G es ρ)
 |.dget a b,ρ=>jll (ev Γ G a ρ) (ev Γ G b ρ)
 |.dvals a,ρ=>jik (ev Γ G a ρ)
 |.minT a,ρ=>jkn (ev Γ G a ρ)
section
variable{Γ:aq->List D->Rc}{G:aq->Option D}{ρ:En}
theorem Em{d}:ev Γ G (.lit d) ρ=(aa (.v (.e d))):=(rfl)
theorem jlr{i}:ev Γ G (.var i) ρ=(Dy ρ[i]?):=(rfl)
theorem jjg{x}:ev Γ G (.glob x) ρ=((G x).map λd=>.v (.e d)):=(rfl)
theorem jm0{op a b}:ev Γ G (.bin op a b) ρ=(Qz op (ev Γ G a ρ) (ev Γ G b ρ)):=(rfl)
theorem jby{op a b}:ev Γ G (.cmp op a b) ρ=(Ly op (ev Γ G a ρ) (ev Γ G b ρ)):=(rfl)
theorem jbx{a}:ev Γ G (.isN a) ρ=(match ev Γ G a ρ with
  |some (.v x)=>aa (.v (.e (.bl x.d.isNon)))
  |_=>ah):=(rfl)
theorem jm1{a b}:ev Γ G (.and a b) ρ=(match truth (ev Γ G a ρ) with
  |some ae=>aa (.v (.e (.bl ae)))
  |some af=>(truth (ev Γ G b ρ)).map λk=>.v (.e (.bl k))
  |none=>ah):=(rfl)
theorem jjd{a b}:ev Γ G (.or a b) ρ=(match truth (ev Γ G a ρ) with
  |some af=>aa (.v (.e (.bl af)))
  |some ae=>(truth (ev Γ G b ρ)).map λk=>.v (.e (.bl k))
  |none=>ah):=(rfl)
theorem jlv{a}:ev Γ G (.not a) ρ=((truth (ev Γ G a ρ)).map λk=>.v (.e (.bl (!k)))):=(rfl)
theorem jlx{c a b}:ev Γ G (.ite c a b) ρ=(match truth (ev Γ G c ρ) with
  |some af=>match ev Γ G a ρ with
   |some (.v x)=>x.st.map λd=>.v (.e d)
   |_=>ah
  |some ae=>match ev Γ G b ρ with
   |some (.v x)=>x.st.map λd=>.v (.e d)
   |_=>ah
  |none=>ah):=(rfl)
theorem Rv:ev Γ G (.nil) ρ=(aa (.a [])):=(rfl)
theorem Wc{a b}:ev Γ G (.cons a b) ρ=(consW (ev Γ G a ρ) (ev Γ G b ρ)):=(rfl)
theorem jls{es}:ev Γ G (.tup es) ρ=(Yp (ev Γ G es ρ)):=(rfl)
theorem jlw{es}:ev Γ G (.lst es) ρ=(Vz (ev Γ G es ρ)):=(rfl)
theorem jnj{a b}:ev Γ G (.ix a b) ρ=(ixW (ev Γ G a ρ) (ev Γ G b ρ)):=(rfl)
theorem jni{a lo hi}:ev Γ G (.sl a lo hi) ρ=(match ev Γ G a ρ,Qq (ev Γ G lo ρ),Qq (ev Γ G hi ρ) with
  |some (.v x),aa l,aa h=>match x.sq with
   |some (af,ds)=>aa (.v (.o (cutD ds l h)))
   |some (ae,ds)=>if HT.sIx ds.length 0 l=0/\HT.sIx ds.length ds.length h=ds.length then ah else aa (.v (.e (.tup (cutD ds l h))))
   |none=>match x.d with
    |.str z=>if jm z.length=af then aa (.v (.e (.str (cb z l h))))else ah
    |_=>ah
  |_,_,_=>ah):=(rfl)
theorem jjk{f es}:ev Γ G (.call f es) ρ=(Qe Γ f (ev Γ G es ρ)):=(rfl)
theorem Rw{f es}:ev Γ G (.blt f es) ρ=(J0 f (ev Γ G es ρ)):=(rfl)
theorem jbw{a ts}:ev Γ G (.isi a ts) ρ=(Li (ev Γ G a ρ) ts):=(rfl)
theorem jjj{is elt it cond}:ev Γ G (.comp is elt it cond) ρ=(match ev Γ G it (frz it ρ) with
  |some (.i ds)=>if Ej is (frz it ρ)=af/\jm ds.length=af then
    (Jw (λd=>match v7 is d (frz it ρ) with
     |none=>ah
     |some ρ2=>match ev Γ G cond ρ2 with
      |some (.a [])=>match ev Γ G elt ρ2 with
       |some (.v x)=>x.st.map aa
       |_=>ah
      |some (.a [y])=>match y.d with
       |.bl af=>match ev Γ G elt ρ2 with
        |some (.v x)=>x.st.map aa
        |_=>ah
       |.bl ae=>aa ah
       |_=>ah
      |_=>ah) ds).bind λl=>if (Jo it ρ && !qw l)=af then ah else aa (.v (.o l))
   else ah
  |_=>ah):=(rfl)
theorem jlt{a}:ev Γ G (.seq a) ρ=(M5 (ev Γ G a ρ)):=(rfl)
theorem jf3{es}:ev Γ G (.range es) ρ=(Ma (ev Γ G es ρ)):=(rfl)
theorem jlq{a b}:ev Γ G (.zip a b) ρ=(Eo (ev Γ G a ρ) (ev Γ G b ρ)):=(rfl)
theorem jly{es}:ev Γ G (.fst es) ρ=(Mv (ev Γ G es ρ)):=(rfl)
theorem jjf{sep a}:ev Γ G (.join sep a) ρ=(Uo sep (ev Γ G a ρ)):=(rfl)
theorem jjh{a}:ev Γ G (.enum a) ρ=(Dm (ev Γ G a ρ)):=(rfl)
theorem jji{a b}:ev Γ G (.dzip a b) ρ=(Ra (ev Γ G a ρ) (ev Γ G b ρ)):=(rfl)
theorem jlz{a b}:ev Γ G (.dix a b) ρ=(Lw (ev Γ G a ρ) (ev Γ G b ρ)):=(rfl)
theorem jlu{a}:ev Γ G (.rpr a) ρ=(match ev Γ G a ρ with
  |some (.v x)=>match x.d with
   |.str y=>if (bZ y).length<=2000 then aa (.v (.e (.str (bZ y))))else ah
   |_=>ah
  |_=>ah):=(rfl)
theorem jje{a}:ev Γ G (.lset a) ρ=(Ws (ev Γ G a ρ)):=(rfl)
end
noncomputable def er(Γ:aq->List D->Rc)(G:aq->Option D):Ex->En->Option aq
 |.call f es,ρ=>match er Γ G es ρ with
  |some x=>if (G (qm f)).isSome=af then aa x else ah
  |none=>match ev Γ G es ρ with
   |some (.a rs)=>match Γ f (rs.map Rk.d) with
    |.err x=>if (G (bang x)).isSome=af then aa x else ah
    |_=>ah
   |_=>ah
 |.cons a b,ρ=>match er Γ G a ρ with
  |some x=>aa x
  |none=>match ev Γ G a ρ with
   |some (.v _)=>er Γ G b ρ
   |_=>ah
 |.ix a _,ρ=>er Γ G a ρ
 |.dzip a b,ρ=>match er Γ G a ρ with
  |some x=>aa x
  |none=>match ev Γ G a ρ with
   |some (.v _)=>er Γ G b ρ
   |_=>ah
 |_,_=>ah
end L2
end
section
namespace L2
open PySem PySem.Spec PyProof.Rows
def DM(X:Cx)(ρ:Rho)(e:au)(s:Bool)(ds:List D):Prop:=∀σ H Q,Rep X.K ρ σ H->(∀a xs H',j4 H H'->SqB X.K s H' a xs->j6 X.K (del H' (owns ρ)) ds xs->Q (.ref a) H')->Qk X e σ H Q
section
variable{X:Cx}{ρ:Rho}{e a b c:au}{es:List au}{d:D}{ds ds':List D}{i j:Int}{pos p p2:aR}{k:Nat}{x:aq}{s:Bool}
theorem jk6{K:k7t}{H:Hp}{a:ao}{xs:List V}(h:SqL K H a xs):SqB K af H a xs:=by unfold SqB;rw[if_pos rfl];exact h
theorem W0{K:k7t}{H:Hp}{a:ao}{xs:List V}(h:SqB K af H a xs):SqL K H a xs:=by unfold SqB at h;rw[if_pos rfl]at h;exact h
theorem Qm{K:k7t}{H:Hp}{a:ao}{xs:List V}(h:SqB K ae H a xs):SqT K H a xs:=by unfold SqB at h;rw[if_neg xm]at h;exact h
theorem DE.toM(h:DE X ρ e (D.seq s ds)):DM X ρ e s ds:=λσ H Q R q=>h σ H Q R λv H1 g1 e1=>by obtain⟨t,xs,ev,sq,en⟩:=Q6 e1;subst ev;exact q t xs H1 g1 (jk.seqB sq) en
theorem DL.toM(h:DL X ρ e ds):DM X ρ e af ds:=λσ H Q R q=>h σ H Q R λt xs H1 g1 m en=>q t xs H1 g1 (jk6 (.inl (.inl m))) en
theorem DO.toM(h:DO X ρ e ds):DM X ρ e af ds:=h.toL.toM
def Has(X:Cx)(ρ:Rho)(e:au):Rk->Prop
 |.e d=>DE X ρ e d
 |.o l=>DO X ρ e l
 |.w l=>DL X ρ e l
 |.t d=>DT X ρ e d
theorem Has.toT:∀{r:Rk},Has X ρ e r->DT X ρ e r.d
 |.e _,h=>DE.toT h
 |.o _,h=>DL.toT (DO.toL h)
 |.w _,h=>DL.toT h
 |.t _,h=>h
theorem Has.toE:∀{r:Rk}{d:D},Has X ρ e r->r.st=aa d->DE X ρ e d
 |.e _,_,h,q=>by cases q;exact h
 |.o _,_,h,q=>by cases q;exact DO.toE h
 |.w _,_,h,q=>by cases q
 |.t d',d,h,q=>by
  have q:(if Jk d'=af then aa d' else ah)=aa d:=q;by_cases z:Jk d'=af
  .rw[if_pos z]at q;cases q;exact DT.toE h z
  .rw[if_neg z]at q;cases q
theorem Has.toM:∀{r:Rk}{s:Bool}{l:List D},Has X ρ e r->r.sq=aa (s,l)->DM X ρ e s l
 |.e (.lst l),_,_,h,q=>by cases q;exact DE.toM (s:=af) h
 |.e (.tup l),_,_,h,q=>by cases q;exact DE.toM (s:=ae) h
 |.e .non,_,_,_,q=>by cases q
 |.e (.bl _),_,_,_,q=>by cases q
 |.e (.int _),_,_,_,q=>by cases q
 |.e (.str _),_,_,_,q=>by cases q
 |.o l,_,_,h,q=>by cases q;exact DO.toM h
 |.w l,_,_,h,q=>by cases q;exact DL.toM h
 |.t _,_,_,_,q=>by cases q
theorem jdf:OpR X (bj .Add) (λx y H Q=>∃l b xs zs,x=.ref l/\y=.ref b/\SqL X.K H l xs/\SqL X.K H b zs/\xs.length+zs.length<=av/\∀p,H p=ah->Q (.ref p) (upd H p (.lst (xs++zs)))):=by
 intro pins s σ H x y v u Q I rx ry h;obtain⟨l,b,xs,zs,e1,e2,hH,hB,hz,q⟩:=h;subst e1 e2;cases rx;cases ry;obtain⟨us,ru,⟨⟨c1,d1,f1,g1⟩,n1,h1,k1,w1,m1⟩,_⟩:=I.list hH;obtain⟨vs,rv,⟨⟨c2,d2,f2,g2⟩,n2,h2,k2,w2,m2⟩,_⟩:=I.list hB;have k1:c1=.type "list":=k1;have m1:f1=.seq us.toArray n1:=m1;have k2:c2=.type "list":=k2;have m2:f2=.seq vs.toArray n2:=m2;subst k1 m1 k2 m2;have l1:=ru.length;have l2:=rv.length;have ea:us.toArray++vs.toArray=(us++vs).toArray:=by simp
 refine gf ⟨_,h1,rfl⟩ ⟨_,h2,rfl⟩ noFill_list_add seq_list_add PySem.F.slot_list_add PySem.F.entry_list_add (PySem.F.args_list_add_2 _ _)
  (list_addW l b us.toArray vs.toArray n1 n2 d1 d2 g1 g2 (by rw[X5,X5,<-l1,<-l2];exact hz)) ⟨h1,h2,?_⟩
 rw[ea];exact⟨.ref _,_,I.lnew (t':=s.toks) (ru.append rv) (by rw[Xe];exact hz),rfl,q _ I.fresh⟩
theorem DO.catM(ha:DM X ρ a af ds)(hb:DM X ρ b af ds')(hl:ds.length+ds'.length<=av):DO X ρ (.BinOp a .Add b pos) (ds++ds'):=λσ H Q R q =>
 (Yb jdf peS peS).to (ha σ H _ R λl xs H1 g1 s1 e1=>hb σ H1 _ (R.grow g1) λl' ys H2 g2 s2 e2 =>
  ⟨l,l',xs,ys,rfl,rfl,g2.seq (W0 s1),W0 s2,by rw[e1.length,e2.length];exact hl,λp hp=>q p _ _ ((g1.trans g2).trans (j7 hp)) ((g1.trans g2).free hp) jx (R9 hp ((e1.mono (je g2)).append e2))⟩)
theorem DE.catTM(ha:DM X ρ a ae ds)(hb:DM X ρ b ae ds')(hl:ds.length+ds'.length<=av):DE X ρ (.BinOp a .Add b pos) (.tup (ds++ds')):=λσ H Q R q =>
 (Yb j8v peS peS).to (ha σ H _ R λt xs H1 g1 sq l=>hb σ H1 _ (R.grow g1) λt' ys H2 g2 sq' l'=>by
  have l2:=l.mono (je g2)
  have enT:∀{t:ao}{xs:List V}{ds:List D},SqT X.K H2 t xs->j6 X.K (del H2 (owns ρ)) ds xs->Enc X.K (del H2 (owns ρ)) (.tup ds) (.ref t):=λ{t xs ds} sq l=>by
   refine⟨t,xs,rfl,?_,l⟩
   have ow:=(R.grow (g1.trans g2)).owned
   have out:∀{o:HO},H2 t=aa o->(∀zs,o≠.lst zs)->del H2 (owns ρ) t=aa o:=λ{o} h z=>by
    rw[j5];exact h
    intro y;obtain⟨zs,e'⟩:=ow t y;rw[h]at e';cases e';exact z zs rfl
   rcases sq with (h|⟨o,h⟩)|h
   .exact .inl (.inl (out h λ_ z=>by cases z))
   .exact .inl (.inr ⟨o,out h λ_ z=>by cases z⟩)
   .exact .inr h
  refine⟨t,t',xs,ys,rfl,rfl,g2.seqT (Qm sq),Qm sq',by rw[l.length,l'.length];exact hl,λh=>?_,λh h'=>?_,λh h' p hp=>?_⟩
  .subst h
   cases ds with
   |nil=>exact q _ H2 (g1.trans g2) (enT (Qm sq') l')
   |cons _ _=>have:=l.length;cases this
  .subst h'
   cases ds' with
   |nil=>exact q _ H2 (g1.trans g2) (by rw[Xo];exact enT (g2.seqT (Qm sq)) l2)
   |cons _ _=>have:=l'.length;cases this
  .have np:p∉owns ρ:=(R.grow (g1.trans g2)).fresh hp
   exact q _ _ ((g1.trans g2).trans (j7 hp)) ⟨p,xs++ys,rfl,.inl (.inl (by rw[j5 np];exact jx)),(l2.append l').mono (je (j7 hp))⟩)
theorem DE.ixM(ha:DM X ρ a s ds)(hb:DT X ρ b (.int i))(h:L2.atI ds i=aa d)(hs:Yo b):DE X ρ (.Subscript a b pos) d:=by
 cases s with
 |true=>exact λσ H Q R q=>(Od j2m peS peS hs).to (ha σ H _ R λl xs H1 g1 sq en=>hb σ H1 _ (R.grow g1) λu H2 g2 e2=>by
   obtain⟨y,hy,ey⟩:=en.atI h
   exact⟨l,xs,i,y,rfl,e2,g2.seq (W0 sq),hy,q y H2 (g1.trans g2) (ey.mono (je g2))⟩)
 |false=>exact λσ H Q R q=>(Od j68 peS peS hs).to (ha σ H _ R λl xs H1 g1 sq en=>hb σ H1 _ (R.grow g1) λu H2 g2 e2=>by
   obtain⟨y,hy,ey⟩:=en.atI h
   exact⟨l,xs,i,y,rfl,e2,g2.seqT (Qm sq),hy,q y H2 (g1.trans g2) (ey.mono (je g2))⟩)
variable{lo hi:Option au}{l u:Option Int}
theorem DO.sliceM(ha:DM X ρ a af ds)(hl:DP X ρ lo l)(hu:DP X ρ hi u):DO X ρ (.Subscript a (.Slice lo hi ah p2) pos) (cutD ds l u):=λσ H Q R q =>
 (Bu jcj peS poS poS).to (ha σ H _ R λt xs H1 g1 sq en=>hl σ H1 _ (R.grow g1) λH2 g2=>hu σ H2 _ (R.grow (g1.trans g2)) λH3 g3=>⟨t,xs,rfl,(g2.trans g3).seq (W0 sq),λp hp =>
  q p _ _ ((g1.trans (g2.trans g3)).trans (j7 hp)) ((g1.trans (g2.trans g3)).free hp) jx (R9 hp ((en.mono (je (g2.trans g3))).cut l u))⟩)
theorem DE.sliceM(ha:DM X ρ a ae ds)(hl:DP X ρ lo l)(hu:DP X ρ hi u)(hw:¬(HT.sIx ds.length 0 l=0/\HT.sIx ds.length ds.length u=ds.length)):DE X ρ (.Subscript a (.Slice lo hi ah p2) pos) (.tup (cutD ds l u)):=λσ H Q R q =>
 (Bu jfn peS poS poS).to (ha σ H _ R λt xs H1 g1 sq en=>hl σ H1 _ (R.grow g1) λH2 g2=>hu σ H2 _ (R.grow (g1.trans g2)) λH3 g3=>⟨t,xs,rfl,(g2.trans g3).seqT (Qm sq),by rw[en.length];exact hw,λp hp =>
  q _ _ ((g1.trans (g2.trans g3)).trans (j7 hp)) ⟨p,_,rfl,.inl (.inl (by rw[j5 ((R.grow (g1.trans (g2.trans g3))).fresh hp)];exact jx)),((en.mono (je (g2.trans g3))).cut l u).mono (je (j7 hp))⟩⟩)
theorem DE.tupM (ha:DM X ρ a s ds) (hm:X.mg "tuple" = ah) (hg:Gl X "tuple") (hs:aj [a] X.env=[(ae,aD a X.env)]):DE X ρ (.Call (.Name "tuple" p) [a] [] pos) (.tup ds):=λσ H Q R q =>
 (Mh Iw hg hm boot_tuple (jc peS qb hs) (by decide) (by decide) hs).to (ha σ H _ R λl xs H1 g1 sq en=>by
  cases s with
  |true =>
   refine⟨l,xs,rfl,.inl ⟨W0 sq,λt ht=>?_⟩⟩
   have nt:t∉owns ρ:=(R.grow g1).fresh ht
   exact q _ _ (g1.trans (j7 ht)) ⟨t,xs,rfl,.inl (.inl (by rw[j5 nt];exact jx)),en.mono (je (j7 ht))⟩
  |false =>
   refine⟨l,xs,rfl,.inr ⟨Qm sq,?_⟩⟩
   refine q _ _ g1 ⟨l,xs,rfl,?_,en⟩
   have ow:=(R.grow g1).owned
   have out:∀{o:HO},H1 l=aa o->(∀zs,o≠.lst zs)->del H1 (owns ρ) l=aa o:=λ{o} h z=>by
    rw[j5];exact h
    intro y;obtain⟨zs,e'⟩:=ow l y;rw[h]at e';cases e';exact z zs rfl
   rcases Qm sq with (h|⟨o,h⟩)|h
   .exact .inl (.inl (out h λ_ z=>by cases z))
   .exact .inl (.inr ⟨o,out h λ_ z=>by cases z⟩)
   .exact .inr h)
theorem DO.listM (ha:DM X ρ a s ds) (hm:X.mg "list" = ah) (hg:Gl X "list") (hs:aj [a] X.env=[(ae,aD a X.env)]):DO X ρ (.Call (.Name "list" p) [a] [] pos) ds:=λσ H Q R q =>
 (Mh j1d hg hm boot_list (jc peS qb hs) (by decide) (by decide) hs).to (ha σ H _ R λl xs H1 g1 sq en =>
  ⟨l,xs,rfl,(by cases s with|true=>exact .inl (W0 sq)|false=>exact .inr (Qm sq)),λp hp=>q p _ _ (g1.trans (j7 hp)) (g1.free hp) jx (R9 hp en)⟩)
end
theorem Cz:fillsNumberSlot (.type "tuple") "mul" = pure ae :=
 PySem.fillsNumberSlot_seq (id:="tuple.__mul__") (r:=aa (.builtin "tuple.__rmul__")) PySem.F.slot_tuple_mul.lookup (by decide +kernel) PySem.F.slot_tuple_rmul.lookup (by decide +kernel)
theorem jd0:seqRepeat? (.type "tuple")=pure (aa (.builtin "tuple.__mul__")):=by
 unfold seqRepeat?;rw[iP (T:="tuple") (name:="__mul__") (id:="tuple.__mul__") PySem.F.slot_tuple_mul.lookup (by decide +kernel),
  iP (T:="tuple") (name:="__rmul__") (id:="tuple.__rmul__") PySem.F.slot_tuple_rmul.lookup (by decide +kernel)]
 rfl
section
variable(a:Int)(t:dH)(l:ao)(its:Array ak)(n:Nat)(d1:Option ao)(sl:Array (Option ak))
theorem j0u:kz (bX.«int.__rmul__» ⟨[.int a t,.ref l],[]⟩) (λ_ R s=>s.heap.get? l=aa ⟨.type "tuple",d1,.seq its n,sl⟩/\R (.ok (.ret Value.notImplemented)) s) :=
 .of_wp λ_ _ _ _ s h=>by
  obtain⟨_,_,_,_,_⟩:=s;obtain⟨hl,h⟩:=h
  wp_walk
  exact⟨_,rfl,h⟩
theorem j7t:kz (bX.«tuple.__mul__» ⟨[.ref l,.int 1 t],[]⟩) (λ_ R s=>s.heap.get? l=aa ⟨.type "tuple",d1,.seq its n,sl⟩/\R (.ok (.ret (.ref l))) s) :=
 .of_wp λ_ _ _ _ s h=>by
  obtain⟨_,_,_,_,_⟩:=s;obtain⟨hl,h⟩:=h
  wp_walk
  exact⟨_,rfl,h⟩
theorem j7s(h0:its.isEmpty=ae)(h1:1<a)(h2:a<2^63)(hz:its.size*a.toNat<=av) :
  kz (bX.«tuple.__mul__» ⟨[.ref l,.int a t],[]⟩) (λ_ R s=>s.heap.get? l=aa ⟨.type "tuple",d1,.seq its n,sl⟩ /\
   R (.ok (.ret (.ref s.heap.objs.size))) { s with heap:=s.heap.push { cls:=.type "tuple",data:=.seq (cV (λx y=>x++y) #[] (aA a.toNat its)) } }) :=
 .of_wp λ_ _ _ _ s h=>by
  obtain⟨_,_,_,_,_⟩:=s;obtain⟨hl,h⟩:=h;have c1:(decide (a < -2^63) || decide (a>=2^63))=ae:=by rw[decide_eq_false nofun,decide_eq_false nofun];rfl
  have c2:(its.isEmpty || a==1)=ae:=by rw[h0,beq_eq_false_iff_ne.mpr nofun];rfl
  have c3:(decide (a<=0) || its.isEmpty)=ae:=by rw[h0,decide_eq_false nofun];rfl
  have ea:((its.size*a.toNat:Nat):Int)=(its.size:Int)*a:=by rw[Int.natCast_mul,fb nofun]
  have hz':(its.size:Int)*a<=(av:Int):=by rw[<-ea];exact Int.ofNat_le.mpr hz
  have c4:¬(its.size:Int)*a>(2^63-1)/8:=by
   have:(av:Int)<=(2^63-1)/8:=by decide
   omega
  have c5:f7 ((its.size:Int)*a)=ae:=by unfold f7;exact decide_eq_false nofun
  have c6:(cV (λx y=>x++y) #[] (aA a.toNat its)).size<=av:=by rw[AutoListH.size_joined,Array.size_empty,Pk,fK];exact hz
  wp_walk
  rw[c1]
  wp_walk
  rw[c2]
  wp_walk
  rw[c3]
  wp_walk
  rw[if_neg c4]
  wp_walk
  exact⟨_,rfl,h⟩
end
theorem jdd{X:Cx}:OpR X (bj .Mult) (λx y H Q=>∃a k xs,x=.ref a/\y=.int k/\SqT X.K H a xs/\xs≠[]/\1<=k/\k<2^63/\xs.length*k.toNat<=av /\
  (k=1->Q (.ref a) H)/\(1<k->∀p,H p=ah->Q (.ref p) (upd H p (.tup (aA k.toNat xs).flatten)))):=by
 intro pins s σ H x y v u Q I rx ry h;obtain⟨a,k,xs,e1,e2,sq,hne,h1,h2,hz,q1,q2⟩:=h;subst e1 e2;cases rx;obtain⟨t,e⟩:=ry;subst e;obtain⟨us,ru,⟨⟨c1,d1,f1,g1⟩,p1,k1,n1,m1⟩,_⟩:=I.tuple sq;have k1:c1=.type "tuple":=k1;have m1:f1=.seq us.toArray n1:=m1;subst k1 m1;have lu:=ru.length;have hne':us.toArray.isEmpty=ae:=by
  cases us with
  |nil=>cases ru;exact absurd rfl hne
  |cons _ _=>simp
 refine i7 (T:="tuple") (U:="int") (by decide) ⟨_,p1,rfl⟩ (λs'=>fY s' k t) Cz kn eO jd0 F.slot_int_index.lookup
  (bF eO (fY s k t) jW (jQ _ _) (j0u k t a us.toArray n1 d1 g1) ⟨p1,rfl,⟨_,p1,rfl⟩,?_⟩)
 by_cases hk:k=1
 .subst hk;exact bF jV ⟨_,p1,rfl⟩ jP (jD _ _) (j7t t a us.toArray n1 d1 g1) ⟨p1,⟨.ref a,H,I,rfl,q1 rfl⟩⟩
 .have hz':us.toArray.size*k.toNat<=av:=by rw[X5,<-lu];exact hz
  refine bF jV ⟨_,p1,rfl⟩ jP (jD _ _) (j7s k t a us.toArray n1 d1 g1 hne' nofun h2 hz') ⟨p1,?_⟩;have hnew:cV (λx1 x2=>x1++x2) #[] (aA k.toNat us.toArray)=(aA k.toNat us).flatten.toArray:=by have:=foldl_rep us k.toNat [];rw[tu]at this;exact this
  rw[hnew];refine⟨.ref _,_,I.laid (t':=s.toks) (λb o e=>km _ e) (X7 _) ?_,rfl,q2 nofun _ I.fresh⟩;exact⟨by rw[len_rep,fK];exact hz,_,ru.rep k.toNat,IsTup.new _ _,V5.new _ _⟩
theorem DE.repT{X:Cx}{ρ:Rho}{a b:au}{ds:List D}{k:Int}{pos:aR}(ha:DM X ρ a ae ds)(hb:DT X ρ b (.int k))(hne:ds≠[])(h1:1<=k)(h2:k<2^63)(hl:ds.length*k.toNat<=av) :
  DE X ρ (.BinOp a .Mult b pos) (.tup (aA k.toNat ds).flatten):=λσ H Q R q =>
 (Yb jdd peS peS).to (ha σ H _ R λt xs H1 g1 sq l=>hb σ H1 _ (R.grow g1) λu H2 g2 e2=>by
  have l2:=l.mono (je g2)
  refine⟨t,k,xs,rfl,e2,g2.seqT (Qm sq),?_,h1,h2,by rw[l.length];exact hl,λh=>?_,λh p hp=>?_⟩
  .intro z;subst z
   cases ds with
   |nil=>exact hne rfl
   |cons _ _=>have:=l.length;cases this
  .subst h
   have e:(aA (1:Int).toNat ds).flatten=ds:=by simp
   rw[e]at q
   refine q _ H2 (g1.trans g2) ⟨t,xs,rfl,?_,l2⟩
   have ow:=(R.grow (g1.trans g2)).owned
   have out:∀{o:HO},H2 t=aa o->(∀zs,o≠.lst zs)->del H2 (owns ρ) t=aa o:=λ{o} h z=>by
    rw[j5];exact h
    intro y;obtain⟨zs,e'⟩:=ow t y;rw[h]at e';cases e';exact z zs rfl
   rcases g2.seqT (Qm sq)with (h|⟨o,h⟩)|h
   .exact .inl (.inl (out h λ_ z=>by cases z))
   .exact .inl (.inr ⟨o,out h λ_ z=>by cases z⟩)
   .exact .inr h
  .have np:p∉owns ρ:=(R.grow (g1.trans g2)).fresh hp
   exact q _ _ ((g1.trans g2).trans (j7 hp)) ⟨p,_,rfl,.inl (.inl (by rw[j5 np];exact jx)),(l2.rep k.toNat).mono (je (j7 hp))⟩)
section
variable{X:Cx}{ρ:Rho}{a:au}{m k:Bool}{d:D}{n:Nat}{pos p2:aR}
end
end L2
end
section
namespace PySem
open Sem (wp)
namespace F
end F
section
variable{prog:az}{w:aF}{A:aI}{E:k7u}{s:ar}{I:ao}{fp wr:List ao}{G:Array ft->Array ft->Prop}{n:Nat}{P:Nat->ak->Prop}{St:Nat->ar->Prop}
end
end PySem
namespace L2
open PySem PySem.Spec PyProof.Rows
section
variable{X:Cx}{ρ:Rho}{a:au}{ds:List D}{p p1 p2 p3 pos:aR}
end
noncomputable def Sl.abs:Sl->Sv
 |.un=>.un
 |.val d=>.val d
 |.own _ l=>.own l
 |.raw _ _ x=>.exc x
noncomputable def j8(ρ:Rho):En:=ρ.map Sl.abs
theorem Ni{ρ:Rho}{i:Nat}:(j8 ρ)[i]?=(ρ[i]?).map Sl.abs:=xu ..
theorem Nh{ρ:Rho}{i:Nat}{d:D}(h:(j8 ρ)[i]?=aa (.val d)):ρ[i]?=aa (.val d):=by
 rw[Ni]at h;cases e:ρ[i]? with
 |none=>rw[e]at h;cases h
 |some s=>rw[e]at h;cases s<;>cases h;rfl
theorem jf2{ρ:Rho}{i:Nat}(h:(j8 ρ)[i]?=aa .un):ρ[i]?=aa .un:=by
 rw[Ni]at h;cases e:ρ[i]? with
 |none=>rw[e]at h;cases h
 |some s=>rw[e]at h;cases s<;>cases h;rfl
theorem Jt{ρ:Rho}{i:Nat}{l:List D}(h:(j8 ρ)[i]?=aa (.own l)):∃a,ρ[i]?=aa (.own a l):=by
 rw[Ni]at h;cases e:ρ[i]? with
 |none=>rw[e]at h;cases h
 |some s=>rw[e]at h;cases s<;>cases h;exact⟨_,rfl⟩
theorem jq{ρ:Rho}{i:Nat}{s:Sl}:j8 (ρ.set i s)=(j8 ρ).set i s.abs:=List.map_set ..
noncomputable def Bop.op:Bop->jH
 |.add=>.Add
 |.sub=>.Sub
 |.mul=>.Mult
 |.fdiv=>.FloorDiv
 |.mod=>.Mod
 |.pow=>.Pow
 |.shl=>.LShift
 |.shr=>.RShift
 |.band=>.BitAnd
 |.bxor=>.BitXor
noncomputable def Cop.op:Cop->gH
 |.lt=>.Lt
 |.le=>.LtE
 |.gt=>.Gt
 |.ge=>.GtE
 |.eq=>.Eq
 |.ne=>.NotEq
 |.isin=>.In
 |.notin=>.NotIn
noncomputable def Bf.name:Bf->aq
 |.len=>"len"
 |.min=>"min"
 |.max=>"max"
 |.all=>"all"
 |.tuple=>"tuple"
 |.list=>"list"
 |.sum=>"sum"
 |.int=>"int"
 |.any=>"any"
 |.sorted=>"sorted"
noncomputable def Vx:List aq:=["len","min","max","all","tuple","list","sum","int","any","sorted","isinstance","bool","str","range","zip","enumerate","reversed","ValueError","set","dict"]
noncomputable def Vv(x:aq):Bool:=x.cps.toList.head?==aa 33 || x.cps.toList.head?==aa 63
inductive Nd where
 |e (x:au)
 |b (x:au)
 |w (x:au)
 |a (xs:List au)
 |i (tg it:au)
 |o (x:Option au)
 |c (xs:List au)
 |p (xs:List au)
structure Cok(X:Cx)(G:aq->Option D):Prop where
 un':X.A.units+100<bG
 un:X.calm=af->X.A.units+150<bG
 dp:X.calm=af->X.A.depth+4<fh
 bt:∀x∈Vx,X.mg x=ah
 gl:∀x d,Vv x=ae->G x=aa d->∃u v,X.mg x=aa u/\RelV v u/\∀H,Enc X.K H d v
 nd:X.N.Nodup
 po:fD (aC X.prog X.w) X.A X.env X.xe
 ea:Oi X.K=af
 ec:∀x d,G (bang x)=aa d->x∈J8/\∃o,W.nsIn X.K ax x=aa (aa o)
 el:G "?" = aa (.bl af)->∀c∈J8,∃v,W.nsIn X.K ax c=aa (aa v)
 kin:X.K.In X.base
 ns:X.base.Ns ax X.mg
 kd:∀x l,G (bang x)=aa (.lst l)->Kinds X "_law_kinds" x l
 fn:∀f d,G (qm f)=aa d->∃fa,X.mg f=aa (.ref fa)/\W.keepIn X.K (.ref fa)=af
 pl:∀d,G (qm "_law_plan")=aa d->Cal X "_law_plan" (jfm X.K jb6)
 pc:∀d,G (qm "Pieces")=aa d->∃C,X.mg "Pieces" = aa (.ref C)/\PcX X C
 lm:∀x∈Y0,X.env.qual=x ++ ".<locals>."->∃c P,X.env.code=.ref c/\W.codeHdIn X.K c P=af/\W.tabIn X.K x=aa (c,P)
def Gok(X:Cx)(Γ:aq->List D->Rc):Prop:=∀f ds,match Γ f ds with
 |.val d=>Cal X f (spP X.K λds' d'=>ds'=ds/\d'=d)
 |.fresh l=>Cal X f (spF X.K λds' l'=>ds'=ds/\l'=l)
 |.err x=>CalX X f (spX X.K X.mg λds' y=>ds'=ds/\y=x)
 |.lval d=>∀x,f=v8 x->∃k,Room k X.A/\j4l X.prog X.w X.K X.mg X.base k x λds' d'=>ds'=ds/\d'=d
 |.mval d k'=>∀g ls (k:Nat) ds',f=mq g->ds=.lst (ls.map D.str)::.int (k:Int)::ds'->∀C,X.mg "Pieces" = aa (.ref C)->CalM X g C λls2 k2 ds2 d2 k2'=>ls2=ls/\k2=k/\ds2=ds'/\d2=d/\k2'=k'
 |.merr x=>∀g ls (k:Nat) ds',f=mq g->ds=.lst (ls.map D.str)::.int (k:Int)::ds'->∀C,X.mg "Pieces" = aa (.ref C)->CalMX X g C λls2 k2 ds2 x2=>ls2=ls/\k2=k/\ds2=ds'/\x2=x
 |.no=>True
theorem Cok.comp{X:Cx}{G:aq->Option D}{scope:bC}{C:ao}{s:ar}{H:Hp}{fp:List ao}{pn:k7v}(h:Cok X G):Cok (cCx X scope C s H fp pn) G:=⟨h.un',h.un,h.dp,h.bt,h.gl,h.nd,bR,h.ea,h.ec,h.el,h.kin,h.ns,h.kd,h.fn,λd e=>Cal.comp (h.pl d e),λd e=>let ⟨C,h1,h2⟩:=h.pc d e;⟨C,h1,⟨h2.ex⟩⟩,h.lm⟩
theorem Gok.comp{X:Cx}{Γ:aq->List D->Rc}{scope:bC}{C:ao}{s:ar}{H:Hp}{fp:List ao}{pn:k7v}(h:Gok X Γ):Gok (cCx X scope C s H fp pn) Γ:=λf ds=>by
 have q:=h f ds;cases e:Γ f ds with
 |val d=>rw[e]at q;exact Cal.comp q
 |fresh l=>rw[e]at q;exact Cal.comp q
 |err x=>rw[e]at q;exact⟨q.ex⟩
 |lval d=>rw[e]at q;exact q
 |mval d k=>rw[e]at q;exact λg ls k ds' h1 h2 C h3=>⟨(q g ls k ds' h1 h2 C h3).ex⟩
 |merr x=>rw[e]at q;exact λg ls k ds' h1 h2 C h3=>⟨(q g ls k ds' h1 h2 C h3).ex⟩
 |no=>trivial
inductive HasA(X:Cx)(ρ:Rho):List au->List Rk->Prop where
 |nil:HasA X ρ [] []
 |cons {a:au} {es:List au} {r:Rk} {rs:List Rk} (hs:aj (a::es) X.env=(ae,aD a X.env)::aj es X.env):Has X ρ a r->HasA X ρ es rs->HasA X ρ (a::es) (r::rs)
section
variable{X:Cx}{ρ:Rho}{es:List au}{rs:List Rk}
theorem HasA.toA:∀{es:List au}{rs:List Rk}{ds:List D},HasA X ρ es rs->vy rs=aa ds->DA X ρ es ds
 |_,_,_,.nil,q=>by cases q;exact DA.nil
 |_,_,ds,.cons (r:=r) (rs:=rs) hs h t,q=>by
  unfold vy at q;cases e1:r.st with
  |none=>rw[e1]at q;cases q
  |some d =>
   cases e2:vy rs with
   |none=>rw[e1,e2]at q;cases q
   |some ds'=>rw[e1,e2]at q;cases q;exact DA.cons (h.toE e1) (t.toA e2) hs
theorem HasA.toT:∀{es:List au}{rs:List Rk},HasA X ρ es rs->DTA X ρ es (rs.map Rk.d)
 |_,_,.nil=>DTA.nil
 |_,_,.cons hs h t=>DTA.cons h.toT t.toT hs
theorem DO.unfrz{e:au}{i:Nat}{a:ao}{l ds:List D}(hk:ρ[i]?=aa (.own a l))(h:DO X (ρ.set i (.val (.lst l))) e ds)(hn:qw ds=af):DO X ρ e ds:=λσ H Q R q =>
 h σ H Q (R.freeze hk) λb xs H' g n m en=>q b xs H' g n m ((en.mono jk).hide (λc hc=>by
  rcases xn.mp hc with z|z
  .rw[z];exact .inl ⟨xs,m⟩
  .exact .inl ((R.grow g).owned c z)) hn)
end
theorem Dr{f:D->Option (Option D)}:∀{ds l:List D},Jw f ds=aa l ->
  l=(ds.filter (λd=>(f d).join.isSome)).map (λd=>(f d).join.getD .non)/\∀d∈ds,∃o,f d=aa o
 |[],l,h=>by cases h;exact⟨rfl,λd hd=>nomatch hd⟩
 |d::ds,l,h=>by
  unfold Jw at h;cases e1:f d with
  |none=>rw[e1]at h;cases h
  |some o =>
   cases e2:Jw f ds with
   |none=>rw[e1,e2]at h;cases o<;>cases h
   |some xs =>
    rw[e1,e2]at h;obtain⟨q1,q2⟩:=Dr e2;have mem:∀d'∈d::ds,∃o,f d'=aa o:=λd' hd=>by
     rcases xn.mp hd with z|z
     .subst z;exact⟨o,e1⟩
     .exact q2 d' z
    cases o with
    |none=>cases h;exact⟨by rw[gT (by rw[e1];simp)];exact q1,mem⟩
    |some x=>cases h;exact⟨by rw[gS (by rw[e1];rfl),xx,<-q1,e1];rfl,mem⟩
section
variable{X:Cx}{ρ:Rho}{a b:au}{d da db:D}{ds ds':List D}{pos:aR}{k:Bool}
theorem j6b {t c:String} (h:zj t c=aa k):t ≠ "function":=λz=>by unfold zj at h;rw[if_pos z]at h;cases h
theorem j2i{K:k7t}{c:String}(h:zj d.ty c=aa k):W.kitOne K (.type d.ty) (.type c)=aa k:=by
 have nf:d.ty ≠ "function":=j6b h;unfold zj at h;rw[if_neg nf]at h;by_cases h1:c = "int"
 .subst h1;cases d<;>first|exact absurd rfl nf|(simp[D.ty]at h;subst h;kernel_rfl)
 rw[if_neg h1]at h;by_cases h2:c = "bool"
 .subst h2;cases d<;>first|exact absurd rfl nf|(simp[D.ty]at h;subst h;kernel_rfl)
 rw[if_neg h2]at h;by_cases h3:c = "str"
 .subst h3;cases d<;>first|exact absurd rfl nf|(simp[D.ty]at h;subst h;kernel_rfl)
 rw[if_neg h3]at h;by_cases h4:c = "list"
 .subst h4;cases d<;>first|exact absurd rfl nf|(simp[D.ty]at h;subst h;kernel_rfl)
 rw[if_neg h4]at h;by_cases h5:c = "tuple"
 .subst h5;cases d<;>first|exact absurd rfl nf|(simp[D.ty]at h;subst h;kernel_rfl)
 rw[if_neg h5]at h;cases h
theorem j2q {c:String} {cs:List String} (h:qp d (c::cs)=aa k):d.ty ≠ "function":=by
 unfold qp at h;split at h
 .rename_i e _;exact j6b e
 .cases h
theorem j0p{K:k7t}:∀{cs:List String}{k:Bool},qp d cs=aa k->W.kitAny K (.type d.ty) (cs.map cI)=aa k
 |[],k,h=>by cases h;rfl
 |c::cs,k,h=>by
  unfold qp at h;cases e1:zj d.ty c with
  |none=>rw[e1]at h;cases h
  |some x =>
   cases e2:qp d cs with
   |none=>rw[e1,e2]at h;cases h
   |some y =>
    rw[e1,e2]at h;cases h;rw[xx,W.kitAny,j2i e1];cases x with
    |true=>simp
    |false=>simp;exact j0p e2
theorem DE.neD(s:Bool)(hu:X.A.units+100<bG)(ha:DT X ρ a (D.seq s ds))(hb:DT X ρ b (D.seq s ds'))(hd:D.depL ds<=98)(nd:D.depL ds'<10000):DE X ρ (.Compare a [.NotEq] [b] pos) (.bl (!J3 ds ds')):=λσ H Q R q =>(Jz (j5p hu) peS peS (zx _)).to (ha σ H _ R λv H1 g1 e1=>hb σ H1 _ (R.grow g1) λu H2 g2 e2=>⟨ds,ds',s,e1.mono g2,e2,hd,nd,q _ H2 (g1.trans g2) rfl⟩)
theorem DE.notIn(s:Bool)(hu:X.A.units+100<bG)(ha:DT X ρ a d)(hb:DT X ρ b (D.seq s ds))(hd:D.depL ds<=98)(nd:d.dep<10000)(hm:aP .NotIn b=ae):DE X ρ (.Compare a [.NotIn] [b] pos) (.bl (!ds.any λe=>deq e d)):=λσ H Q R q =>(Jz (Kf hu) peS peS hm).to (ha σ H _ R λv H1 g1 e1=>hb σ H1 _ (R.grow g1) λu H2 g2 e2=>⟨d,ds,s,e1.mono g2,e2,hd,nd,q _ H2 (g1.trans g2) rfl⟩)
theorem DE.in(s:Bool)(hu:X.A.units+100<bG)(ha:DT X ρ a d)(hb:DT X ρ b (D.seq s ds))(hd:D.depL ds<=98)(nd:d.dep<10000)(hm:aP .In b=ae):DE X ρ (.Compare a [.In] [b] pos) (.bl (ds.any λe=>deq e d)):=λσ H Q R q =>(Jz (j5q hu) peS peS hm).to (ha σ H _ R λv H1 g1 e1=>hb σ H1 _ (R.grow g1) λu H2 g2 e2=>⟨d,ds,s,e1.mono g2,e2,hd,nd,q _ H2 (g1.trans g2) rfl⟩)
theorem Cj:∀{b:D}{s:Bool}{l:List D},b.sqv=aa (s,l)->b=D.seq s l
 |.lst _,_,_,h=>by cases h;rfl
 |.dct _ _,_,_,h=>by cases h
 |.sct _,_,_,h=>by cases h
 |.fn _ _,_,_,h=>by cases h
 |.tup _,_,_,h=>by cases h;rfl
 |.non,_,_,h=>by cases h
 |.bl _,_,_,h=>by cases h
 |.int _,_,_,h=>by cases h
 |.str _,_,_,h=>by cases h
theorem j4b{op:Cop}{i j:Int}(h:cmpI op i j=aa k)(ha:DT X ρ a (.int i))(hb:DT X ρ b (.int j)):DE X ρ (.Compare a [op.op] [b] pos) (.bl k)/\DB X ρ (.Compare a [op.op] [b] pos) k:=by
 cases op<;>(first|(cases h;done)|skip)
 .cases h;exact⟨DE.lt ha hb,DB.lt ha hb⟩
 .cases h;exact⟨DE.le ha hb,DB.le ha hb⟩
 .cases h;exact⟨DE.gt ha hb,DB.gt ha hb⟩
 .cases h;exact⟨DE.ge ha hb,DB.ge ha hb⟩
 .cases h;exact⟨DE.eqI ha hb,DB.eqI ha hb⟩
 .cases h;exact⟨DE.neI ha hb,DB.neI ha hb⟩
theorem Kz{op:Cop}(hu:X.A.units+100<bG)(h:Je op da db=aa k)(ha:DT X ρ a da)(hb:DT X ρ b db)(hm:aP op.op b=ae) :
  DE X ρ (.Compare a [op.op] [b] pos) (.bl k)/\DB X ρ (.Compare a [op.op] [b] pos) k:=by
 have inn:∀{r:Bool->Bool},(match db.sqv with|some (_,l)=>if D.depL l<=90/\da.dep<=90 then aa (r (l.any λe=>deq e da))else ah|none=>ah)=aa k->∃s l,DT X ρ b (D.seq s l)/\D.depL l<=98/\da.dep<10000/\k=r (l.any λe=>deq e da):=λ{r} h=>by
  cases e:db.sqv with
  |none=>rw[e]at h;cases h
  |some p =>
   obtain⟨s,l⟩:=p;rw[e]at h;have h:(if D.depL l<=90/\da.dep<=90 then aa (r (l.any λe=>deq e da))else ah)=aa k:=h;by_cases z:D.depL l<=90/\da.dep<=90
   .rw[if_pos z]at h;cases h;exact⟨s,l,Cj e▸hb,by omega,by omega,rfl⟩
   .rw[if_neg z]at h;cases h
 unfold Je at h;split at h
 .exact j4b h ha hb
 .by_cases z:da.dep<=90/\db.dep<=90
  .rw[if_pos z]at h;cases h;exact⟨DE.eqD hu ha hb nofun nofun,DB.eqD hu ha hb nofun nofun⟩
  .rw[if_neg z]at h;cases h
 .cases h;exact⟨DE.neB ha hb,DB.neB ha hb⟩
 .cases h;exact⟨(DE.neS ha hb).eq (by rw[j13]),(DB.neS ha hb).eq (by rw[j13])⟩
 .cases h;exact⟨(DE.neS ha hb).eq (by simp),(DB.neS ha hb).eq (by simp)⟩
 .rename_i l m;by_cases z:D.depL l<=90/\D.depL m<=90
  .rw[if_pos z]at h;cases h;exact⟨DE.neD af hu ha hb nofun nofun,DB.neD af hu ha hb nofun nofun⟩
  .rw[if_neg z]at h;cases h
 .rename_i l m;by_cases z:D.depL l<=90/\D.depL m<=90
  .rw[if_pos z]at h;cases h;exact⟨DE.neD ae hu ha hb nofun nofun,DB.neD ae hu ha hb nofun nofun⟩
  .rw[if_neg z]at h;cases h
 .cases h;exact⟨DE.inS ha hb hm,DB.inS ha hb hm⟩
 .cases h;exact⟨DE.ltS ha hb,DB.ltS ha hb⟩
 .cases h;exact⟨DE.gtS ha hb,DB.gtS ha hb⟩
 .obtain⟨s,l,hb,hd,nd,e⟩:=inn (r:=id) h;subst e;exact⟨DE.in s hu ha hb hd nd hm,DB.in s hu ha hb hd nd hm⟩
 .obtain⟨s,l,hb,hd,nd,e⟩:=inn (r:=(!·)) h;subst e;exact⟨DE.notIn s hu ha hb hd nd hm,DB.notIn s hu ha hb hd nd hm⟩
 .cases h
theorem DE.shr{i j:Int}(ha:DT X ρ a (.int i))(hb:DT X ρ b (.int j))(h:0<=j):DE X ρ (.BinOp a .RShift b pos) (.int (i/2^j.toNat)):=DE.arI (g:=λi j=>i/2^j.toNat) jgo ha hb h
theorem qi{α:Type}{c:Prop}[Decidable c]{x y:α}(h:(if c then aa x else ah)=aa y):c/\x=y:=by
 by_cases z:c
 .rw[if_pos z]at h;exact⟨z,aE h⟩
 .rw[if_neg z]at h;cases h
theorem j4e{op:Bop}{i j n:Int}(h:binI op i j=aa n)(ha:DT X ρ a (.int i))(hb:DT X ρ b (.int j)):DE X ρ (.BinOp a op.op b pos) (.int n):=by
 cases op
 .cases h;exact DE.add ha hb
 .cases h;exact DE.sub ha hb
 .obtain⟨z,e⟩:=qi h;subst e;exact DE.mul ha hb z
 .obtain⟨z,e⟩:=qi h;subst e;exact DE.fdivB ha hb z
 .obtain⟨z,e⟩:=qi h;subst e;exact DE.mod ha hb z
 .obtain⟨z,e⟩:=qi h;subst e;exact DE.pow ha hb z
 .obtain⟨z,e⟩:=qi h;subst e;exact DE.shl ha hb z
 .obtain⟨z,e⟩:=qi h;subst e;exact DE.shr ha hb z
 .cases h;exact DE.arI0 jgu ha hb
 .cases h;exact DE.arI0 jgm ha hb
theorem zc{n:Nat}(h:jm n=af):n<=av:=of_decide_eq_true h
end
section
variable{X:Cx}{ρ:Rho}{a b e:au}{es:List au}{d:D}{pos p:aR}
theorem Has.lw:∀{r:Rk}{l:List D},Has X ρ a r->r.lw=aa l->DL X ρ a l
 |.o l,_,h,q=>by cases q;exact DO.toL h
 |.w l,_,h,q=>by cases q;exact h
 |.e _,_,_,q=>by cases q
 |.t _,_,_,q=>by cases q
theorem j7f{op:Bop}{x y r:Rk}(h:Ro op x y=aa r)(ha:Has X ρ a x)(hb:Has X ρ b y):Has X ρ (.BinOp a op.op b pos) r:=by
 unfold Ro at h;split at h
 .rename_i i j e1 e2;cases z:binI op i j with
  |none=>rw[z]at h;cases h
  |some n=>rw[z]at h;cases h;exact j4e z (e1▸ha.toT) (e2▸hb.toT)
 .rename_i y z e1 e2;split at h
  .obtain⟨q,e⟩:=qi h;subst e;exact DE.catS (e1▸ha.toT) (e2▸hb.toT) (zc q)
  .cases h
 .rename_i y k e1 e2;split at h
  .obtain⟨q,e⟩:=qi h;subst e;exact DE.mulS (e1▸ha.toT) (e2▸hb.toT) q.1 q.2
  .cases h
 .split at h
  .rename_i l m _ e1 e2;obtain⟨z,q⟩:=qi h;subst q;exact DO.catM (ha.toM e1) (hb.toM e2) (zc z)
  .rename_i l m _ e1 e2;obtain⟨z,q⟩:=qi h;subst q;exact DE.catTM (ha.toM e1) (hb.toM e2) (zc z)
  .rename_i l k _ _ e1 e3;obtain⟨z,q⟩:=qi h;subst q;exact DE.repT (ha.toM e1) (e3▸hb.toT) (λe=>by subst e;exact absurd z.2.2.1 (by simp)) z.1 z.2.1 (zc z.2.2.2)
  .rename_i k _ _ _ e3 _;cases e:x.lw with
   |none=>rw[e]at h;cases h
   |some l =>rw[e]at h;obtain⟨z,q⟩:=qi h;subst q;exact DO.rep (ha.lw e) (e3▸hb.toT) z.1 z.2.1 (zc z.2.2)
  .cases h
theorem Rn:∀{l:List D}{bs:List Bool},boolsOf l=aa bs->l=bs.map D.bl
 |[],_,h=>by cases h;rfl
 |.bl b::r,bs,h=>by
  unfold boolsOf at h;cases e:boolsOf r with
  |none=>rw[e]at h;cases h
  |some q=>rw[e]at h;cases h;rw[Rn e];rfl
 |.non::_,_,h=>by cases h
 |.int _::_,_,h=>by cases h
 |.str _::_,_,h=>by cases h
 |.tup _::_,_,h=>by cases h
 |.lst _::_,_,h=>by cases h
 |.dct _ _::_,_,h=>by cases h
 |.sct _::_,_,h=>by cases h
 |.fn _ _::_,_,h=>by cases h
theorem Qo:∀{l:List D}{bs:List Int},intsOf l=aa bs->l=bs.map D.int
 |[],_,h=>by cases h;rfl
 |.int b::r,bs,h=>by
  unfold intsOf at h;cases e:intsOf r with
  |none=>rw[e]at h;cases h
  |some q=>rw[e]at h;cases h;rw[Qo e];rfl
 |.non::_,_,h=>by cases h
 |.bl _::_,_,h=>by cases h
 |.str _::_,_,h=>by cases h
 |.tup _::_,_,h=>by cases h
 |.lst _::_,_,h=>by cases h
 |.dct _ _::_,_,h=>by cases h
 |.sct _::_,_,h=>by cases h
 |.fn _ _::_,_,h=>by cases h
theorem Ue:∀{l:List D}{bs:List aq},strsOf l=aa bs->l=bs.map D.str
 |[],_,h=>by cases h;rfl
 |.str b::r,bs,h=>by
  unfold strsOf at h;cases e:strsOf r with
  |none=>rw[e]at h;cases h
  |some q=>rw[e]at h;cases h;rw[Ue e];rfl
 |.non::_,_,h=>by cases h
 |.bl _::_,_,h=>by cases h
 |.int _::_,_,h=>by cases h
 |.tup _::_,_,h=>by cases h
 |.lst _::_,_,h=>by cases h
 |.dct _ _::_,_,h=>by cases h
 |.sct _::_,_,h=>by cases h
 |.fn _ _::_,_,h=>by cases h
theorem Ja{w:Option W}{k:Bool}(h:truth w=aa k):∃r,w=aa (.v r)/\r.d=.bl k:=by
 unfold truth at h;split at h
 .rename_i r;split at h
  .rename_i q e;cases h;exact⟨r,rfl,e⟩
  .cases h
 .cases h
def j1i(X:Cx)(ρ:Rho):List au->List Rk->Prop
 |[],[]=>True
 |e::es,r::rs=>(∀y,Jd r.d=aa y->DE X ρ e (.str y))/\j1i X ρ es rs
 |_,_=>False
theorem j1i.all{X:Cx}{ρ:Rho}:∀{es:List au}{rs:List Rk}{ys:List aq},j1i X ρ es rs->Jf rs=aa ys->DPs X ρ es ys/\ys.length=rs.length
 |[],[],ys,_,q=>by cases q;exact⟨trivial,rfl⟩
 |e::es,r::rs,ys,h,q=>by
  unfold Jf at q;cases e1:Jd r.d with
  |none=>rw[e1]at q;cases q
  |some y =>
   cases e2:Jf rs with
   |none=>rw[e1,e2]at q;cases q
   |some ys' =>rw[e1,e2]at q;cases q;obtain⟨z1,z2⟩:=j1i.all h.2 e2;exact⟨⟨h.1 y e1,z1⟩,by rw[xq,xq,z2]⟩
 |[],_::_,_,h,_=>h.elim
 |_::_,[],_,h,_=>h.elim
theorem log2_small{i:Int}(h:-18446744073709551616<i/\i<18446744073709551616):i.natAbs.log2<1920:=by
 by_cases z:i.natAbs=0
 .rw[z];decide
 .have e:(2:Nat)^64=18446744073709551616:=by decide
  have:i.natAbs.log2<64:=(lK z).mpr (by rw[e];omega);omega
theorem j51{d:D}{y:aq}(h:Jd d=aa y):y.length<=10000:=by
 cases d with
 |int i =>
  simp only[Jd]at h;split at h
  .rename_i q;cases h;have:=int_text_length_le (k:=1920) (by decide) (log2_small q);rw[PySem.ofString_length];omega
  .cases h
 |str z =>
  simp only[Jd]at h;split at h
  .rename_i q;cases h;exact q
  .cases h
 |_=>cases h
theorem Oz:∀{rs:List Rk}{ys:List aq},Jf rs=aa ys->∀y∈ys,y.length<=10000
 |[],_,q=>by cases q;exact λy hy=>nomatch hy
 |r::rs,ys,q=>by
  unfold Jf at q;cases e1:Jd r.d with
  |none=>rw[e1]at q;cases q
  |some y =>
   cases e2:Jf rs with
   |none=>rw[e1,e2]at q;cases q
   |some ys' =>
    rw[e1,e2]at q;cases q;intro z hz;rcases xn.mp hz with rfl|hz
    .exact j51 e1
    .exact Oz e2 z hz
theorem DE.fmt{X:Cx}{ρ:Rho}{a:au}{d:D}{y:aq}{pos:aR}(ha:DT X ρ a d)(h:Jd d=aa y):DE X ρ (.FormattedValue a (-1) ah pos) (.str y):=by
 cases d with
 |int i =>
  simp only[Jd]at h;split at h
  .rename_i q;cases h;exact DE.fmtI ha (log2_small q)
  .cases h
 |str z =>
  simp only[Jd]at h;split at h
  .rename_i q;cases h;exact DE.fmtS ha (by rw[cn];omega)
  .cases h
 |_=>cases h
def jjq(Γ:aq->List D->Rc)(G:aq->Option D)(X:Cx)(t:Ex):Nd->Prop
 |.e e=>∀ρ r,ev Γ G t (j8 ρ)=aa (.v r)->Has X ρ e r
 |.b e=>∀ρ k,truth (ev Γ G t (j8 ρ))=aa k->DB X ρ e k
 |.w e=>∀ρ k,truth (ev Γ G t (j8 ρ))=aa k->DW X ρ e k
 |.a es=>∀ρ rs,ev Γ G t (j8 ρ)=aa (.a rs)->HasA X ρ es rs
 |.i tg it=>∀ρ ds,ev Γ G t (j8 ρ)=aa (.i ds)->DI X ρ tg it ds
 |.o e=>∀ρ o,Qq (ev Γ G t (j8 ρ))=aa o->DP X ρ e o
 |.p es=>∀ρ rs,ev Γ G t (j8 ρ)=aa (.a rs)->j1i X ρ es rs
 |.c ifs=>∀ρ,(ev Γ G t (j8 ρ)=aa (.a [])->DTs X ρ ifs af)/\∀y k,ev Γ G t (j8 ρ)=aa (.a [y])->y.d=.bl k->DTs X ρ ifs k
end
section
variable{Γ:aq->List D->Rc}{G:aq->Option D}{X:Cx}
theorem Bk{is:List Nat}{elt' it' c':Ex}{elt it tg:au}{ifs:List au}{scope:bC}{ρ:Rho}{r:Rk}
  (hit:∀ρ ds,ev Γ G it' (j8 ρ)=aa (.i ds)->DI X ρ tg it ds)
  (hb:∀ρ d ρ2,v7 is d (j8 ρ)=aa ρ2->(∀j∈is,ρ[j]?=aa .un)->∃ρ',j8 ρ'=ρ2/\Wk ρ' ρ/\owns ρ'=owns ρ/\∀C s H fp pn,DG (cCx X scope C s H fp pn) ρ tg d ρ')
  (he:∀C s H fp pn ρ r,ev Γ G elt' (j8 ρ)=aa (.v r)->Has (cCx X scope C s H fp pn) ρ elt r)
  (hc:∀C s H fp pn ρ,(ev Γ G c' (j8 ρ)=aa (.a [])->DTs (cCx X scope C s H fp pn) ρ ifs af)/\∀y k,ev Γ G c' (j8 ρ)=aa (.a [y])->y.d=.bl k->DTs (cCx X scope C s H fp pn) ρ ifs k)
  (h:ev Γ G (.comp is elt' it' c') (j8 ρ)=aa (.v r)):∃(l:List D)(ρf:Rho)(ds:List D)(pr:D->Bool)(g:D->D),r=.o l/\l=(ds.filter pr).map g /\
   (ρf=ρ\/(qw l=af/\∃(i:Nat)(a:ao)(l':List D),ρ[i]?=aa (.own a l')/\ρf=ρ.set i (.val (.lst l'))))/\DI X ρf tg it ds/\(∀j∈is,ρf[j]?=aa .un)/\ds.length<=av /\
   (∀C s H fp pn,∀d∈ds,∃ρ2,DG (cCx X scope C s H fp pn) ρf tg d ρ2/\Wk ρ2 ρf/\owns ρ2=owns ρf/\DTs (cCx X scope C s H fp pn) ρ2 ifs (pr d)/\(pr d=af->DE (cCx X scope C s H fp pn) ρ2 elt (g d))):=by
 have fr:∃ρf,j8 ρf=frz it' (j8 ρ)/\((Jo it' (j8 ρ)=ae/\ρf=ρ)\/(Jo it' (j8 ρ)=af/\∃i a l,ρ[i]?=aa (.own a l)/\ρf=ρ.set i (.val (.lst l)))):=by
  by_cases z:Jo it' (j8 ρ)=af
  .unfold Jo at z;split at z
   .rename_i i ei;split at z
    .rename_i l e;obtain⟨a,q⟩:=Jt e;refine⟨ρ.set i (.val (.lst l)),?_,.inr ⟨?_,i,a,l,q,rfl⟩⟩
     .rw[jq];simp only[frz,ei,e,Sl.abs]
     .simp only[Jo,ei,e]
    .cases z
   .cases z
  .have z':Jo it' (j8 ρ)=ae:=by simpa using z
   refine⟨ρ,?_,.inl ⟨z',rfl⟩⟩;unfold frz;split
   .rename_i i ei;split
    .rename_i l e;simp only[Jo,ei,e]at z';cases z'
    .rfl
   .rfl
 obtain⟨ρf,ef,fr⟩:=fr;rw[jjj]at h;rw[<-ef]at h;split at h
 .rename_i ds hds;split at h
  .rename_i hz;obtain⟨hfree,hlen⟩:=hz;generalize hf:(λd=>_:D->Option (Option D))=f at h;cases hl:Jw f ds with
   |none=>rw[hl]at h;cases h
   |some l =>
    rw[hl]at h;have h:(if (Jo it' (j8 ρ) && !qw l)=af then ah else aa (W.v (.o l)))=aa (.v r):=h;by_cases zz:(Jo it' (j8 ρ) && !qw l)=af
    .rw[if_pos zz]at h;cases h
    .rw[if_neg zz]at h;cases h;obtain⟨el,hmem⟩:=Dr hl;have hun:∀j∈is,ρf[j]?=aa .un:=λj hj=>by
      have:=Xp.mp hfree j hj;split at this
      .rename_i e;exact jf2 e
      .cases this
     refine⟨l,ρf,ds,_,_,rfl,el,?_,hit ρf ds hds,hun,zc hlen,λC s H fp pn d hd=>?_⟩
     .rcases fr with ⟨_,e⟩|⟨e1,i,a,l',hk,e⟩
      .exact .inl e
      .exact .inr ⟨by rw[e1]at zz;simpa using zz,i,a,l',hk,e⟩
     ·
      obtain⟨o,ho⟩:=hmem d hd;rw[<-hf]at ho ⊢;dsimp only at ho ⊢;cases hb2:v7 is d (j8 ρf) with
      |none=>rw[hb2]at ho;cases ho
      |some ρ2 =>
       obtain⟨ρ',e',wk,ow,dg⟩:=hb ρf d ρ2 hb2 hun;subst e';refine⟨ρ',dg C s H fp pn,wk,ow,?_⟩;rw[hb2]at ho;dsimp only at ho ⊢;cases hcv:ev Γ G c' (j8 ρ') with
       |none=>rw[hcv]at ho;cases ho
       |some w =>
        rw[hcv]at ho;split at ho
        .rename_i hw;cases hw;cases hev:ev Γ G elt' (j8 ρ') with
         |none=>rw[hev]at ho;cases ho
         |some w =>
          rw[hev]at ho;cases w with
          |i _=>cases ho
          |a _=>cases ho
          |v x =>
           dsimp only at ho ⊢;cases hst:x.st with
           |none=>rw[hst]at ho;cases ho
           |some y =>simp only[hst,T3,iG,eZ,dQ];exact⟨((hc C s H fp pn ρ').1 hcv),λ_=>(he C s H fp pn ρ' x hev).toE hst⟩
        .rename_i y hw;cases hw;split at ho
         .rename_i e1;cases hev:ev Γ G elt' (j8 ρ') with
          |none=>rw[hev]at ho;cases ho
          |some w =>
           rw[hev]at ho;cases w with
           |i _=>cases ho
           |a _=>cases ho
           |v x =>
            dsimp only at ho ⊢;cases hst:x.st with
            |none=>rw[hst]at ho;cases ho
            |some z =>simp only[e1,hst,T3,iG,eZ,dQ];exact⟨(hc C s H fp pn ρ').2 y af hcv e1,λ_=>(he C s H fp pn ρ' x hev).toE hst⟩
         .rename_i e1;simp only[e1,Option.join,fJ];exact⟨(hc C s H fp pn ρ').2 y ae hcv e1,λz=>by cases z⟩
         .cases ho
        .cases ho
  .cases h
 .cases h
theorem Dq{is:List Nat}{elt' it' c':Ex}{elt it tg:au}{ifs:List au}{scope:bC}{p:aR}{ρ:Rho}{r:Rk}(hq:X.calm=af)(hX:Cok X G)
  (hit:∀ρ ds,ev Γ G it' (j8 ρ)=aa (.i ds)->DI X ρ tg it ds) (hkind:scope.kind=.function) (hok:Q8 scope X.env X.N is=af) (hs:∀x,aV it X.env x=pure x)
  (hb:∀ρ d ρ2,v7 is d (j8 ρ)=aa ρ2->(∀j∈is,ρ[j]?=aa .un)->∃ρ',j8 ρ'=ρ2/\Wk ρ' ρ/\owns ρ'=owns ρ/\∀C s H fp pn,DG (cCx X scope C s H fp pn) ρ tg d ρ')
  (he:∀C s H fp pn ρ r,ev Γ G elt' (j8 ρ)=aa (.v r)->Has (cCx X scope C s H fp pn) ρ elt r)
  (hc:∀C s H fp pn ρ,(ev Γ G c' (j8 ρ)=aa (.a [])->DTs (cCx X scope C s H fp pn) ρ ifs af)/\∀y k,ev Γ G c' (j8 ρ)=aa (.a [y])->y.d=.bl k->DTs (cCx X scope C s H fp pn) ρ ifs k)
  (h:ev Γ G (.comp is elt' it' c') (j8 ρ)=aa (.v r)):∃l,r=.o l/\DO X ρ (.ListComp elt [⟨tg,it,ifs,0⟩] scope p) l:=by
 obtain⟨l,ρf,ds,pr,g,er,el,hf,hi,hun,hz,hb'⟩:=Bk hit hb he hc h;refine⟨l,er,?_⟩;have main:DO X ρf (.ListComp elt [⟨tg,it,ifs,0⟩] scope p) ((ds.filter pr).map g):=DO.comp is _ _ hi hb' hun hz hq hkind hok hs;rw[<-el]at main;rcases hf with e|⟨hn,i,a,l',hk,e⟩
 .subst e;exact main
 .subst e;exact DO.unfrz hk main hn
end
section
variable{X:Cx}{ρ:Rho}{a b e:au}{es:List au}{d:D}{pos p:aR}
theorem Has.map(h:∀σ H Q,Qk X a σ H Q->Qk X e σ H Q):∀{r:Rk},Has X ρ a r->Has X ρ e r
 |.e _,q=>λσ H Q R z=>h σ H Q (q σ H Q R z)
 |.o _,q=>λσ H Q R z=>h σ H Q (q σ H Q R z)
 |.w _,q=>λσ H Q R z=>h σ H Q (q σ H Q R z)
 |.t _,q=>λσ H Q R z=>h σ H Q (q σ H Q R z)
theorem Has.bl{r:Rk}{k:Bool}(h:Has X ρ a r)(e:r.d=.bl k):DE X ρ a (.bl k):=DT.toE (e▸h.toT)
theorem Qs{f:Bf}{rs:List Rk}{r:Rk}{p2:aR}{G:aq->Option D}(c:Cok X G)(hq:f=.min\/f=.all\/f=.sum\/f=.any\/f=.max->X.calm=af)(hg:Gl X f.name)(h:Zy f rs=aa r)(ha:HasA X ρ es rs):Has X ρ (.Call (.Name f.name p) es [] p2) r:=by
 have one:∀{x:Rk},HasA X ρ es [x]->∃e,es=[e]/\Has X ρ e x/\aj [e] X.env=[(ae,aD e X.env)]:=λ{x} h=>by cases h with|cons hs h t=>cases t;exact⟨_,rfl,h,hs⟩
 have two:∀{x y:Rk},HasA X ρ es [x,y]->∃e f,es=[e,f]/\Has X ρ e x/\Has X ρ f y/\aj [e,f] X.env=(ae,aD e X.env)::aj [f] X.env/\aj [f] X.env=[(ae,aD f X.env)]:=λ{x y} h=>by cases h with|cons hs h t=>cases t with|cons hs2 h2 t2=>cases t2;exact⟨_,_,rfl,h,h2,hs,hs2⟩
 unfold Zy at h;split at h
 .rename_i x;obtain⟨e,ee,hx,hs⟩:=one ha;subst ee;split at h
  .rename_i l el;cases h;exact DE.lenL (el▸hx.toT) (c.bt _ (by decide)) hg hs
  .rename_i l el;cases h;exact DE.lenT (el▸hx.toT) (c.bt _ (by decide)) hg hs
  .rename_i y el;obtain⟨z,q⟩:=qi h;subst q;exact DE.lenS (el▸hx.toT) (zc z) (c.bt _ (by decide)) hg hs
  .cases h
 .rename_i x y;obtain⟨e,f,ee,hx,hy,hs,hs2⟩:=two ha;subst ee;split at h
  .rename_i i j ei ej;cases h;exact DE.min (ei▸hx.toT) (ej▸hy.toT) (c.bt _ (by decide)) (hq (.inl rfl)) hg hs hs2 (by rw[hs2];rfl)
  .cases h
 .rename_i x y;obtain⟨e,f,ee,hx,hy,hs,hs2⟩:=two ha;subst ee;split at h
  .rename_i i j ei ej;cases h;exact DE.max2 (ei▸hx.toT) (ej▸hy.toT) (c.bt _ (by decide)) (hq (.inr (.inr (.inr (.inr rfl))))) hg hs hs2 (by rw[hs2];rfl)
  .cases h
 .rename_i x;obtain⟨e,ee,hx,hs⟩:=one ha;subst ee;split at h
  .rename_i l el;split at h
   .rename_i ns en;obtain⟨z,q⟩:=qi h;cases q;have:=Qo en;subst this;exact DE.maxL (el▸hx.toT) (λz'=>by subst z';simp at z) (c.bt _ (by decide)) (hq (.inr (.inr (.inr (.inr rfl))))) hg hs
   .cases h
  .cases h
 .rename_i x;obtain⟨e,ee,hx,hs⟩:=one ha;subst ee;split at h
  .rename_i l el;split at h
   .rename_i ns en;obtain⟨z,q⟩:=qi h;cases q;have:=Qo en;subst this;exact DE.minL (el▸hx.toT) (λz'=>by subst z';simp at z) (c.bt _ (by decide)) (hq (.inl rfl)) hg hs
   .cases h
  .cases h
 .rename_i x;obtain⟨e,ee,hx,hs⟩:=one ha;subst ee;split at h
  .rename_i l el;cases q:boolsOf l with
   |none=>rw[q]at h;cases h
   |some bs =>rw[q]at h;cases h;have:=Rn q;subst this;exact DE.all (el▸hx.toT) (c.bt _ (by decide)) (hq (.inr (.inl rfl))) hg hs
  .cases h
 .rename_i x;obtain⟨e,ee,hx,hs⟩:=one ha;subst ee;split at h
  .rename_i l el;cases q:boolsOf l with
   |none=>rw[q]at h;cases h
   |some bs =>rw[q]at h;cases h;have:=Rn q;subst this;exact DE.any (el▸hx.toT) (c.bt _ (by decide)) (hq (.inr (.inr (.inr (.inl rfl))))) hg hs
  .cases h
 .rename_i x;obtain⟨e,ee,hx,hs⟩:=one ha;subst ee;split at h
  .rename_i s l el;cases h;exact DE.tupM (hx.toM el) (c.bt _ (by decide)) hg hs
  .cases h
 .rename_i x;obtain⟨e,ee,hx,hs⟩:=one ha;subst ee;split at h
  .rename_i s l el;cases h;exact DO.listM (hx.toM el) (c.bt _ (by decide)) hg hs
  .cases h
 .rename_i x;obtain⟨e,ee,hx,hs⟩:=one ha;subst ee;split at h
  .rename_i l el;cases q:intsOf l with
   |none=>rw[q]at h;cases h
   |some ns =>rw[q]at h;cases h;have:=Qo q;subst this;exact DE.sum af (show DT X ρ e (.lst (ns.map D.int))from el▸hx.toT) (c.bt _ (by decide)) (hq (.inr (.inr (.inl rfl)))) hg hs
  .rename_i l el;cases q:intsOf l with
   |none=>rw[q]at h;cases h
   |some ns =>rw[q]at h;cases h;have:=Qo q;subst this;exact DE.sum ae (show DT X ρ e (.tup (ns.map D.int))from el▸hx.toT) (c.bt _ (by decide)) (hq (.inr (.inr (.inl rfl)))) hg hs
  .cases h
 .rename_i x;obtain⟨e,ee,hx,hs⟩:=one ha;subst ee;split at h
  .rename_i k el;cases h;exact DE.int1 (el▸hx.toT) (c.bt _ (by decide)) hg hs
  .cases h
 .cases h
end
section
variable{Γ:aq->List D->Rc}{G:aq->Option D}{X:Cx}
theorem j4d {ρ:Rho} {f:aq} {e:au} {es:List au} {rs:List Rk} {r:Rk} {p p2:aR} (g:Gok X Γ) (hg:Gl X f) (hdb:(f==k7x)=ae) (he:aj (e::es) X.env=(ae,aD e X.env)::aj es X.env)
  (hpl:(aQ p2 (aj es X.env)).any (·.1)=ae) (ha:HasA X ρ (e::es) rs)
  (h:(match vy rs with|some ds=>(Γ f ds).rk.map W.v|none=>match Γ f (rs.map Rk.d)with|.val d=>aa (.v (.t d))|.fresh l=>if qw l=af then aa (.v (.o l))else ah|_=>ah)=aa (.v r)):Has X ρ (.Call (.Name f p) (e::es) [] p2) r:=by
 split at h
 .rename_i ds hds;have q:=g f ds;cases z:Γ f ds with
  |val d=>rw[z]at h q;cases h;exact DE.call q (ha.toA hds) ⟨rfl,rfl⟩ hg hdb he hpl
  |fresh l=>rw[z]at h q;cases h;exact DO.call q (ha.toA hds) ⟨rfl,rfl⟩ hg hdb he hpl
  |err x=>rw[z]at h;cases h
  |lval d=>rw[z]at h;cases h
  |mval d k=>rw[z]at h;cases h
  |merr x=>rw[z]at h;cases h
  |no=>rw[z]at h;cases h
 .have q:=g f (rs.map Rk.d);split at h
  .rename_i d z;rw[z]at q;cases h;exact DT.call q ha.toT ⟨rfl,rfl⟩ hg hdb he hpl
  .rename_i l z;rw[z]at q;obtain⟨hn,e1⟩:=qi h;cases e1;exact DO.callT q ha.toT ⟨rfl,rfl⟩ hn hg hdb he hpl
  .cases h
theorem jfz{a:Ex}{ρ:En}{r:Rk}(h:ev Γ G (.rpr a) ρ=aa (.v r)):∃x y,ev Γ G a ρ=aa (.v x)/\x.d=.str y/\(bZ y).length<=2000/\r=.e (.str (bZ y)):=by
 rw[jlu]at h;split at h
 .rename_i x ex;split at h
  .rename_i y ey;split at h
   .rename_i hl;cases h;exact⟨x,y,ex,ey,hl,rfl⟩
   .cases h
  .cases h
 .cases h
end
def XM(X:Cx)(ρ:Rho)(y:aq):Nd->Prop
 |.e e=>DX X ρ e y
 |.a es=>DXA X ρ es y
 |_=>True
structure Tr(X:Cx)(t:Ex)(nd:Nd):Prop where
 m:∀(Γ:aq->List D->Rc)(G:aq->Option D),Cok X G->Gok X Γ->jjq Γ G X t nd
 x:∀(Γ:aq->List D->Rc)(G:aq->Option D),Cok X G->Gok X Γ->∀ρ y,er Γ G t (j8 ρ)=aa y->XM X ρ y nd
theorem Tr.int:∀{X:Cx}{i:Int}{n:Nat}{p:aR},Tr X (.lit (.int i)) (.e (.Constant (.int i) n p)):=by intro _ _ _ _;refine⟨λΓ G=>?_,λ_ _ _ _ _ _ h=>nomatch h⟩;intro _ _ ρ r h;simp only[Em]at h;cases h;exact DE.int
theorem Tr.bl:∀{X:Cx}{b:Bool}{n:Nat}{p:aR},Tr X (.lit (.bl b)) (.e (.Constant (.bool b) n p)):=by intro _ _ _ _;refine⟨λΓ G=>?_,λ_ _ _ _ _ _ h=>nomatch h⟩;intro _ _ ρ r h;simp only[Em]at h;cases h;exact DE.bl
theorem Tr.str:∀{X:Cx}{y:aq}{n:Nat}{p:aR},Tr X (.lit (.str y)) (.e (.Constant (.str y) n p)):=by intro _ _ _ _;refine⟨λΓ G=>?_,λ_ _ _ _ _ _ h=>nomatch h⟩;intro _ _ ρ r h;simp only[Em]at h;cases h;exact DE.str
theorem Tr.var:∀{X:Cx}{k:Nat}{x:aq}{p:aR}(hN:X.N[k]?=aa x) (hv:Vis X.env.scope x) (hd:(x==k7x)=ae) (hcd:(x==k7y)=ae),Tr X (.var k) (.e (.Name x p)):=by
 intro _ _ _ _ hN hv hd hcd;refine⟨λΓ G=>?_,λ_ _ _ _ _ _ h=>nomatch h⟩;intro _ _ ρ r h;simp only[jlr,Dy]at h;split at h
 .rename_i e;cases h;exact DE.var _ (Nh e) hN hv hd hcd
 .rename_i e;cases h;obtain⟨a,q⟩:=Jt e;exact DL.var _ q hN hv hd hcd
 .cases h
theorem Tr.glob:∀{X:Cx}{x:aq}{p:aR}(hg:Gl X x)(hd:(x==k7x)=ae) (hb:Vv x=ae),Tr X (.glob x) (.e (.Name x p)):=by
 intro _ _ _ hg hd hb;refine⟨λΓ G=>?_,λ_ _ _ _ _ _ h=>nomatch h⟩;rename_i X x p;intro c _ ρ r h;simp only[jjg]at h;cases e:G x with
 |none=>rw[e]at h;cases h
 |some d=>rw[e]at h;cases h;obtain⟨u,v,hm,r,q⟩:=c.gl x d hb e;exact DE.glob hg hm r q hd
theorem Tr.bin:∀{X:Cx}{op:Bop}{a' b':Ex}{a b:au}{p:aR},Tr X a' (.e a)->Tr X b' (.e b)->Tr X (.bin op a' b') (.e (.BinOp a op.op b p)):=by
 intro _ _ _ _ _ _ _ q0 q1;refine⟨λΓ G=>?_,λ_ _ _ _ _ _ h=>nomatch h⟩;have iha:=q0.m Γ G;have ihb:=q1.m Γ G;intro c g ρ r h;simp only[jm0,Qz]at h;split at h
 .rename_i x y ex ey;cases e:Ro _ x y with
  |none=>rw[e]at h;cases h
  |some z=>rw[e]at h;cases h;exact j7f e (iha c g ρ x ex) (ihb c g ρ y ey)
 .cases h
theorem Tr.cmp:∀{X:Cx}{op:Cop}{a' b':Ex}{a b:au}{p:aR}(hm:aP op.op b=ae),Tr X a' (.e a)->Tr X b' (.e b)->Tr X (.cmp op a' b') (.e (.Compare a [op.op] [b] p)):=by
 intro _ _ _ _ _ _ _ hm q0 q1;refine⟨λΓ G=>?_,λ_ _ _ _ _ _ h=>nomatch h⟩;have iha:=q0.m Γ G;have ihb:=q1.m Γ G;intro c g ρ r h;simp only[jby,Ly]at h;split at h
 .rename_i x y ex ey;cases e:Je _ x.d y.d with
  |none=>rw[e]at h;cases h
  |some z=>rw[e]at h;cases h;exact(Kz c.un' e (iha c g ρ x ex).toT (ihb c g ρ y ey).toT hm).1
 .cases h
theorem Tr.bcmp:∀{X:Cx}{op:Cop}{a' b':Ex}{a b:au}{p:aR}(hm:aP op.op b=ae),Tr X a' (.e a)->Tr X b' (.e b)->Tr X (.cmp op a' b') (.b (.Compare a [op.op] [b] p)):=by
 intro _ _ _ _ _ _ _ hm q0 q1;refine⟨λΓ G=>?_,λ_ _ _ _ _ _ _=>trivial⟩;have iha:=q0.m Γ G;have ihb:=q1.m Γ G;intro c g ρ k h;obtain⟨r,h,hk⟩:=Ja h;simp only[jby,Ly]at h;split at h
 .rename_i x y ex ey;cases e:Je _ x.d y.d with
  |none=>rw[e]at h;cases h
  |some z=>rw[e]at h;cases h;cases hk;exact(Kz c.un' e (iha c g ρ x ex).toT (ihb c g ρ y ey).toT hm).2
 .cases h
theorem Tr.isN:∀{X:Cx}{a':Ex}{a:au}{n:Nat}{p p2:aR},Tr X a' (.e a)->Tr X (.isN a') (.e (.Compare a [.Is] [.Constant .none n p2] p)):=by
 intro _ _ _ _ _ _ q0;refine⟨λΓ G=>?_,λ_ _ _ _ _ _ h=>nomatch h⟩;have iha:=q0.m Γ G;intro c g ρ r h;simp only[jbx]at h;split at h
 .rename_i x ex;cases h;exact DE.isN (iha c g ρ x ex).toT
 .cases h
theorem Tr.bisN:∀{X:Cx}{a':Ex}{a:au}{n:Nat}{p p2:aR},Tr X a' (.e a)->Tr X (.isN a') (.b (.Compare a [.Is] [.Constant .none n p2] p)):=by
 intro _ _ _ _ _ _ q0;refine⟨λΓ G=>?_,λ_ _ _ _ _ _ _=>trivial⟩;have iha:=q0.m Γ G;intro c g ρ k h;obtain⟨r,h,hk⟩:=Ja h;simp only[jbx]at h;split at h
 .rename_i x ex;cases h;cases hk;exact DB.isN (iha c g ρ x ex).toT
 .cases h
theorem Tr.one:∀{X:Cx}{a':Ex}{a:au}{op:BoolOp}{p:aR},Tr X a' (.e a)->Tr X a' (.e (.BoolOp op [a] p)):=by intro _ _ _ _ _ q0;refine⟨λΓ G=>?_,λΓ G c g ρ y h σ H Q R k=>(j5n peS).to (q0.x Γ G c g ρ y h σ H Q R k)⟩;have iha:=q0.m Γ G;intro c g ρ r h;exact Has.map (λσ H Q q=>(j5n peS).to q) (iha c g ρ r h)
theorem Tr.and:∀{X:Cx}{a' t':Ex}{a b:au}{rest:List au}{p:aR},Tr X a' (.e a)->Tr X t' (.e (.BoolOp .And (b::rest) p))->Tr X (.and a' t') (.e (.BoolOp .And (a::b::rest) p)):=by
 intro _ _ _ _ _ _ _ q0 q1;refine⟨λΓ G=>?_,λ_ _ _ _ _ _ h=>nomatch h⟩;have iha:=q0.m Γ G;have ihb:=q1.m Γ G;intro c g ρ r h;simp only[jm1]at h;split at h
 .rename_i e;cases h;obtain⟨x,ex,ed⟩:=Ja e;exact(DE.and (m:=ae) ((iha c g ρ x ex).bl ed).toT λz=>by cases z)
 .rename_i e;obtain⟨x,ex,ed⟩:=Ja e;cases e2:truth (ev Γ G _ (j8 ρ)) with
  |none=>rw[e2]at h;cases h
  |some k =>rw[e2]at h;cases h;obtain⟨y,ey,fd⟩:=Ja e2;exact(DE.and ((iha c g ρ x ex).bl ed).toT λ_=>(ihb c g ρ y ey).bl fd).eq (by simp)
 .cases h
theorem Tr.or:∀{X:Cx}{a' t':Ex}{a b:au}{rest:List au}{p:aR},Tr X a' (.e a)->Tr X t' (.e (.BoolOp .Or (b::rest) p))->Tr X (.or a' t') (.e (.BoolOp .Or (a::b::rest) p)):=by
 intro _ _ _ _ _ _ _ q0 q1;refine⟨λΓ G=>?_,λ_ _ _ _ _ _ h=>nomatch h⟩;have iha:=q0.m Γ G;have ihb:=q1.m Γ G;intro c g ρ r h;simp only[jjd]at h;split at h
 .rename_i e;cases h;obtain⟨x,ex,ed⟩:=Ja e;exact(DE.or (m:=ae) ((iha c g ρ x ex).bl ed).toT λz=>by cases z)
 .rename_i e;obtain⟨x,ex,ed⟩:=Ja e;cases e2:truth (ev Γ G _ (j8 ρ)) with
  |none=>rw[e2]at h;cases h
  |some k =>rw[e2]at h;cases h;obtain⟨y,ey,fd⟩:=Ja e2;exact(DE.or ((iha c g ρ x ex).bl ed).toT λ_=>(ihb c g ρ y ey).bl fd).eq (by simp)
 .cases h
theorem Tr.wor1:∀{X:Cx}{a':Ex}{a:au}{p:aR},Tr X a' (.b a)->Tr X a' (.w (.BoolOp .Or [a] p)):=by intro _ _ _ _ q0;refine⟨λΓ G=>?_,λ_ _ _ _ _ _ _=>trivial⟩;have iha:=q0.m Γ G;intro c g ρ k h;exact DW.or1 (iha c g ρ k h)
theorem Tr.wor:∀{X:Cx}{a' t':Ex}{a b:au}{rest:List au}{p:aR},Tr X a' (.b a)->Tr X t' (.w (.BoolOp .Or (b::rest) p))->Tr X (.or a' t') (.w (.BoolOp .Or (a::b::rest) p)):=by
 intro _ _ _ _ _ _ _ q0 q1;refine⟨λΓ G=>?_,λ_ _ _ _ _ _ _=>trivial⟩;have iha:=q0.m Γ G;have ihb:=q1.m Γ G;intro c g ρ k h;obtain⟨r,h,hk⟩:=Ja h;simp only[jjd]at h;split at h
 .rename_i e;cases h;cases hk;exact DW.or (m:=ae) (iha c g ρ af e) λz=>by cases z
 .rename_i e;cases e2:truth (ev Γ G _ (j8 ρ)) with
  |none=>rw[e2]at h;cases h
  |some m =>rw[e2]at h;cases h;cases hk;have q:=DW.or (iha c g ρ ae e) λ_=>ihb c g ρ _ e2;rw[k9]at q;exact q
 .cases h
theorem Tr.bw:∀{X:Cx}{a':Ex}{op:BoolOp}{es:List au}{p:aR},Tr X a' (.w (.BoolOp op es p))->Tr X a' (.b (.BoolOp op es p)):=by intro _ _ _ _ _ q0;refine⟨λΓ G=>?_,λ_ _ _ _ _ _ _=>trivial⟩;have iha:=q0.m Γ G;intro c g ρ k h;exact DW.toB (iha c g ρ k h)
theorem Tr.bnot:∀{X:Cx}{a':Ex}{a:au}{p:aR},Tr X a' (.b a)->Tr X (.not a') (.b (.UnaryOp .Not a p)):=by
 intro _ _ _ _ q0;refine⟨λΓ G=>?_,λ_ _ _ _ _ _ _=>trivial⟩;have iha:=q0.m Γ G;intro c g ρ k h;obtain⟨r,h,hk⟩:=Ja h;simp only[jlv]at h;cases e:truth (ev Γ G _ (j8 ρ)) with
 |none=>rw[e]at h;cases h
 |some m=>rw[e]at h;cases h;cases hk;exact DB.not (iha c g ρ m e)
theorem Tr.bval:∀{X:Cx}{a':Ex}{a:au}(he:∀whole,eU a X.env whole=(do let v <-whole;gc a.pos;eC [v] (jZ v))),Tr X a' (.e a)->Tr X a' (.b a):=by intro _ _ _ he q0;refine⟨λΓ G=>?_,λ_ _ _ _ _ _ _=>trivial⟩;have iha:=q0.m Γ G;intro c g ρ k h;obtain⟨r,h,hk⟩:=Ja h;exact DB.val ((iha c g ρ r h).bl hk).toT he
theorem Tr.ite:∀{X:Cx}{c' a' b':Ex}{c a b:au}{p:aR},Tr X c' (.b c)->Tr X a' (.e a)->Tr X b' (.e b)->Tr X (.ite c' a' b') (.e (.IfExp c a b p)):=by
 intro _ _ _ _ _ _ _ _ q0 q1 q2;refine⟨λΓ G=>?_,λ_ _ _ _ _ _ h=>nomatch h⟩;have ihc:=q0.m Γ G;have iha:=q1.m Γ G;have ihb:=q2.m Γ G;intro c g ρ r h;simp only[jlx]at h;split at h
 .rename_i e;split at h
  .rename_i x ex;cases es:x.st with
   |none=>rw[es]at h;cases h
   |some d=>rw[es]at h;cases h;exact(DE.ite (d':=d) (ihc c g ρ af e) (λ_=>(iha c g ρ x ex).toE es) λz=>by cases z).eq (by simp)
  .cases h
 .rename_i e;split at h
  .rename_i x ex;cases es:x.st with
   |none=>rw[es]at h;cases h
   |some d=>rw[es]at h;cases h;exact(DE.ite (d:=d) (ihc c g ρ ae e) (λz=>by cases z) λ_=>(ihb c g ρ x ex).toE es).eq (by simp)
  .cases h
 .cases h
theorem Tr.nil:∀{X:Cx},Tr X .nil (.a []):=by intro _;refine⟨λΓ G=>?_,λ_ _ _ _ _ _ h=>nomatch h⟩;intro c g ρ rs h;simp only[Rv]at h;cases h;exact .nil
theorem Tr.cons:∀{X:Cx}{a' b':Ex}{a:au}{es:List au}(hs:aj (a::es) X.env=(ae,aD a X.env)::aj es X.env),Tr X a' (.e a)->Tr X b' (.a es)->Tr X (.cons a' b') (.a (a::es)):=by
 intro _ _ _ _ _ hs q0 q1;refine⟨λΓ G=>?_,λΓ G=>?_⟩
 .have iha:=q0.m Γ G;have ihb:=q1.m Γ G;intro c g ρ rs h;simp only[Wc,consW]at h;split at h
  .rename_i x xs ex exs;cases h;exact .cons hs (iha c g ρ x ex) (ihb c g ρ xs exs)
  .cases h
 .skip
  intro c g ρ y h;rw[er]at h;split at h
  .rename_i x ex;cases h;exact DXA.head (q0.x Γ G c g ρ _ ex) hs
  split at h
  .rename_i r ez;exact DXA.tail (q0.m Γ G c g ρ r ez).toT (q1.x Γ G c g ρ y h) hs
  .cases h
theorem Tr.tup:∀{X:Cx}{es':Ex}{es:List au}{n:Nat}{p:aR},Tr X es' (.a es)->Tr X (.tup es') (.e (.Tuple es n p)):=by
 intro _ _ _ _ _ q0;refine⟨λΓ G=>?_,λ_ _ _ _ _ _ h=>nomatch h⟩;have iha:=q0.m Γ G;intro c g ρ r h;simp only[jls,Yp]at h;split at h
 .rename_i rs ers;split at h
  .rename_i ds hds;obtain⟨z,q⟩:=qi h;cases q;exact DE.tup (n:=0) ((iha c g ρ rs ers).toA hds) (zc z)
  .cases h
 .cases h
theorem Tr.lst:∀{X:Cx}{es':Ex}{es:List au}{p:aR},Tr X es' (.a es)->Tr X (.lst es') (.e (.List es p)):=by
 intro _ _ _ _ q0;refine⟨λΓ G=>?_,λ_ _ _ _ _ _ h=>nomatch h⟩;have iha:=q0.m Γ G;intro c g ρ r h;simp only[jlw,Vz]at h;split at h
 .rename_i rs ers;split at h
  .rename_i ds hds;obtain⟨z,q⟩:=qi h;cases q;exact DO.lst ((iha c g ρ rs ers).toA hds) (zc z)
  .cases h
 .cases h
theorem Tr.ix:∀{X:Cx}{a' b':Ex}{a b:au}{p:aR}(hs:Yo b),Tr X a' (.e a)->Tr X b' (.e b)->Tr X (.ix a' b') (.e (.Subscript a b p)):=by
 intro _ _ _ _ _ _ hs q0 q1;refine⟨λΓ G=>?_,λΓ G c g ρ y h σ H Q R k=>(Od j68 peS peS hs).to (q0.x Γ G c g ρ y (by rw[er]at h;exact h) σ H _ R k)⟩;have iha:=q0.m Γ G;have ihb:=q1.m Γ G;intro c g ρ r h;simp only[jnj,ixW]at h;split at h
 .rename_i x y ex ey;split at h
  .rename_i s l i hx hy;cases z:atI l i with
   |none=>rw[z]at h;cases h
   |some d=>rw[z]at h;cases h;exact DE.ixM ((iha c g ρ x ex).toM hx) (hy▸(ihb c g ρ y ey).toT) z hs
  .rename_i i hx hy;split at h
   .rename_i y' ed;split at h
    .rename_i hl;cases z:atI y'.cps.toList i with
     |none=>rw[z]at h;cases h
     |some d=>rw[z]at h;cases h;exact DE.ixC (ed▸(iha c g ρ x ex).toT) (hy▸(ihb c g ρ y ey).toT) (zc hl) z hs
    .cases h
   .cases h
  .cases h
 .cases h
theorem Tr.oN:∀{X:Cx},Tr X .nil (.o ah):=by intro _;refine⟨λΓ G=>?_,λ_ _ _ _ _ _ _=>trivial⟩;intro c g ρ o h;simp only[Rv,Qq]at h;cases h;exact DP.none
theorem Tr.oS:∀{X:Cx}{a':Ex}{a:au},Tr X a' (.e a)->Tr X (.cons a' .nil) (.o (aa a)):=by
 intro _ _ _ q0;refine⟨λΓ G=>?_,λ_ _ _ _ _ _ _=>trivial⟩;have iha:=q0.m Γ G;intro c g ρ o h;simp only[Wc,Rv,consW]at h;split at h
 .rename_i x xs ex exs;cases exs;simp only[Qq]at h;split at h
  .rename_i i ei;cases h;exact DP.some (ei▸(iha c g ρ x ex).toT)
  .cases h
 .cases h
theorem Tr.sl:∀{X:Cx}{a' l' h':Ex}{a:au}{lo hi:Option au}{p p2:aR},Tr X a' (.e a)->Tr X l' (.o lo)->Tr X h' (.o hi)->Tr X (.sl a' l' h') (.e (.Subscript a (.Slice lo hi ah p2) p)):=by
 intro _ _ _ _ _ _ _ _ _ q0 q1 q2;refine⟨λΓ G=>?_,λ_ _ _ _ _ _ h=>nomatch h⟩;have iha:=q0.m Γ G;have ihl:=q1.m Γ G;have ihh:=q2.m Γ G;intro c g ρ r h;simp only[jni]at h;split at h
 .rename_i x l hh ex el eh;split at h
  .rename_i ds e;cases h;exact DO.sliceM ((iha c g ρ x ex).toM e) (ihl c g ρ l el) (ihh c g ρ hh eh)
  .rename_i ds e;split at h
   .cases h
   .rename_i z;cases h;exact DE.sliceM ((iha c g ρ x ex).toM e) (ihl c g ρ l el) (ihh c g ρ hh eh) z
  .split at h
   .rename_i y' ed;obtain⟨z,q⟩:=qi h;cases q;exact DE.sliceS (ed▸(iha c g ρ x ex).toT) (ihl c g ρ l el) (ihh c g ρ hh eh) (zc z)
   .cases h
 .cases h
theorem Tr.call:∀{X:Cx}{f:aq}{es':Ex}{e:au}{es:List au}{p p2:aR}(hg:Gl X f) (hdb:(f==k7x)=ae) (he:aj (e::es) X.env=(ae,aD e X.env)::aj es X.env) (hpl:(aQ p2 (aj es X.env)).any (·.1)=ae),Tr X es' (.a (e::es))->Tr X (.call f es') (.e (.Call (.Name f p) (e::es) [] p2)):=by
 intro _ f _ _ _ _ _ hg hdb he hpl q0;refine⟨λΓ G=>?_,λΓ G=>?_⟩
 .have iha:=q0.m Γ G;intro c g ρ r h;simp only[jjk,Qe]at h;split at h
  .rename_i rs ers;exact j4d g hg hdb he hpl (iha c g ρ rs ers) h
  .cases h
 .skip
  intro c g ρ y h;rw[er]at h;split at h
  .rename_i x ex;split at h
   .rename_i hz;cases h;obtain⟨d,hd⟩:=Xr.mp hz;obtain⟨fa,hfa,hk⟩:=c.fn _ d hd;exact DX.args (q0.x Γ G c g ρ _ ex) hg hdb hfa hk he hpl
   .cases h
  split at h
  .rename_i rs ers;split at h
   .rename_i z ez;split at h
    .rename_i hz;cases h;have q:=g f (rs.map Rk.d);rw[ez]at q;obtain⟨d,hd⟩:=Xr.mp hz;obtain⟨_,o,ho⟩:=c.ec _ d hd;exact DX.call q (q0.m Γ G c g ρ rs ers).toT ⟨rfl,rfl⟩ (W.mg_of c.kin c.ns ho) hg hdb he hpl
    .cases h
   .cases h
  .cases h
theorem Tr.len:∀{X:Cx}{es':Ex}{e:au}{p p2:aR}(hg:Gl X "len"),Tr X es' (.a [e])->Tr X (.blt .len es') (.e (.Call (.Name "len" p) [e] [] p2)):=by
 intro _ _ _ _ _ hg q0;refine⟨λΓ G=>?_,λ_ _ _ _ _ _ h=>nomatch h⟩;have iha:=q0.m Γ G;intro c g ρ r h;simp only[Rw,J0]at h;split at h
 .rename_i rs ers;cases e:Zy _ rs with
  |none=>rw[e]at h;cases h
  |some x=>rw[e]at h;cases h;exact Qs (f:=.len) c (λz=>by rcases z with z|z|z|z|z<;>cases z) hg e (iha c g ρ rs ers)
 .cases h
theorem Tr.all:∀{X:Cx}{es':Ex}{e:au}{p p2:aR}(hq:X.calm=af)(hg:Gl X "all"),Tr X es' (.a [e])->Tr X (.blt .all es') (.e (.Call (.Name "all" p) [e] [] p2)):=by
 intro _ _ _ _ _ hq hg q0;refine⟨λΓ G=>?_,λ_ _ _ _ _ _ h=>nomatch h⟩;have iha:=q0.m Γ G;intro c g ρ r h;simp only[Rw,J0]at h;split at h
 .rename_i rs ers;cases e:Zy _ rs with
  |none=>rw[e]at h;cases h
  |some x=>rw[e]at h;cases h;exact Qs (f:=.all) c (λ_=>hq) hg e (iha c g ρ rs ers)
 .cases h
theorem Tr.tuple:∀{X:Cx}{es':Ex}{e:au}{p p2:aR}(hg:Gl X "tuple"),Tr X es' (.a [e])->Tr X (.blt .tuple es') (.e (.Call (.Name "tuple" p) [e] [] p2)):=by
 intro _ _ _ _ _ hg q0;refine⟨λΓ G=>?_,λ_ _ _ _ _ _ h=>nomatch h⟩;have iha:=q0.m Γ G;intro c g ρ r h;simp only[Rw,J0]at h;split at h
 .rename_i rs ers;cases e:Zy _ rs with
  |none=>rw[e]at h;cases h
  |some x=>rw[e]at h;cases h;exact Qs (f:=.tuple) c (λz=>by rcases z with z|z|z|z|z<;>cases z) hg e (iha c g ρ rs ers)
 .cases h
theorem Tr.list:∀{X:Cx}{es':Ex}{e:au}{p p2:aR}(hg:Gl X "list"),Tr X es' (.a [e])->Tr X (.blt .list es') (.e (.Call (.Name "list" p) [e] [] p2)):=by
 intro _ _ _ _ _ hg q0;refine⟨λΓ G=>?_,λ_ _ _ _ _ _ h=>nomatch h⟩;have iha:=q0.m Γ G;intro c g ρ r h;simp only[Rw,J0]at h;split at h
 .rename_i rs ers;cases e:Zy _ rs with
  |none=>rw[e]at h;cases h
  |some x=>rw[e]at h;cases h;exact Qs (f:=.list) c (λz=>by rcases z with z|z|z|z|z<;>cases z) hg e (iha c g ρ rs ers)
 .cases h
theorem Tr.min:∀{X:Cx}{es':Ex}{e f:au}{p p2:aR}(hq:X.calm=af)(hg:Gl X "min"),Tr X es' (.a [e,f])->Tr X (.blt .min es') (.e (.Call (.Name "min" p) [e,f] [] p2)):=by
 intro _ _ _ _ _ _ hq hg q0;refine⟨λΓ G=>?_,λ_ _ _ _ _ _ h=>nomatch h⟩;have iha:=q0.m Γ G;intro c g ρ r h;simp only[Rw,J0]at h;split at h
 .rename_i rs ers;cases e:Zy _ rs with
  |none=>rw[e]at h;cases h
  |some x=>rw[e]at h;cases h;exact Qs (f:=.min) c (λ_=>hq) hg e (iha c g ρ rs ers)
 .cases h
theorem Tr.sum:∀{X:Cx}{es':Ex}{e:au}{p p2:aR}(hq:X.calm=af)(hg:Gl X "sum"),Tr X es' (.a [e])->Tr X (.blt .sum es') (.e (.Call (.Name "sum" p) [e] [] p2)):=by
 intro _ _ _ _ _ hq hg q0;refine⟨λΓ G=>?_,λ_ _ _ _ _ _ h=>nomatch h⟩;have iha:=q0.m Γ G;intro c g ρ r h;simp only[Rw,J0]at h;split at h
 .rename_i rs ers;cases e:Zy _ rs with
  |none=>rw[e]at h;cases h
  |some x=>rw[e]at h;cases h;exact Qs (f:=.sum) c (λ_=>hq) hg e (iha c g ρ rs ers)
 .cases h
theorem Tr.intc:∀{X:Cx}{es':Ex}{e:au}{p p2:aR}(hg:Gl X "int"),Tr X es' (.a [e])->Tr X (.blt .int es') (.e (.Call (.Name "int" p) [e] [] p2)):=by
 intro _ _ _ _ _ hg q0;refine⟨λΓ G=>?_,λ_ _ _ _ _ _ h=>nomatch h⟩;have iha:=q0.m Γ G;intro c g ρ r h;simp only[Rw,J0]at h;split at h
 .rename_i rs ers;cases e:Zy _ rs with
  |none=>rw[e]at h;cases h
  |some x=>rw[e]at h;cases h;exact Qs (f:=.int) c (λz=>by rcases z with z|z|z|z|z<;>cases z) hg e (iha c g ρ rs ers)
 .cases h
theorem Tr.join:∀{X:Cx}{a':Ex}{a:au}{sep:aq}{n:Nat}{p0 p1 p2:aR}(hbase:aW (.Constant (.str sep) n p0) "join" X.env (aD (.Constant (.str sep) n p0) X.env)=aD (.Constant (.str sep) n p0) X.env) (hfew:((aQ p2 (aj [a] X.env)).all (λx=>!x.1)&&(bP p2 (b8 [] X.env)).all (λx=>x.1.isSome)&&decide (([a]:List au).length+([]:List b7).length+(if ([]:List b7).isEmpty then 0 else 1)<30))=af) (hline:(p1.endLine==p2.line)=af) (hs:aj [a] X.env=(ae,aD a X.env)::aj [] X.env),Tr X a' (.e a)->Tr X (.join sep a') (.e (.Call (.Attribute (.Constant (.str sep) n p0) "join" p1) [a] [] p2)):=by
 intro _ _ _ _ _ _ _ _ hbase hfew hline hs q0;refine⟨λΓ G=>?_,λ_ _ _ _ _ _ h=>nomatch h⟩;have iha:=q0.m Γ G;intro c g ρ r h;simp only[jjf,Uo]at h;split at h
 .rename_i x ex;split at h
  .rename_i l el;split at h
   .rename_i ts et;obtain⟨z,q⟩:=qi h;cases q;have:=Ue et;subst this;exact DE.join (el▸(iha c g ρ x ex).toT) z hfew hbase hline hs
   .cases h
  .cases h
 .cases h
theorem Tr.lset:∀{X:Cx}{a':Ex}{a:au}{p p1 p2 pos:aR}(hq:X.calm=af)(hg:Gl X "len") (hg2:Gl X "set") (hs:aj [a] X.env=[(ae,aD a X.env)]) (hs2:aj [.Call (.Name "set" p1) [a] [] p2] X.env=[(ae,aD (.Call (.Name "set" p1) [a] [] p2) X.env)]),Tr X a' (.e a)->Tr X (.lset a') (.e (.Call (.Name "len" p) [.Call (.Name "set" p1) [a] [] p2] [] pos)):=by
 intro _ _ _ _ _ _ _ hq hg hg2 hs hs2 q0;refine⟨λΓ G=>?_,λ_ _ _ _ _ _ h=>nomatch h⟩;have iha:=q0.m Γ G;intro c g ρ r h;simp only[jje,Ws]at h;split at h
 .rename_i x ex;split at h
  .rename_i l el;split at h
   .rename_i ts et;obtain⟨z,q⟩:=qi h;cases q;have:=Ue et;subst this;exact DE.lenSet (el▸(iha c g ρ x ex).toT) hq nofun (c.bt _ (by decide)) (c.bt _ (by decide)) hg hg2 hs hs2
   .split at h
    .rename_i ts et;obtain⟨z,q⟩:=qi h;cases q;have:=Qo et;subst this;exact DE.lenSetI (el▸(iha c g ρ x ex).toT) hq nofun (c.bt _ (by decide)) (c.bt _ (by decide)) hg hg2 hs hs2
    .cases h
  .cases h
 .cases h
theorem Tr.dzip:∀{X:Cx}{a' b':Ex}{a b:au}{p p2 p3 p4:aR}(hq:X.calm=af)(hg:Gl X "dict") (hgz:Gl X "zip") (hs0:aj [.Call (.Name "zip" p2) [a,b] [] p3] X.env=(ae,aD (.Call (.Name "zip" p2) [a,b] [] p3) X.env)::aj [] X.env) (hs:aj [a,b] X.env=(ae,aD a X.env)::aj [b] X.env) (hs2:aj [b] X.env=(ae,aD b X.env)::aj [] X.env),Tr X a' (.e a)->Tr X b' (.e b)->Tr X (.dzip a' b') (.e (.Call (.Name "dict" p) [.Call (.Name "zip" p2) [a,b] [] p3] [] p4)):=by
 intro _ _ _ _ _ _ _ _ _ hq hg hgz hs0 hs hs2 q0 q1;refine⟨λΓ G=>?_,λΓ G=>?_⟩
 .have iha:=q0.m Γ G;have ihb:=q1.m Γ G;intro c g ρ r h;simp only[jji,Ra]at h;split at h
  .rename_i x y ex ey;split at h
   .rename_i t1 l t2 m el em;split at h
    .rename_i ks ns ek en;obtain⟨z,q⟩:=qi h;cases q;have e1:=Ue ek;have e2:=Qo en;subst e1 e2;obtain⟨d1,f1,g1⟩:=Option.bind_eq_some_iff.mp el;obtain⟨d2,f2,g2⟩:=Option.bind_eq_some_iff.mp em;have s1:=Cj g1;have s2:=Cj g2;subst s1 s2;exact DE.dzip t1 t2 ((iha c g ρ x ex).toE f1) ((ihb c g ρ y ey).toE f2) z.1 z.2.1 (zc z.2.2) hq (c.bt _ (by decide)) (c.bt _ (by decide)) hg hgz hs0 hs hs2
    .cases h
   .cases h
  .cases h
 .skip
  intro c g ρ y h;rw[er]at h;split at h
  .rename_i x ex;cases h;exact DX.dzip (DXA.head (q0.x Γ G c g ρ _ ex) hs) (c.bt _ (by decide)) (c.bt _ (by decide)) hg hgz hs0 hs hs2
  split at h
  .rename_i r ez;exact DX.dzip (DXA.tail (q0.m Γ G c g ρ r ez).toT (DXA.head (q1.x Γ G c g ρ y h) hs2) hs) (c.bt _ (by decide)) (c.bt _ (by decide)) hg hgz hs0 hs hs2
  .cases h
theorem Tr.dix:∀{X:Cx}{a' b':Ex}{a b:au}{p:aR}(hs:Yo b),Tr X a' (.e a)->Tr X b' (.e b)->Tr X (.dix a' b') (.e (.Subscript a b p)):=by
 intro _ _ _ _ _ _ hs q0 q1;refine⟨λΓ G=>?_,λ_ _ _ _ _ _ h=>nomatch h⟩;have iha:=q0.m Γ G;have ihb:=q1.m Γ G;intro c g ρ r h;simp only[jlz,Lw]at h;split at h
 .rename_i x y ex ey;split at h
  .rename_i kvs k ek eky;cases e:Qy kvs k with
   |none=>rw[e]at h;cases h
   |some n=>rw[e]at h;cases h;exact DE.dix (ek▸(iha c g ρ x ex).toT) (eky▸(ihb c g ρ y ey).toT) e hs
  .cases h
 .cases h
theorem Tr.enum:∀{X:Cx}{a':Ex}{a:au}{es:List au}{n:Nat}{p p2 pt:aR}(hg:Gl X "enumerate") (hs:aj [a] X.env=[(ae,aD a X.env)]),Tr X a' (.e a)->Tr X (.enum a') (.i (.Tuple es n pt) (.Call (.Name "enumerate" p) [a] [] p2)):=by
 intro _ _ _ _ _ _ _ _ hg hs q0;refine⟨λΓ G=>?_,λ_ _ _ _ _ _ _=>trivial⟩;have iha:=q0.m Γ G;intro c g ρ ds h;simp only[jjh,Dm]at h;split at h
 .rename_i x ex;have ha:=iha c g ρ x ex;split at h
  .rename_i l e1;cases h;exact DI.enum af (ha.toE e1) (c.bt _ (by decide)) hg hs
  .rename_i l e1;cases h;exact DI.enum ae (ha.toE e1) (c.bt _ (by decide)) hg hs
  .cases h
 .cases h
theorem Tr.isi1:∀{X:Cx}{a':Ex}{a:au}{T:aq}{c:String}{p p1 p2:aR}(hT:T∈Vx) (hv:bh T=aa (.type c)) (hg:Gl X "isinstance") (hg2:Gl X T) (hn:T ≠ "__name__") (hd:(T==k7x)=ae) (hs:aj [a,.Name T p1] X.env=(ae,aD a X.env)::aj [.Name T p1] X.env),Tr X a' (.e a)->Tr X (.isi a' [c]) (.e (.Call (.Name "isinstance" p) [a,.Name T p1] [] p2)):=by
 intro _ _ _ _ _ _ _ _ hT hv hg hg2 hn hd hs q0;refine⟨λΓ G=>?_,λ_ _ _ _ _ _ h=>nomatch h⟩;have iha:=q0.m Γ G;intro c g ρ r h;simp only[jbw,Li]at h;split at h
 .rename_i x ex;cases e:qp x.d _ with
  |none=>rw[e]at h;cases h
  |some k =>
   rw[e]at h;cases h;refine DE.isi1 (iha c g ρ x ex).toT (j2q e) (c.bt _ (by decide)) (c.bt _ hT) hv ?_ hg hg2 hn hd hs rfl rfl;simp only[qp]at e;split at e
   .rename_i k1 k2 e1 e2;cases e2;cases e;rw[gJ];exact j2i e1
   .cases e
 .cases h
theorem Tr.isi2:∀{X:Cx}{a':Ex}{a:au}{T U:aq}{c d:String}{n:Nat}{p p1 p2 p3 p4:aR} (hT:T∈Vx) (hU:U∈Vx) (hv:bh T=aa (.type c)) (hw:bh U=aa (.type d)) (hg:Gl X "isinstance") (hg1:Gl X T) (hg2:Gl X U) (hn:T ≠ "__name__") (hd:(T==k7x)=ae) (hn2:U ≠ "__name__") (hd2:(U==k7x)=ae) (hs:aj [a,.Tuple [.Name T p1,.Name U p3] n p4] X.env=(ae,aD a X.env)::aj [.Tuple [.Name T p1,.Name U p3] n p4] X.env),Tr X a' (.e a)->Tr X (.isi a' [c,d]) (.e (.Call (.Name "isinstance" p) [a,.Tuple [.Name T p1,.Name U p3] n p4] [] p2)):=by
 intro _ _ _ _ _ _ _ _ _ _ _ _ _ hT hU hv hw hg hg1 hg2 hn hd hn2 hd2 hs q0;refine⟨λΓ G=>?_,λ_ _ _ _ _ _ h=>nomatch h⟩;have iha:=q0.m Γ G;intro c g ρ r h;simp only[jbw,Li]at h;split at h
 .rename_i x ex;cases e:qp x.d _ with
  |none=>rw[e]at h;cases h
  |some k =>rw[e]at h;cases h;exact DE.isi2 (iha c g ρ x ex).toT (j2q e) (c.bt _ (by decide)) (c.bt _ hT) (c.bt _ hU) hv hw (j0p e) hg hg1 hg2 hn hd hn2 hd2 hs rfl rfl rfl rfl
 .cases h
theorem Tr.c0:∀{X:Cx},Tr X .nil (.c []):=by intro _;refine⟨λΓ G=>?_,λ_ _ _ _ _ _ _=>trivial⟩;intro c g ρ;exact⟨λ_=>DTs.nil,λy k h=>by simp only[Rv]at h;cases h⟩
theorem Tr.c1:∀{X:Cx}{c':Ex}{c:au},Tr X c' (.b c)->Tr X (.cons c' .nil) (.c [c]):=by
 intro _ _ _ q0;refine⟨λΓ G=>?_,λ_ _ _ _ _ _ _=>trivial⟩;have iha:=q0.m Γ G;intro c g ρ;refine⟨λh=>?_,λy k h hk=>DTs.one ?_⟩
 .simp only[Wc,Rv,consW]at h;split at h<;>cases h
 .simp only[Wc,Rv,consW]at h;split at h
  .rename_i x xs ex exs;cases exs;cases h;exact iha c g ρ k (by rw[ex];simp only[truth,hk])
  .cases h
theorem Tr.comp1:∀{X:Cx}{i:Nat}{y:aq}{py p:aR}{elt' it' c':Ex}{elt it:au}{ifs:List au} {scope:bC} (hq:X.calm=af) (hi:X.N[i]?=aa y) (hl:Uc scope y=af) (hkind:scope.kind=.function) (hok:Q8 scope X.env X.N [i]=af) (hs:∀x,aV it X.env x=pure x),Tr X it' (.i (.Name y py) it)->(∀C s H fp pn,Tr (cCx X scope C s H fp pn) elt' (.e elt))->(∀C s H fp pn,Tr (cCx X scope C s H fp pn) c' (.c ifs))->Tr X (.comp [i] elt' it' c') (.e (.ListComp elt [⟨.Name y py,it,ifs,0⟩] scope p)):=by
 intro _ _ _ _ _ _ _ _ _ _ _ _ hq hi hl hkind hok hs q0 q1 q2;refine⟨λΓ G=>?_,λ_ _ _ _ _ _ h=>nomatch h⟩;have ihi:=q0.m Γ G;have ihe:=λC s H fp pn=>(q1 C s H fp pn).m Γ G;have ihc:=λC s H fp pn=>(q2 C s H fp pn).m Γ G;intro c g ρ r h;obtain⟨l,e,q⟩:=Dq hq c (λρ ds z=>ihi c g ρ ds z) hkind hok hs (λρ d ρ2 hb hun=>by
  simp only[v7]at hb
  cases hb
  have hu:=hun _ (X4.mpr rfl)
  exact⟨_,jq,Wk.set hu,Vj hu,λC s H fp pn=>DG.name _ c.nd hi (O7 hl) (Nu hl)⟩)
  (λC s H fp pn ρ r z=>ihe C s H fp pn c.comp g.comp ρ r z) (λC s H fp pn ρ=>ihc C s H fp pn c.comp g.comp ρ) h
 subst e;exact q
theorem Tr.comp2:∀{X:Cx}{i j:Nat}{x y:aq}{px py pt p:aR}{n:Nat}{elt' it' c':Ex}{elt it:au} {ifs:List au} {scope:bC} (hq:X.calm=af) (hij:i≠j) (hi:X.N[i]?=aa x) (hj:X.N[j]?=aa y) (hl:Uc scope x=af) (hl':Uc scope y=af) (hkind:scope.kind=.function) (hok:Q8 scope X.env X.N [i,j]=af) (hs:∀x,aV it X.env x=pure x),Tr X it' (.i (.Tuple [.Name x px,.Name y py] n pt) it)->(∀C s H fp pn,Tr (cCx X scope C s H fp pn) elt' (.e elt))->(∀C s H fp pn,Tr (cCx X scope C s H fp pn) c' (.c ifs))->Tr X (.comp [i,j] elt' it' c') (.e (.ListComp elt [⟨.Tuple [.Name x px,.Name y py] n pt,it,ifs,0⟩] scope p)):=by
 intro _ i j _ _ _ _ _ _ _ _ _ _ _ _ _ _ hq hij hi hj hl hl' hkind hok hs q0 q1 q2;refine⟨λΓ G=>?_,λ_ _ _ _ _ _ h=>nomatch h⟩;have ihi:=q0.m Γ G;have ihe:=λC s H fp pn=>(q1 C s H fp pn).m Γ G;have ihc:=λC s H fp pn=>(q2 C s H fp pn).m Γ G;intro c g ρ r h;obtain⟨l,e,q⟩:=Dq hq c (λρ ds z=>ihi c g ρ ds z) hkind hok hs (λρ d ρ2 hb hun=>by
  simp only[v7]at hb
  split at hb
  .rename_i a b
   cases hb
   have hu:=hun _ (xj ..)
   have hu':=hun _ (xf _ (X4.mpr rfl))
   have h1:(ρ.set i (.val a))[j]?=aa Sl.un:=by rw[v9 hij];exact hu'
   exact⟨(ρ.set i (.val a)).set j (.val b),by rw[jq,jq];rfl,λK σ H R=>Wk.set hu K σ H (Wk.set h1 K σ H R),by rw[Vj h1,Vj hu],
    λC s H fp pn=>DG.pair _ _ hij c.nd hi hj (O7 hl) (O7 hl') (Nu hl) (Nu hl') hq⟩
  .cases hb)
  (λC s H fp pn ρ r z=>ihe C s H fp pn c.comp g.comp ρ r z) (λC s H fp pn ρ=>ihc C s H fp pn c.comp g.comp ρ) h
 subst e;exact q
theorem Tr.seq:∀{X:Cx}{a':Ex}{tg a:au},Tr X a' (.e a)->Tr X (.seq a') (.i tg a):=by
 intro _ _ _ _ q0;refine⟨λΓ G=>?_,λ_ _ _ _ _ _ _=>trivial⟩;have iha:=q0.m Γ G;intro c g ρ ds h;simp only[jlt,M5]at h;split at h
 .rename_i l e;cases h;exact DI.lst (iha c g ρ _ e)
 .rename_i l e;cases h;exact DI.tup (iha c g ρ _ e)
 .rename_i l e;cases h;exact DI.lst (DO.toE (iha c g ρ _ e))
 .rename_i y e;obtain⟨z,q⟩:=qi h;cases q;exact DI.str (iha c g ρ _ e).toT z
 .cases h
theorem Tr.range:∀{X:Cx}{es':Ex}{tg:au}{es:List au}{p p2:aR}(hg:Gl X "range"),Tr X es' (.a es)->Tr X (.range es') (.i tg (.Call (.Name "range" p) es [] p2)):=by
 intro _ _ _ _ _ _ hg q0;refine⟨λΓ G=>?_,λ_ _ _ _ _ _ _=>trivial⟩;have iha:=q0.m Γ G;intro c g ρ ds h;simp only[jf3,Ma]at h;split at h
 .rename_i x ex;have q:=iha c g ρ _ ex;cases q with|cons hs hx t =>
  cases t;split at h
  .rename_i n en;obtain⟨z,q⟩:=qi h;cases q;exact DI.range1 (en▸hx.toT) (c.bt _ (by decide)) z.1 z.2 hg hs
  .cases h
 .rename_i x y ex;have q:=iha c g ρ _ ex;cases q with|cons hs hx t =>
  cases t with|cons hs2 hy t2 =>
  cases t2;split at h
  .rename_i m n em en;obtain⟨z,q⟩:=qi h;cases q;exact DI.range2 (em▸hx.toT) (en▸hy.toT) (c.bt _ (by decide)) z.1 z.2.1 z.2.2.1 z.2.2.2 hg (by rw[hs,hs2];rfl) hs2 hs
  .cases h
 .cases h
theorem Tr.zip:∀{X:Cx}{a' b':Ex}{a b:au}{es:List au}{n:Nat}{p p2 pt:aR}(hg:Gl X "zip") (hs:aj [a,b] X.env=(ae,aD a X.env)::aj [b] X.env) (hs2:aj [b] X.env=(ae,aD b X.env)::aj [] X.env),Tr X a' (.e a)->Tr X b' (.e b)->Tr X (.zip a' b') (.i (.Tuple es n pt) (.Call (.Name "zip" p) [a,b] [] p2)):=by
 intro _ _ _ _ _ _ _ _ _ _ hg hs hs2 q0 q1;refine⟨λΓ G=>?_,λ_ _ _ _ _ _ _=>trivial⟩;have iha:=q0.m Γ G;have ihb:=q1.m Γ G;intro c g ρ ds h;simp only[jlq,Eo]at h;split at h
 .rename_i x y ex ey;have ha:=iha c g ρ x ex;have hb:=ihb c g ρ y ey;have pl:∀{p2:aR},(aQ p2 (aj [_] _)).any (·.1)=ae:=λ{p2}=>by rw[hs2];rfl
  split at h
  .rename_i l m e1 e2;cases h;exact DI.zip af af (ha.toE e1) (hb.toE e2) (c.bt _ (by decide)) hg hs hs2 pl
  .rename_i l m e1 e2;cases h;exact DI.zip af ae (ha.toE e1) (hb.toE e2) (c.bt _ (by decide)) hg hs hs2 pl
  .rename_i l m e1 e2;cases h;exact DI.zip ae af (ha.toE e1) (hb.toE e2) (c.bt _ (by decide)) hg hs hs2 pl
  .rename_i l m e1 e2;cases h;exact DI.zip ae ae (ha.toE e1) (hb.toE e2) (c.bt _ (by decide)) hg hs hs2 pl
  .cases h
 .cases h
theorem Tr.p0:∀{X:Cx},Tr X .nil (.p []):=by intro _;refine⟨λΓ G=>?_,λ_ _ _ _ _ _ _=>trivial⟩;intro c g ρ rs h;simp only[Rv]at h;cases h;trivial
theorem Tr.pC:∀{X:Cx}{y:aq}{n:Nat}{p:aR}{b':Ex}{es:List au},Tr X b' (.p es)->Tr X (.cons (.lit (.str y)) b') (.p (.Constant (.str y) n p::es)):=by
 intro _ _ _ _ _ _ q0;refine⟨λΓ G=>?_,λ_ _ _ _ _ _ _=>trivial⟩;have ihb:=q0.m Γ G;intro c g ρ rs h;simp only[Wc,Em,consW]at h;split at h
 .rename_i x xs ex exs;cases h;cases ex;refine⟨λz hz=>?_,ihb c g ρ xs exs⟩;have hz:(if _ then aa _ else ah)=aa z:=hz;split at hz
  .cases hz;exact DE.str
  .cases hz
 .cases h
theorem Tr.pR:∀{X:Cx}{a' b':Ex}{a:au}{p:aR}{es:List au},Tr X a' (.e a)->Tr X b' (.p es)->Tr X (.cons (.rpr a') b') (.p (.FormattedValue a 114 ah p::es)):=by
 intro _ a' b' _ _ _ q0 q1;refine⟨λΓ G=>?_,λ_ _ _ _ _ _ _=>trivial⟩;have iha:=q0.m Γ G;have ihb:=q1.m Γ G;intro c g ρ rs h;rw[ev]at h;unfold consW at h;split at h
 .rename_i x xs ex exs;cases h;obtain⟨z,w,ez,ew,hl,rfl⟩:=jfz ex;refine⟨λy hy=>?_,ihb c g ρ xs exs⟩;have hy:(if (bZ w).length<=10000 then aa (bZ w)else ah)=aa y:=hy;rw[if_pos (Xg hl (by decide))]at hy;cases hy;exact DE.fmtR (ew▸(iha c g ρ z ez).toT) (Xg hl (by decide))
 .cases h
theorem Tr.pF:∀{X:Cx}{a' b':Ex}{a:au}{p:aR}{es:List au},Tr X a' (.e a)->Tr X b' (.p es)->Tr X (.cons a' b') (.p (.FormattedValue a (-1) ah p::es)):=by
 intro _ _ _ _ _ _ q0 q1;refine⟨λΓ G=>?_,λ_ _ _ _ _ _ _=>trivial⟩;have iha:=q0.m Γ G;have ihb:=q1.m Γ G;intro c g ρ rs h;simp only[Wc,consW]at h;split at h
 .rename_i x xs ex exs;cases h;exact⟨λy hy=>DE.fmt (iha c g ρ x ex).toT hy,ihb c g ρ xs exs⟩
 .cases h
theorem Tr.fst:∀{X:Cx}{es':Ex}{a b:au}{es:List au}{p:aR},Tr X es' (.p (a::b::es))->Tr X (.fst es') (.e (.JoinedStr (a::b::es) p)):=by
 intro _ _ _ _ _ _ q0;refine⟨λΓ G=>?_,λ_ _ _ _ _ _ h=>nomatch h⟩;have ih:=q0.m Γ G;intro c g ρ r h;simp only[jly,Mv]at h;split at h
 .rename_i rs ers;split at h
  .rename_i hl;cases e:Jf rs with
   |none=>rw[e]at h;cases h
   |some ys =>rw[e]at h;cases h;obtain⟨z1,z2⟩:=(ih c g ρ rs ers).all e;exact DE.joined z1 (Oz e) (by rw[z2];exact hl)
  .cases h
 .cases h
section
variable{Γ:aq->List D->Rc}{G:aq->Option D}{X:Cx}
theorem sound{t:Ex}{nd:Nd}(h:Tr X t nd):Cok X G->Gok X Γ->jjq Γ G X t nd:=h.m Γ G
theorem j03{t:Ex}{nd:Nd}(h:Tr X t nd):Cok X G->Gok X Γ->∀ρ y,er Γ G t (j8 ρ)=aa y->XM X ρ y nd:=h.x Γ G
end
inductive Px where
 |nop
 |set (i:Nat) (e:Ex) (r:Px)
 |keep (i:Nat) (r:Px)
 |ifRet (c e:Ex) (r:Px)
 |ifRai (c:Ex) (x:aq) (m:Ex) (r:Px)
 |ifCal (c:Ex) (f:aq) (es:Ex) (r:Px)
 |ret (e:Ex)
 |take (i:Nat) (r:Px)
 |takeE (r:Px)
 |takeIf (i:Nat) (c e:Ex) (r:Px)
 |callS (i:Nat) (f:aq) (es:Ex) (r:Px)
 |appC (i:Nat) (f:aq) (es:Ex) (r:Px)
 |whlA (y:aq) (b r:Px)
 |ifAll (x:aq) (m:Ex) (r:Px)
inductive Sx where
 |nop
 |seq (a b:Sx)
 |set (i:Nat) (e:Ex)
 |mov (i j:Nat)
 |expr (e:Ex)
 |ret (e:Ex)
 |retV (i:Nat)
 |ife (c:Ex) (a b:Sx)
 |loop (is:List Nat) (it:Ex) (body:Sx)
 |app (i:Nat) (e:Ex)
 |ext (i:Nat) (e:Ex)
 |fgt (i:Nat)
 |keep (i:Nat)
 |dcp (i j:Nat) (k e:Ex)
 |taken (h q:Nat) (a b c t:Ex)
 |unp (i j:Nat) (e:Ex)
 |dmake (x t y:Nat) (it e:Ex)
 |ioN (es e:Ex)
 |retL (x:aq) (is:List Nat)
 |retC (f x:aq) (a b:Ex) (is:List Nat)
 |nmake (x t y:Nat) (it e1 e2:Ex)
 |pop3 (i j k w:Nat)
 |apop (i w:Nat) (e:Ex)
 |wmake (x t:Nat) (it e:Ex)
 |lent (h:Nat) (ea eb:Ex) (mid b:Sx)
 |lend (k p f:Nat) (b r:Sx)
 |px (p:Px)
 |newP (pi:Nat) (te:Ex) (p:Px)
 |raise (x:aq) (e:Ex)
 |fail
inductive So where
 |next (ρ:En)
 |ret (r:Rc)
 |brk (ρ:En)
 |cnt (ρ:En)
 |err (x:aq) (ρ:En)
 |no
noncomputable def orE(o:So)(x:Option aq)(ρ:En):So:=match o with
 |.no=>match x with
  |some y=>.err y ρ
  |none=>.no
 |o=>o
noncomputable def J1(f:D->En->So):List D->En->So
 |[],ρ=>.next ρ
 |d::ds,ρ=>match f d ρ with
  |.next ρ'=>J1 f ds ρ'
  |.cnt ρ'=>J1 f ds ρ'
  |.brk ρ'=>.next ρ'
  |.ret r=>.ret r
  |.err x ρ'=>.err x ρ'
  |.no=>.no
noncomputable def j4s(c:En->Option Bool)(f:En->So):Nat->En->So
 |0,_=>.no
 |n+1,ρ=>match c ρ with
  |some ae=>.next ρ
  |some af=>match f ρ with
   |.next ρ'=>j4s c f n ρ'
   |.cnt ρ'=>j4s c f n ρ'
   |.brk ρ'=>.next ρ'
   |.ret r=>.ret r
   |.err x ρ'=>.err x ρ'
   |.no=>.no
  |none=>.no
noncomputable def stOf:Option W->Option D
 |some (.v x)=>x.st
 |_=>ah
noncomputable def j49(f:En->Option D)(t y:Nat):List D->En->List (List Int)->List D->Option (List (List Int)×List D)
 |[],_,ks,vs=>aa (ks,vs)
 |d::ds,ρ,ks,vs=>match d with
  |.tup l=>match intsOf l,f (ρ.set t (.val d)) with
   |some k,aa d'=>if d'.isNon=af then j49 f t y ds ((ρ.set t (.val d)).set y (.val d')) ks vs
    else if ks.contains k=ae/\ks.length<av then j49 f t y ds ((ρ.set t (.val d)).set y (.val d')) (ks++[k]) (vs++[d'])else ah
   |_,_=>ah
  |_=>ah
noncomputable def jbc(f1 f2:En->Option D)(x t y:Nat):List D->En->List (List Int)->List Int->Option (List (List Int)×List Int)
 |[],_,ks,ns=>aa (ks,ns)
 |d::ds,ρ,ks,ns=>match d with
  |.tup l=>match intsOf l,f1 (ρ.set t (.val d)) with
   |some k,aa d1=>match f2 (((ρ.set t (.val d)).set y (.val d1)).set x (.val (.dct ks (ns.map D.int)))) with
    |some (.int n)=>if ks.contains k=ae/\ks.length<av then jbc f1 f2 x t y ds ((ρ.set t (.val d)).set y (.val d1)) (ks++[k]) (ns++[n])else ah
    |_=>ah
   |_,_=>ah
  |_=>ah
noncomputable def jb0(f2:En->Option D)(x t:Nat):List D->En->List (List Int)->List Int->Option (List (List Int)×List Int)
 |[],_,ks,ns=>aa (ks,ns)
 |d::ds,ρ,ks,ns=>match d with
  |.tup l=>match intsOf l,f2 ((ρ.set t (.val d)).set x (.val (.dct ks (ns.map D.int)))) with
   |some k,aa (.int n)=>if ks.contains k=ae/\ks.length<av then jb0 f2 x t ds (ρ.set t (.val d)) (ks++[k]) (ns++[n])else ah
   |_,_=>ah
  |_=>ah
noncomputable def Er(ρ:En):List Nat->Option (List D)
 |[]=>aa []
 |i::is=>match ρ[i]?,Er ρ is with
  |some (.val d),aa ds=>aa (d::ds)
  |_,_=>ah
noncomputable def Bp(i:Nat)(w:Option W)(ρ:En):So:=match w with
 |some (.v (.o l))=>.next (ρ.set i (.own l))
 |some (.v x)=>match x.st with
  |some d=>.next (ρ.set i (.val d))
  |none=>.no
 |_=>.no
noncomputable def retS(w:Option W):So:=match w with
 |some (.v (.o l))=>.ret (.fresh l)
 |some (.v x)=>.ret (.val x.d)
 |_=>.no
noncomputable def Oa(s:Option Sv):So:=match s with
 |some (.own l)=>.ret (.fresh l)
 |some (.val d)=>.ret (.val d)
 |_=>.no
noncomputable def La(i j:Nat)(s:Option Sv)(ρ:En):So:=match s with
 |some (.own l)=>if i=j then .no else .next ((ρ.set j .un).set i (.own l))
 |some (.val d)=>.next (ρ.set i (.val d))
 |_=>.no
noncomputable def j0y(w:Option W)(ρ:En):So:=match w with
 |some (.v _)=>.next ρ
 |_=>.no
noncomputable def K1(i:Nat)(s:Option Sv)(w:Option W)(ρ:En):So:=match s,w with
 |some (.own l),aa (.v x)=>match x.st with
  |some d=>if l.length<av then .next (ρ.set i (.own (l++[d])))else .no
  |none=>.no
 |_,_=>.no
noncomputable def Lr(i:Nat)(s:Option Sv)(w:Option W)(ρ:En):So:=match s,w with
 |some (.own l),aa (.v (.o m))=>if jm (l.length+m.length)=af then .next (ρ.set i (.own (l++m)))else .no
 |_,_=>.no
noncomputable def j8m(x:aq)(w:Option W)(d:Option D)(ρ:En):So:=match w,d with
 |some (.v _),aa _=>.err x ρ
 |_,_=>.no
noncomputable def Dz(i j:Nat)(d:Option D)(ρ:En):So:=match d with
 |some (.tup [d,d'])=>if i=j then .no else .next ((ρ.set i (.val d)).set j (.val d'))
 |_=>.no
noncomputable def jl0(i:Nat)(v:Option Sv)(ρ:En):So:=match v with
 |some (.own l)=>.next (ρ.set i (.val (.lst l)))
 |some (.val _)=>.next ρ
 |_=>.no
noncomputable def jne(i j:Nat)(v:Option Sv)(k e:Option W)(ρ:En):So:=if i≠j/\i<ρ.length then match v with
  |some (.val (.sct kvs))=>match k,e with
   |some (.v y),aa (.v x)=>match y.d,x.d with
    |.str z,.int n=>if kvs.length<av then .next (ρ.set i (.val (.sct (dput kvs z n))))else .no
    |_,_=>.no
   |_,_=>.no
  |_=>.no
 else .no
noncomputable def jk9(x:aq)(v:Option (List D)):So:=match v with
 |some ds=>.ret (.val (.fn x ds))
 |none=>.no
noncomputable def jkb(r:Rc):So:=match r with
 |.val d=>if noFn d=af then .ret (.val d)else .no
 |_=>.no
noncomputable def jka(Γ:aq->List D->Rc)(f x:aq)(v:Option (List D))(a b:Option W):So:=match v,a,b with
 |some ds,aa (.v u),aa (.v v)=>jkb (Γ f [u.d,v.d,.fn x ds])
 |_,_,_=>.no
noncomputable def popS(i j k w:Nat)(s:Option Sv)(ρ:En):So:=match s with
 |some (.own l)=>match l.getLast? with
  |some (.tup [a,b,c])=>.next ((((ρ.set w (.own l.dropLast)).set i (.val a)).set j (.val b)).set k (.val c))
  |_=>.no
 |_=>.no
noncomputable def Ov(i w:Nat)(s t:Option Sv)(x:Option W)(ρ:En):So:=match s,t,x with
 |some (.own l),aa (.own m),aa (.v y)=>match y.st with
  |some (.int z)=>match ixN m.length z with
   |some k=>match m[k]? with
    |some d=>if i≠w/\l.length<av/\m.length<=1000000 then .next ((ρ.set w (.own (m.eraseIdx k))).set i (.own (l++[d])))else .no
    |none=>.no
   |none=>.no
  |_=>.no
 |_,_,_=>.no
noncomputable def Rr:Sx->List Nat
 |.seq a b=>Rr a++Rr b
 |.set i _=>[i]
 |.ife _ a b=>Rr a++Rr b
 |_=>[]
noncomputable def M7(Γ:aq->List D->Rc)(G:aq->Option D):Sx->En->Option En
 |.nop,ρ=>aa ρ
 |.seq a b,ρ=>match M7 Γ G a ρ with
  |some r=>M7 Γ G b r
  |none=>ah
 |.set i e,ρ=>match stOf (ev Γ G e ρ) with
  |some d=>aa (ρ.set i (.val d))
  |none=>ah
 |.ife c a b,ρ=>match truth (ev Γ G c ρ) with
  |some af=>M7 Γ G a ρ
  |some ae=>M7 Γ G b ρ
  |none=>ah
 |_,_=>ah
noncomputable def plainS:Sv->Bool
 |.val _=>af
 |.un=>af
 |_=>ae
noncomputable def jbf(s:Option Sv)(t:Bool):Sv:=match s with
 |some (.val d)=>if t=af then(if Jk d=af then .val d else .un)else .val d
 |_=>.un
noncomputable def jkv(h:Nat)(is:List Nat)(ρ r:En):En:=(aB ρ.length).map λj=>if j=h then .un else if j∈is then jbf r[j]? af else jbf ρ[j]? ae
noncomputable def jku(h:Nat)(is:List Nat)(ρ:En)(a:Option D)(b:Option W)(m:En->Option En)(k:En->So):So:=match a,b with
 |some d0,aa (.v (.o lb))=>match m (ρ.set h (.val (.lst [d0,.lst lb]))) with
  |some r=>if h<ρ.length/\h∉is/\r.length=ρ.length/\r.all plainS=af then k (jkv h is ρ r)else .no
  |none=>.no
 |_,_=>.no
noncomputable def jbe(m:D->En->Option En):List D->En->Option En
 |[],ρ=>aa ρ
 |d::ds,ρ=>match m d ρ with
  |some ρ'=>jbe m ds ρ'
  |none=>ah
noncomputable def bindM(is:List Nat)(m:En->Option En)(d:D)(ρ:En):Option En:=match v7 is d ρ with
 |some ρ2=>m ρ2
 |none=>ah
noncomputable def jkw(k p f:Nat)(is:List Nat)(s:Option Sv)(ρ:En)(m:D->En->Option En)(r:En->So):So:=match s with
 |some (.own l)=>if qw l=af/\f∉is/\f≠k/\f≠p then match jbe m (Jv l) ρ with
   |some ρ'=>r (ρ'.set f (.own []))
   |none=>.no
  else .no
 |_=>.no
inductive Sm where
 |next (ρ:En) (k:Nat)
 |ret (d:D) (k:Nat)
 |err (x:aq) (ρ:En)
 |no
noncomputable def Zm(f g:En->Nat->Sm)(y:aq)(ls:List aq):Nat->En->Nat->Sm
 |0,_,_=>.no
 |n+1,ρ,k=>if ls.getD k "" = y then g ρ k else match f ρ k with
  |.next ρ' k'=>Zm f g y ls n ρ' k'
  |.ret d k'=>.ret d k'
  |.err x ρ'=>.err x ρ'
  |.no=>.no
noncomputable def Ye(Γ:aq->List D->Rc)(ls:List aq)(f:aq)(a:Option W)(k:Nat):Rc:=match a with
 |some (.a rs)=>match vy rs with
  |some ds=>Γ (mq f) (.lst (ls.map D.str)::.int (k:Int)::ds)
  |none=>.no
 |_=>.no
noncomputable def j3b(i:Nat)(w:Option W)(ρ:En)(r:En->Sm):Sm:=match w with
 |some (.v (.o l))=>r (ρ.set i (.own l))
 |some (.v x)=>match x.st with
  |some d=>r (ρ.set i (.val d))
  |none=>.no
 |_=>.no
noncomputable def jl1(i:Nat)(s:Option Sv)(ρ:En)(r:En->Sm):Sm:=match s with
 |some (.own l)=>r (ρ.set i (.val (.lst l)))
 |some (.val _)=>r ρ
 |_=>.no
noncomputable def Cv(w:Option W)(k:Nat):Sm:=match w with
 |some (.v (.o _))=>.no
 |some (.v x)=>.ret x.d k
 |_=>.no
noncomputable def Wn(x:aq)(w:Option W)(d:Option D)(ρ:En):Sm:=match w,d with
 |some (.v _),aa _=>.err x ρ
 |_,_=>.no
noncomputable def ifP(c:Option Bool)(a b:Sm):Sm:=match c with
 |some af=>a
 |some ae=>b
 |none=>.no
noncomputable def Rm(G:aq->Option D)(r:Rc)(ρ:En)(f:D->Nat->Sm):Sm:=match r with
 |.mval d k=>f d k
 |.merr x=>if (G (bang x)).isSome=af then .err x ρ else .no
 |_=>.no
noncomputable def j4j(i:Nat)(s:Option Sv)(ρ:En)(d:D)(r:En->Sm):Sm:=match s with
 |some (.own l)=>if l.length<av then r (ρ.set i (.own (l++[d])))else .no
 |_=>.no
noncomputable def j3o(s:Option Sv)(r:Sm):Sm:=match s with
 |some (.own _)=>r
 |_=>.no
noncomputable def j32(i:Nat)(d:Option D)(ρ:En)(r:En->Sm):Sm:=match d with
 |some d=>r (ρ.set i (.val d))
 |none=>.no
noncomputable def jd(fu:Nat)(Γ:aq->List D->Rc)(G:aq->Option D)(ls:List aq):Px->En->Nat->Sm
 |.nop,ρ,k=>.next ρ k
 |.set i e r,ρ,k=>j3b i (ev Γ G e ρ) ρ λρ=>jd fu Γ G ls r ρ k
 |.keep i r,ρ,k=>jl1 i ρ[i]? ρ λρ=>jd fu Γ G ls r ρ k
 |.ifRet c e r,ρ,k=>ifP (truth (ev Γ G c ρ)) (Cv (ev Γ G e ρ) k) (jd fu Γ G ls r ρ k)
 |.ifRai c x m r,ρ,k=>ifP (truth (ev Γ G c ρ)) (Wn x (ev Γ G m ρ) (G (bang x)) ρ) (jd fu Γ G ls r ρ k)
 |.ifCal c f es r,ρ,k=>ifP (truth (ev Γ G c ρ)) (Rm G (Ye Γ ls f (ev Γ G es ρ) k) ρ Sm.ret) (jd fu Γ G ls r ρ k)
 |.ret e,ρ,k=>Cv (ev Γ G e ρ) k
 |.take i r,ρ,k=>jd fu Γ G ls r (ρ.set i (.val (.str (ls.getD k "")))) (k+1)
 |.takeE r,ρ,k=>jd fu Γ G ls r ρ (k+1)
 |.takeIf i c e r,ρ,k=>ifP (truth (ev Γ G c ρ)) (jd fu Γ G ls r (ρ.set i (.val (.str (ls.getD k "")))) (k+1)) (j32 i (stOf (ev Γ G e ρ)) ρ λρ=>jd fu Γ G ls r ρ k)
 |.callS i f es r,ρ,k=>Rm G (Ye Γ ls f (ev Γ G es ρ) k) ρ λd k'=>jd fu Γ G ls r (ρ.set i (.val d)) k'
 |.appC i f es r,ρ,k=>j3o ρ[i]? (Rm G (Ye Γ ls f (ev Γ G es ρ) k) ρ λd k'=>j4j i ρ[i]? ρ d λρ=>jd fu Γ G ls r ρ k')
 |.whlA y b r,ρ,k=>Zm (λρ k=>jd fu Γ G ls b ρ k) (λρ k=>jd fu Γ G ls r ρ k) y ls fu ρ k
 |.ifAll x m r,ρ,k=>if ls.length<=k then jd fu Γ G ls r ρ k else Wn x (ev Γ G m ρ) (G (bang x)) ρ
noncomputable def pxS(l k:Option Sv)(r:List aq->Nat->Sm):So:=match l,k with
 |some (.val (.lst l)),aa (.val (.int k))=>match strsOf l with
  |some ls=>if 0<=k then match r ls k.toNat with
    |.ret d k'=>.ret (.mval d k')
    |.err x _=>.ret (.merr x)
    |_=>.no
   else .no
  |none=>.no
 |_,_=>.no
noncomputable def newS(b:Bool)(w:Option W)(g:Option D)(r:List aq->Sm):So:=match b,w,g with
 |true,aa (.v x),aa _=>match x.d with
  |.str t=>if t.length<=100000/\jm (aK t " ").length=af then match r (aK t " ") with
    |.next ρ' _=>.next ρ'
    |.ret d _=>.ret (.val d)
    |.err x ρ'=>.err x ρ'
    |.no=>.no
   else .no
  |_=>.no
 |_,_,_=>.no
noncomputable def run(fu:Nat)(Γ:aq->List D->Rc)(G:aq->Option D):Sx->En->So
 |.nop,ρ=>.next ρ
 |.seq a b,ρ=>match run fu Γ G a ρ with
  |.next ρ'=>run fu Γ G b ρ'
  |o=>o
 |.set i e,ρ=>orE (Bp i (ev Γ G e ρ) ρ) (er Γ G e ρ) ρ
 |.mov i j,ρ=>La i j ρ[j]? ρ
 |.expr e,ρ=>orE (j0y (ev Γ G e ρ) ρ) (er Γ G e ρ) ρ
 |.ret e,ρ=>orE (retS (ev Γ G e ρ)) (er Γ G e ρ) ρ
 |.retV i,ρ=>Oa ρ[i]?
 |.ife c a b,ρ=>match truth (ev Γ G c ρ) with
  |some af=>run fu Γ G a ρ
  |some ae=>run fu Γ G b ρ
  |none=>.no
 |.loop is it body,ρ=>match ev Γ G it (frz it ρ) with
  |some (.i ds)=>J1 (λd ρ=>match v7 is d ρ with
   |some ρ2=>run fu Γ G body ρ2
   |none=>.no) ds (frz it ρ)
  |_=>.no
 |.app i e,ρ=>K1 i ρ[i]? (ev Γ G e ρ) ρ
 |.ext i e,ρ=>Lr i ρ[i]? (ev Γ G e ρ) ρ
 |.fgt i,ρ=>.next (ρ.set i .un)
 |.keep i,ρ=>jl0 i ρ[i]? ρ
 |.px p,ρ=>pxS ρ[0]? ρ[1]? λls k=>jd fu Γ G ls p (.exc rfN::ρ.drop 2) k
 |.newP pi te p,ρ=>newS (decide (pi<ρ.length)) (ev Γ G te ρ) (G (qm "Pieces")) λls=>jd fu Γ G ls p (ρ.set pi (.exc rfN)) 0
 |.lend k p f b r,ρ=>jkw k p f (Rr b) ρ[f]? ρ (bindM [k,p] (M7 Γ G b)) (run fu Γ G r)
 |.lent h ea eb mid b,ρ=>jku h (Rr mid) ρ (stOf (ev Γ G ea ρ)) (ev Γ G eb ρ) (M7 Γ G mid) (run fu Γ G b)
 |.dcp i j k e,ρ=>jne i j ρ[j]? (ev Γ G k (ρ.set i .un)) (ev Γ G e (ρ.set i .un)) ρ
 |.taken h q a b e t,ρ=>if h≠q/\h<ρ.length then match ev Γ G a ρ,ev Γ G b ρ with
   |some (.v (.o la)),aa (.v (.o lb))=>match ev Γ G e (ρ.set h (.val (.lst [.lst la,.lst lb]))) with
    |some (.v x)=>match x.st with
     |some d=>if Jk d=af/\truth (ev Γ G t ((ρ.set h (.val (.lst [.lst la,.lst lb]))).set q (.val d)))=aa ae then .next ((ρ.set h (.val (.lst [.lst la.reverse,.lst []]))).set q (.val d))else .no
     |none=>.no
    |_=>.no
   |_,_=>.no
  else .no
 |.unp i j e,ρ=>Dz i j (stOf (ev Γ G e ρ)) ρ
 |.dmake x t y it e,ρ=>if x<ρ.length/\t<ρ.length/\y<ρ.length/\x≠t/\x≠y/\t≠y then match ev Γ G it (ρ.set x .un) with
   |some (.i ds)=>match j49 (λρ=>stOf (ev Γ G e ρ)) t y ds (ρ.set x .un) [] [] with
    |some r=>.ret (.val (.dct r.1 r.2))
    |none=>.no
   |_=>.no
  else .no
 |.ioN es e,ρ=>match G (qm "_law_plan"),ev Γ G es ρ,ev Γ G e ρ with
  |some _,aa (.a [x,y,z]),aa (.v (.o [.int n]))=>match x.d,y.d,z.d with
   |.lst ls,.int eN,.int k=>match strsOf ls with
    |some ws=>if 0<=k/\k<=5/\ws.length<=60 then .ret (.val (Uh k.toNat ws eN n).1)else .no
    |none=>.no
   |_,_,_=>.no
  |_,_,_=>.no
 |.retL x is,ρ=>jk9 x (Er ρ is)
 |.retC f x a b is,ρ=>jka Γ f x (Er ρ is) (ev Γ G a ρ) (ev Γ G b ρ)
 |.nmake x t y it e1 e2,ρ=>if x<ρ.length/\t<ρ.length/\y<ρ.length/\x≠t/\x≠y/\t≠y then match ev Γ G it (ρ.set x .un) with
   |some (.i ds)=>match jbc (λρ=>stOf (ev Γ G e1 ρ)) (λρ=>stOf (ev Γ G e2 ρ)) x t y ds (ρ.set x .un) [] [] with
    |some r=>.ret (.val (.dct r.1 (r.2.map D.int)))
    |none=>.no
   |_=>.no
  else .no
 |.wmake x t it e,ρ=>if x<ρ.length/\t<ρ.length/\x≠t then match ev Γ G it (ρ.set x .un) with
   |some (.i ds)=>match jb0 (λρ=>stOf (ev Γ G e ρ)) x t ds (ρ.set x .un) [] [] with
    |some r=>.ret (.val (.dct r.1 (r.2.map D.int)))
    |none=>.no
   |_=>.no
  else .no
 |.apop i w e,ρ=>Ov i w ρ[i]? ρ[w]? (ev Γ G e ρ) ρ
 |.pop3 i j k w,ρ=>popS i j k w ρ[w]? ρ
 |.raise x e,ρ=>j8m x (ev Γ G e ρ) (G (bang x)) ρ
 |.fail,_=>.no
section
variable{Γ:aq->List D->Rc}{G:aq->Option D}{ρ:En}{fu:Nat}
theorem jc0{a b}:run fu Γ G (.seq a b) ρ=(match run fu Γ G a ρ with
  |.next ρ'=>run fu Γ G b ρ'
  |o=>o):=(rfl)
theorem jbz{i e}:run fu Γ G (.set i e) ρ=(orE (Bp i (ev Γ G e ρ) ρ) (er Γ G e ρ) ρ):=(rfl)
theorem jm3{i j}:run fu Γ G (.mov i j) ρ=(La i j ρ[j]? ρ):=(rfl)
theorem jjo{e}:run fu Γ G (.expr e) ρ=(orE (j0y (ev Γ G e ρ) ρ) (er Γ G e ρ) ρ):=(rfl)
theorem jc1{e}:run fu Γ G (.ret e) ρ=(orE (retS (ev Γ G e ρ)) (er Γ G e ρ) ρ):=(rfl)
theorem jjl{i}:run fu Γ G (.retV i) ρ=(Oa ρ[i]?):=(rfl)
theorem jm4{c a b}:run fu Γ G (.ife c a b) ρ=(match truth (ev Γ G c ρ) with
  |some af=>run fu Γ G a ρ
  |some ae=>run fu Γ G b ρ
  |none=>.no):=(rfl)
theorem jjn{is it body}:run fu Γ G (.loop is it body) ρ=(match ev Γ G it (frz it ρ) with
  |some (.i ds)=>J1 (λd ρ=>match v7 is d ρ with
   |some ρ2=>run fu Γ G body ρ2
   |none=>.no) ds (frz it ρ)
  |_=>.no):=(rfl)
theorem jm7{i e}:run fu Γ G (.app i e) ρ=(K1 i ρ[i]? (ev Γ G e ρ) ρ):=(rfl)
theorem jm6{i e}:run fu Γ G (.ext i e) ρ=(Lr i ρ[i]? (ev Γ G e ρ) ρ):=(rfl)
theorem jm5{i}:run fu Γ G (.fgt i) ρ=(.next (ρ.set i .un)):=(rfl)
theorem jjm {pi te p}:run fu Γ G (.newP pi te p) ρ=(newS (decide (pi<ρ.length)) (ev Γ G te ρ) (G (qm "Pieces")) λls=>jd fu Γ G ls p (ρ.set pi (.exc rfN)) 0):=(rfl)
theorem jm2{i j e}:run fu Γ G (.unp i j e) ρ=(Dz i j (stOf (ev Γ G e ρ)) ρ):=(rfl)
theorem jjp{i w e}:run fu Γ G (.apop i w e) ρ=(Ov i w ρ[i]? ρ[w]? (ev Γ G e ρ) ρ):=(rfl)
theorem jf4{x e}:run fu Γ G (.raise x e) ρ=(j8m x (ev Γ G e ρ) (G (bang x)) ρ):=(rfl)
end
def jnm(X:Cx):List (aq×ao)->List Nat->Prop
 |[],is=>is=[]
 |p::cl,is=>∃(i:Nat)(r:List Nat),is=i::r/\X.N[i]?=aa p.1/\X.env.scope.names.lookup p.1=aa .cell/\X.env.cells.lookup p.1=aa p.2/\X.fn p.1=af/\jnm X cl r
inductive Ns where
 |s (st:aS)
 |ss (sts:List aS)
def TMs(X:Cx)(b:Sx)(ss:List aS):Prop:=∀(Γ:aq->List D->Rc)(G:aq->Option D),Cok X G->Gok X Γ->∀(ρ:Rho)(r:En),M7 Γ G b (j8 ρ)=aa r->∃ρ',j8 ρ'=r/\DMs X ρ ρ' (Rr b) ss/\Kp ρ ρ' (Rr b)
def TMt(X:Cx)(b:Sx)(full tl:List aS):Prop:=∀(Γ:aq->List D->Rc)(G:aq->Option D),Cok X G->Gok X Γ->∀(ρ:Rho)(r:En),M7 Γ G b (j8 ρ)=aa r->∃ρ',j8 ρ'=r/\DMt X ρ ρ' (Rr b) full tl
def V6(pi:Nat)(o:Ob)(s:Sm)(P:Pm):Prop:=match s with
 |.next ρ' k=>∀ρ2,j8 ρ2=ρ'->(∃ob,ρ2[pi]?=aa (.raw o.a ob rfN))->P.nx ρ2 k
 |.ret d k=>P.rt d k
 |.err x ρ'=>∀ρ2,j8 ρ2=ρ'->P.ex x ρ2
 |.no=>False
def MP(X:Cx)(pi:Nat)(p:Px)(sts:List aS):Prop:=∀(fu:Nat)(Γ:aq->List D->Rc)(G:aq->Option D),Cok X G->Gok X Γ->∀C,X.mg "Pieces" = aa (.ref C)->PcX X C->∀(o:Ob)(ls:List aq)(ρ:Rho)(k:Nat)(P:Pm),
 (∃ob,ρ[pi]?=aa (.raw o.a ob rfN))->V6 pi o (jd fu Γ G ls p (j8 ρ) k) P->MSs X C o ls ρ k sts P
noncomputable def Rt.rc:Rt->Rc
 |.val d=>.val d
 |.fresh l=>.fresh l
def Ur(o:So)(P:Po):Prop:=match o with
 |.next ρ'=>∀ρ2,j8 ρ2=ρ'->P.nx ρ2
 |.ret r=>∀x:Rt,x.rc=r->P.rt x
 |.brk ρ'=>∀ρ2,j8 ρ2=ρ'->P.bk ρ2
 |.cnt ρ'=>∀ρ2,j8 ρ2=ρ'->P.ct ρ2
 |.err x ρ'=>∀ρ2,j8 ρ2=ρ'->P.ex x ρ2
 |.no=>False
theorem Ud{o:So}{x:Option aq}{ρ:En}{P:Po}(h:Ur (orE o x ρ) P):Ur o P\/∃y,x=aa y/\∀ρ2,j8 ρ2=ρ->P.ex y ρ2:=by
 cases o with
 |no =>
  cases x with
  |none=>exact h.elim
  |some y=>exact .inr ⟨y,rfl,h⟩
 |_=>exact .inl h
def jc2(fu:Nat)(Γ:aq->List D->Rc)(G:aq->Option D)(X:Cx)(t:Sx):Ns->Prop
 |.s st=>∀ρ P,Ur (run fu Γ G t (j8 ρ)) P->DS X ρ st P
 |.ss sts=>∀ρ P,Ur (run fu Γ G t (j8 ρ)) P->DSs X ρ sts P
section
variable{K:k7t}{ρ:Rho}{σ:St}{H:Hp}{i j:Nat}{a:ao}{l:List D}
theorem Rep.move(R:Rep K ρ σ H)(hj:ρ[j]?=aa (.own a l))(hij:i≠j):Rep K ((ρ.set j .un).set i (.own a l)) (σ.set i (aa (.ref a))) H:=by
 have s1:(owns (ρ.set j .un)).Sublist (owns ρ):=jh rfl;have na:a∉owns (ρ.set j .un):=λz=>by
  obtain⟨k,l',q⟩:=Vk z;rcases getElem?_set_of q with ⟨_,z,_⟩|⟨n,q⟩
  .cases z
  .exact n (Yv R.nd hj q)
 obtain⟨nd,sub⟩:=Q0 (ds:=l) (i:=i) (s1.nodup R.nd) na;have g:j4 (del H (owns ρ)) (del H (owns ((ρ.set j .un).set i (.own a l)))):=vd λb hb=>by
  rcases sub b hb with e|z
  .exact e▸Jr hj
  .exact s1.subset z
 refine⟨by simp[R.len],λk d' h=>?_,λk b ds' h=>?_,nd,λk b o x h=>?_,R.tb⟩
 .rcases getElem?_set_of h with ⟨rfl,z,_⟩|⟨n,h⟩
  .cases z
  .rcases getElem?_set_of h with ⟨rfl,z,_⟩|⟨n2,h⟩
   .cases z
   .obtain⟨u,q,e⟩:=R.val k d' h;exact⟨u,by rw[v9 n];exact q,e.mono g⟩
 .rcases getElem?_set_of h with ⟨rfl,z,hl⟩|⟨n,h⟩
  .cases z;obtain⟨_,xs,hx,en⟩:=R.own j a l hj;exact⟨Yr (by rw[R.len];simpa using hl),xs,hx,en.mono g⟩
  .rcases getElem?_set_of h with ⟨rfl,z,_⟩|⟨n2,h⟩
   .cases z
   .obtain⟨q,xs,hx,en⟩:=R.own k b ds' h;exact⟨by rw[v9 n];exact q,xs,hx,en.mono g⟩
 .rcases getElem?_set_of h with ⟨rfl,z,_⟩|⟨n,h⟩
  .cases z
  .rcases getElem?_set_of h with ⟨rfl,z,_⟩|⟨n2,h⟩
   .cases z
   .obtain⟨q,h⟩:=R.raw k b o x h;exact⟨by rw[v9 n];exact q,h.mono g⟩
end
section
variable{X:Cx}{ρ:Rho}{e a b c:au}{es:List au}{st:aS}{rest sa sb body:List aS}{P:Po}{d:D}{ds ds':List D}{pos p p1 p2 p3:aR}{x y:aq}{i j:Nat}
theorem DS.freeze(i:Nat){l:ao}(h:ρ[i]?=aa (.own l ds))(h2:DS X (ρ.set i (.val (.lst ds))) st P):DS X ρ st P:=λσ H E R q =>h2 σ H E (R.freeze h) (q.step (.drop λb hb=>(jh rfl).subset hb))
theorem DS.mov{l:ao}(hk:ρ[j]?=aa (.own l ds))(hij:i≠j)(h:P.nx ((ρ.set j .un).set i (.own l ds)))(hN:X.N.Nodup)(hi:X.N[i]?=aa x)(hj:X.N[j]?=aa y)(hx:Loc X.env.scope x)
  (hf:X.fn x=af\/X.env.scope.names.lookup x=aa .local) (hv:Vis X.env.scope y) (hd:(y==k7x)=ae) (hcd:(y==k7y)=ae):DS X ρ (.Assign [.Name x p] (.Name y p1) pos) P:=λσ H E R q=>by
 obtain⟨hs,xs,m,en⟩:=R.own j l ds hk;refine(Z2 hN hi hx (qz hj hv hd hcd) rfl hf).to ⟨_,hs,q.nx _ _ H h (R.move hk hij) (.drop λb hb=>?_)⟩;have s1:(owns (ρ.set j .un)).Sublist (owns ρ):=jh rfl;have na:l∉owns (ρ.set j .un):=λz=>by
  obtain⟨k,l',q⟩:=Vk z;rcases getElem?_set_of q with ⟨_,z,_⟩|⟨n,q⟩
  .cases z
  .exact n (Yv R.nd hk q)
 rcases(Q0 (ds:=ds) (i:=i) (s1.nodup R.nd) na).2 b hb with z|z
 .exact z▸Jr hk
 .exact s1.subset z
theorem DS.setCf{ρf:Rho}{tg elt iter:au}{ifs:List au}{scope:bC}{spos:aR}(i:Nat)(cs:List Nat)(pr:D->Bool)(g:D->D)(hfr:∀K σ H,Rep K ρ σ H->Rep K ρf σ H)(hno:ρf=ρ\/qw ((ds.filter pr).map g)=af)(hi:DI X ρf tg iter ds)
  (hb:∀C s H fp pn,∀d∈ds,∃ρ2,DG (cCx X scope C s H fp pn) ρf tg d ρ2/\Wk ρ2 ρf/\owns ρ2=owns ρf/\DTs (cCx X scope C s H fp pn) ρ2 ifs (pr d)/\(pr d=af->DE (cCx X scope C s H fp pn) ρ2 elt (g d)))
  (h:∀l,P.nx (ρ.set i (.own l ((ds.filter pr).map g)))) (hN:X.N.Nodup) (hcs:∀j∈cs,ρf[j]?=aa .un) (hsz:ds.length<=av) (hX:X.N[i]?=aa x) (hx:Loc X.env.scope x)
  (hf:X.fn x=af\/X.env.scope.names.lookup x=aa .local)
  (hsw:aM (.ListComp elt [⟨tg,iter,ifs,0⟩] scope pos) (aa (.Name x p1)) spos.line X.env=pure af)
  (hc:X.calm=af) (hkind:scope.kind=.function) (hok:Q8 scope X.env X.N cs=af)
  (hs:∀x,aV iter X.env x=pure x):DS X ρ (.Assign [.Name x p1] (.ListComp elt [⟨tg,iter,ifs,0⟩] scope pos) spos) P:=λσ H E R q pins s I=>by
 have Rf:=hfr _ _ _ R;rw[exec_Assign_Name_used _ _ _ _ hsw];refine ai (ie (ai ?_));show ay _ X.A (do let _ <-comprehension (.ListComp elt [⟨tg,iter,ifs,0⟩] scope pos) scope X.env _ (newList []) ae (aD iter X.env) (aa (eV (.Name x p1) X.env))) _ _ s;refine ai (bS (ig (use:=aa (eV (.Name x p1) X.env)) (Q:=λ_ s'=>SP X pins E .next s') rfl hs (Ds (Bl hok)) hkind (O3 hok)
  (thn (hi σ H (λJ H'=>j4 H H'/\Uw X.K (del H' (owns ρf)) J ds) Rf (λJ H' g1 ok=>⟨g1,ok⟩) pins s I) λv s1 h1=>thn h1 λitv s2 h2=>?_)) (λ_ s' hq=>aw (aw hq)) λ_ _ e=>e)
 obtain⟨it,fp,tn,J,H2,e,I2,T,st2,f2,g2,ok⟩:=h2;subst e;refine Ky (RR:=λacc C=>compPost (aC X.prog X.w) X.A X.xe (aa (eV (.Name x p1) X.env)) (λ_ s'=>SP X pins E .next s') acc C) I2 (Rf.grow g2) T st2 f2 ok hc hkind hok hcs hsz hb ?_;intro D C xs H' s' m I' gg n m' en hm L;show ay _ X.A (eV (.Name x p1) X.env (.ref D)) _ _ _;refine kr (Ka I' hN hX hx (v:=.ref D) rfl (λs'' I'' ⟨a,sb,ha⟩=>?_) hf);have hCa:C≠a:=by
  rcases ha with e|e
  .rw[e];exact L.loc
  .exact dW (L.cell x a e)
 have en':j6 X.K (del H' (D::owns ρ)) ((ds.filter pr).map g) xs:=by
  rcases hno with e|e
  .rw[e]at en;exact en
  .exact(en.mono jk).hide (λc hc=>by
    rcases xn.mp hc with z|z
    .rw[z];exact .inl ⟨xs,m'⟩
    .exact .inl ((R.grow (g2.trans gg)).owned c z)) e
 refine⟨m,hm.sameBut sb hCa,λh' sb'=>⟨σ.set i (aa (.ref D)),H',I''.loose L sb',?_⟩⟩;exact q.nx _ _ H' (h D) (R.set_own (g2.trans gg) (g2.free n) m' en') (Fr0.new R (g2.trans gg) (g2.free n))
end
section
variable{fu:Nat}{Γ:aq->List D->Rc}{G:aq->Option D}{X:Cx}{P:Po}
theorem bind1{i:Nat}{y:aq}{p:aR}(nd:X.N.Nodup)(hi:X.N[i]?=aa y)(hx:Loc X.env.scope y)(hf:X.fn y=af\/X.env.scope.names.lookup y=aa .local) :
  ∀ρ d ρ2,v7 [i] d (j8 ρ)=aa ρ2->∃ρ',j8 ρ'=ρ2/\DG X ρ (.Name y p) d ρ':=λρ d ρ2 h=>by
 simp only[v7]at h;cases h;exact⟨_,jq,DG.name _ nd hi hx hf⟩
theorem jlo{i j:Nat}{x y:aq}{n:Nat}{p q pt:aR}(hc:X.calm=af)(hij:i≠j)(nd:X.N.Nodup)(hi:X.N[i]?=aa x)(hj:X.N[j]?=aa y)(hx:Loc X.env.scope x)(hy:Loc X.env.scope y)
  (hf:X.fn x=af\/X.env.scope.names.lookup x=aa .local) (hg:X.fn y=af\/X.env.scope.names.lookup y=aa .local) :
  ∀ρ d ρ2,v7 [i,j] d (j8 ρ)=aa ρ2->∃ρ',j8 ρ'=ρ2/\DG X ρ (.Tuple [.Name x p,.Name y q] n pt) d ρ':=λρ d ρ2 h=>by
 simp only[v7]at h;split at h
 .rename_i a b;cases h;exact⟨(ρ.set i (.val a)).set j (.val b),by rw[jq,jq];rfl,DG.pair _ _ hij nd hi hj hx hy hf hg hc⟩
 .cases h
theorem DS.setX{e:au}{x y:aq}{i:Nat}{p pos:aR}{ρ:Rho}(he:DX X ρ e y)(h:P.ex y ρ)(hN:X.N.Nodup)(hi:X.N[i]?=aa x)(hx:Loc X.env.scope x)(hs:aM e (aa (.Name x p)) pos.line X.env=pure ae)(hf:X.fn x=af\/X.env.scope.names.lookup x=aa .local) :
  DS X ρ (.Assign [.Name x p] e pos) P:=λσ H E R q=>(Z2 hN hi hx peS hs hf).to (he σ H _ R (q.ex y ρ σ H h R (Fr0.refl _ _)))
theorem DS.exprX{e:au}{y:aq}{pos:aR}{ρ:Rho}(he:DX X ρ e y)(h:P.ex y ρ)(hs:aM e ah pos.line X.env=pure ae):DS X ρ (.Expr e pos) P:=λσ H E R q =>(Zg peS hs).to (he σ H _ R (q.ex y ρ σ H h R (Fr0.refl _ _)))
theorem DS.retX{e:au}{y:aq}{pos:aR}{ρ:Rho}(he:DX X ρ e y)(h:P.ex y ρ):DS X ρ (.Return (aa e) pos) P:=λσ H E R q =>(Z3 peS).to (he σ H _ R (q.ex y ρ σ H h R (Fr0.refl _ _)))
theorem Ft{is:List Nat}{it':Ex}{b:Sx}{it tg:au}{body:List aS}{pos:aR}{ρ:Rho}(hq:X.calm=af)(c:Cok X G)(hs:∀x,aV it X.env x=pure x)
  (hb:∀ρ d ρ2,v7 is d (j8 ρ)=aa ρ2->∃ρ',j8 ρ'=ρ2/\DG X ρ tg d ρ') (hi:∀ρ ds,ev Γ G it' (j8 ρ)=aa (.i ds)->DI X ρ tg it ds)
  (ih:∀ρ P,Ur (run fu Γ G b (j8 ρ)) P->DSs X ρ body P) (h:Ur (run fu Γ G (.loop is it' b) (j8 ρ)) P):DS X ρ (.For tg it body [] pos) P:=by
 have main:∀ρf:Rho,j8 ρf=frz it' (j8 ρ)->DS X ρf (.For tg it body [] pos) P:=λρf ef=>by
  rw[jjn]at h;rw[<-ef]at h;split at h
  .rename_i ds hds;generalize hf:(λd ρ=>_:D->En->So)=f at h;refine DS.for (ds:=ds) (λi ρ'=>Ur (J1 f (ds.drop i) (j8 ρ')) P) (hi ρf ds hds) (by rw[cQ];exact h) (λi d ρ' hd w=>?_) (λρ' w=>?_) hq c.po hs
   .have hdr:ds.drop i=d::ds.drop (i+1):=by obtain⟨hlt,e⟩:=Xf.mp hd;rw[List.drop_eq_getElem_cons hlt,e]
    rw[hdr,J1]at w;have ef2:f d (j8 ρ')=match v7 is d (j8 ρ')with|some ρ2=>run fu Γ G b ρ2|none=>.no:=by rw[<-hf]<;>rfl
    rw[ef2]at w;cases hb2:v7 is d (j8 ρ') with
    |none=>rw[hb2]at w;exact w.elim
    |some ρ2 =>
     rw[hb2]at w;obtain⟨ρ3,e3,dg⟩:=hb ρ' d ρ2 hb2;refine⟨ρ3,dg,ih ρ3 _ ?_⟩;rw[e3];dsimp only at w;cases ho:run fu Γ G b ρ2 with
     |next ρ4=>rw[ho]at w;exact λρ5 e=>by rw[<-e]at w;exact w
     |cnt ρ4=>rw[ho]at w;exact λρ5 e=>by rw[<-e]at w;exact w
     |brk ρ4=>rw[ho]at w;exact w
     |ret r=>rw[ho]at w;exact w
     |err x ρ4=>rw[ho]at w;exact w
     |no=>rw[ho]at w;exact w
   .rw[List.drop_length,J1]at w;exact w ρ' rfl
  .exact h.elim
 by_cases z:Jo it' (j8 ρ)=af
 .unfold Jo at z;split at z
  .rename_i i ei;split at z
   .rename_i l e;obtain⟨a,q⟩:=Jt e;refine DS.freeze i q (main _ ?_);rw[jq];simp only[frz,ei,e,Sl.abs]
   .cases z
  .cases z
 .have z':Jo it' (j8 ρ)=ae:=by simpa using z
  refine main ρ ?_;unfold frz;split
  .rename_i i ei;split
   .rename_i l e;simp only[Jo,ei,e]at z';cases z'
   .rfl
  .rfl
theorem j3c{is:List Nat}{elt' it' c':Ex}{elt it tg:au}{ifs:List au}{scope:bC}{p p1 pos:aR}{k:Nat}{z:aq}{ρ:Rho}(hq:X.calm=af)(hX:Cok X G)
  (hk:X.N[k]?=aa z) (hx:Loc X.env.scope z) (hf:X.fn z=af\/X.env.scope.names.lookup z=aa .local)
  (hsw:aM (.ListComp elt [⟨tg,it,ifs,0⟩] scope p) (aa (.Name z p1)) pos.line X.env=pure af)
  (hit:∀ρ ds,ev Γ G it' (j8 ρ)=aa (.i ds)->DI X ρ tg it ds) (hkind:scope.kind=.function) (hok:Q8 scope X.env X.N is=af) (hs:∀x,aV it X.env x=pure x)
  (hb:∀ρ d ρ2,v7 is d (j8 ρ)=aa ρ2->(∀j∈is,ρ[j]?=aa .un)->∃ρ',j8 ρ'=ρ2/\Wk ρ' ρ/\owns ρ'=owns ρ/\∀C s H fp pn,DG (cCx X scope C s H fp pn) ρ tg d ρ')
  (he:∀C s H fp pn ρ r,ev Γ G elt' (j8 ρ)=aa (.v r)->Has (cCx X scope C s H fp pn) ρ elt r)
  (hc:∀C s H fp pn ρ,(ev Γ G c' (j8 ρ)=aa (.a [])->DTs (cCx X scope C s H fp pn) ρ ifs af)/\∀y k,ev Γ G c' (j8 ρ)=aa (.a [y])->y.d=.bl k->DTs (cCx X scope C s H fp pn) ρ ifs k)
  (h:Ur (run fu Γ G (.set k (.comp is elt' it' c')) (j8 ρ)) P):DS X ρ (.Assign [.Name z p1] (.ListComp elt [⟨tg,it,ifs,0⟩] scope p) pos) P:=by
 rw[jbz]at h;unfold Bp at h;have h:=(Ud h).resolve_right λ⟨y,ey,_⟩=>by simp only[er]at ey;cases ey
 cases e:ev Γ G (.comp is elt' it' c') (j8 ρ) with
 |none=>rw[e]at h;exact h.elim
 |some w =>
  rw[e]at h;cases w with
  |a _=>exact h.elim
  |i _=>exact h.elim
  |v r =>
   obtain⟨l,ρf,ds,pr,g,er,el,hfz,hi,hun,hz,hb'⟩:=Bk hit hb he hc e;subst er;refine DS.setCf (ρf:=ρf) k is pr g ?_ ?_ hi hb' (λa=>?_) hX.nd hun hz hk hx hf hsw hq hkind hok hs
   .rcases hfz with e|⟨_,i,a,l',q,e⟩
    .subst e;exact λ_ _ _ R=>R
    .subst e;exact λ_ _ _ R=>R.freeze q
   .rcases hfz with e|⟨n,_⟩
    .exact .inl e
    .exact .inr (el▸n)
   .rw[<-el];exact h _ jq
theorem j2a{w:Option W}{d:D}(h:stOf w=aa d):∃z,w=aa (.v z)/\z.st=aa d:=by
 unfold stOf at h;split at h
 .exact⟨_,rfl,h⟩
 .cases h
end
structure Ts(X:Cx)(t:Sx)(nd:Ns):Prop where
 m:∀(fu:Nat)(Γ:aq->List D->Rc)(G:aq->Option D),Cok X G->Gok X Γ->jc2 fu Γ G X t nd
theorem Ts.nil:∀{X:Cx},Ts X .nop (.ss []):=by intro _;refine⟨λfu Γ G=>?_⟩;intro c g ρ P h;exact DSs.nil (h ρ rfl)
theorem Ts.cons:∀{X:Cx}{a b:Sx}{st:aS}{rest:List aS},Ts X a (.s st)->Ts X b (.ss rest)->Ts X (.seq a b) (.ss (st::rest)):=by
 intro _ _ _ _ _ q0 q1;refine⟨λfu Γ G=>?_⟩;have iha:=q0.m fu Γ G;have ihb:=q1.m fu Γ G;intro c g ρ P h;rw[jc0]at h;split at h
 .rename_i ρ' e;exact DSs.cons (N:=λρ1=>j8 ρ1=ρ') (iha c g ρ _ (by rw[e];exact λρ2 z=>z)) λρ1 z=>ihb c g ρ1 P (by rw[z];exact h)
 .rename_i o hn;refine DSs.cons (N:=λ_=>False) (iha c g ρ _ ?_) λ_ z=>z.elim;cases e:run fu Γ G _ (j8 ρ) with
  |next ρ'=>exact absurd e (hn ρ')
  |ret r=>rw[e]at h;exact h
  |err x r=>rw[e]at h;exact h
  |brk r=>rw[e]at h;exact h
  |cnt r=>rw[e]at h;exact h
  |no=>rw[e]at h;exact h
theorem Ts.fgt:∀{X:Cx}{i:Nat}{b:Sx}{sts:List aS},Ts X b (.ss sts)->Ts X (.seq (.fgt i) b) (.ss sts):=by intro _ _ _ _ q0;refine⟨λfu Γ G=>?_⟩;have ih:=q0.m fu Γ G;intro c g ρ P h;simp only[jc0,jm5]at h;exact DSs.forget _ (ih c g _ P (by rw[jq];exact h))
theorem Ts.newP:∀{X:Cx}{pi:Nat}{y:aq}{te':Ex}{p:Px}{te:au}{rest:List aS} {py p1 p2 pos:aR} (hg:Gl X "Pieces") (hst:aj [te] X.env=(ae,aD te X.env)::aj [] X.env) (hpl:(aQ p2 (aj [] X.env)).any (·.1)=ae) (hi:X.N[pi]?=aa y) (hx:Loc X.env.scope y) (hs:aM (.Call (.Name "Pieces" p1) [te] [] p2) (aa (.Name y py)) pos.line X.env=pure ae) (hf:X.fn y=af\/X.env.scope.names.lookup y=aa .local),Tr X te' (.e te)->MP X pi p rest->Ts X (.newP pi te' p) (.ss (.Assign [.Name y py] (.Call (.Name "Pieces" p1) [te] [] p2) pos::rest)):=by
 intro _ pi y te' p te rest py p1 p2 pos hg hst hpl hi hx hs hf hte hm;refine⟨λfu Γ G=>?_⟩;intro c g ρ P h;rw[jjm]at h;unfold newS at h;split at h
 .rename_i x d eb ex eg;have hl:pi<ρ.length:=by have:=of_decide_eq_true eb;unfold j8 at this;rw[xg]at this;exact this
  split at h
  .rename_i t et;split at h
   .rename_i hc;obtain⟨C,hC,T⟩:=c.pc d eg;dsimp only at h;refine DSs.make T (et▸(sound hte c g ρ x ex).toT) hc.1 (zc hc.2) hg hst hpl c.nd hi hx hs hf λo=>?_;refine hm fu Γ G c g C hC T o _ _ 0 _ ⟨dOb,Yr hl⟩ ?_;rw[jq];show V6 pi o (jd fu Γ G (aK t " ") p ((j8 ρ).set pi (.exc rfN)) 0) _;cases z:jd fu Γ G (aK t " ") p ((j8 ρ).set pi (.exc rfN)) 0 with
    |next ρ' k=>rw[z]at h;exact λρ2 e _=>h ρ2 e
    |ret d k=>rw[z]at h;exact h (.val d) rfl
    |err x ρ'=>rw[z]at h;exact h
    |no=>rw[z]at h;exact h
   .exact h.elim
  .exact h.elim
 .exact h.elim
theorem Ts.set:∀{X:Cx}{i:Nat}{x:aq}{e':Ex}{e:au}{p pos:aR}(hi:X.N[i]?=aa x) (hx:Loc X.env.scope x) (hs:aM e (aa (.Name x p)) pos.line X.env=pure ae) (hf:X.fn x=af\/X.env.scope.names.lookup x=aa .local),Tr X e' (.e e)->Ts X (.set i e') (.s (.Assign [.Name x p] e pos)):=by
 intro _ _ _ _ _ _ _ hi hx hs hf he;refine⟨λfu Γ G=>?_⟩;intro c g ρ P h;have S:=sound he c g;rw[jbz]at h;unfold Bp at h;rcases Ud h with h|⟨y,ey,hP⟩
 rotate_left
 .exact DS.setX (j03 he c g ρ y ey) (hP ρ rfl) c.nd hi hx hs hf
 split at h
 .rename_i l e;exact DS.setO _ (S ρ _ e) (λa=>h _ jq) c.nd hi hx hs hf
 .rename_i r hn e;split at h
  .rename_i d hd;exact DS.set _ ((S ρ _ e).toE hd) (h _ jq) c.nd hi hx hs hf
  .exact h.elim
 .exact h.elim
theorem Ts.setC1:∀{X:Cx}{k i:Nat}{z y:aq}{py p p1 pos:aR}{elt' it' c':Ex}{elt it:au}{ifs:List au} {scope:bC} (hq:X.calm=af) (hk:X.N[k]?=aa z) (hx:Loc X.env.scope z) (hf:X.fn z=af\/X.env.scope.names.lookup z=aa .local) (hsw:aM (.ListComp elt [⟨.Name y py,it,ifs,0⟩] scope p) (aa (.Name z p1)) pos.line X.env=pure af) (hi:X.N[i]?=aa y) (hl:Uc scope y=af) (hkind:scope.kind=.function) (hok:Q8 scope X.env X.N [i]=af) (hs:∀x,aV it X.env x=pure x),Tr X it' (.i (.Name y py) it)->(∀C s H fp pn,Tr (cCx X scope C s H fp pn) elt' (.e elt))->(∀C s H fp pn,Tr (cCx X scope C s H fp pn) c' (.c ifs))->Ts X (.set k (.comp [i] elt' it' c')) (.s (.Assign [.Name z p1] (.ListComp elt [⟨.Name y py,it,ifs,0⟩] scope p) pos)):=by
 intro _ _ _ _ _ _ _ _ _ _ _ _ _ _ _ _ hq hk hx hf hsw hi hl hkind hok hs hit he hc;refine⟨λfu Γ G=>?_⟩;intro c g ρ P h;exact j3c hq c hk hx hf hsw (λρ ds z=>sound hit c g ρ ds z) hkind hok hs (λρ d ρ2 hb hun=>by
  simp only[v7]at hb
  cases hb
  have hu:=hun _ (X4.mpr rfl)
  exact⟨_,jq,Wk.set hu,Vj hu,λC s H fp pn=>DG.name _ c.nd hi (O7 hl) (Nu hl)⟩)
  (λC s H fp pn ρ r z=>sound (he C s H fp pn) c.comp g.comp ρ r z) (λC s H fp pn ρ=>sound (hc C s H fp pn) c.comp g.comp ρ) h
theorem Ts.mov:∀{X:Cx}{i j:Nat}{x y:aq}{p q pos:aR}(hi:X.N[i]?=aa x) (hj:X.N[j]?=aa y) (hx:Loc X.env.scope x) (hf:X.fn x=af\/X.env.scope.names.lookup x=aa .local) (hv:Vis X.env.scope y) (hd:(y==k7x)=ae) (hcd:(y==k7y)=ae),Ts X (.mov i j) (.s (.Assign [.Name x p] (.Name y q) pos)):=by
 intro _ _ _ _ _ _ _ _ hi hj hx hf hv hd hcd;refine⟨λfu Γ G=>?_⟩;intro c g ρ P h;rw[jm3]at h;unfold La at h;split at h
 .rename_i l e;obtain⟨a,q⟩:=Jt e;split at h
  .exact h.elim
  .rename_i hij;exact DS.mov q hij (h _ (by rw[jq,jq];rfl)) c.nd hi hj hx hf hv hd hcd
 .rename_i d e;exact DS.set _ (DE.var _ (Nh e) hj hv hd hcd) (h _ jq) c.nd hi hx rfl hf
 .exact h.elim
theorem Ts.expr:∀{X:Cx}{e':Ex}{e:au}{pos:aR}(hs:aM e ah pos.line X.env=pure ae),Tr X e' (.e e)->Ts X (.expr e') (.s (.Expr e pos)):=by
 intro _ _ _ _ hs he;refine⟨λfu Γ G=>?_⟩;intro c g ρ P h;rw[jjo]at h;unfold j0y at h;rcases Ud h with h|⟨y,ey,hP⟩
 rotate_left
 .exact DS.exprX (j03 he c g ρ y ey) (hP ρ rfl) hs
 split at h
 .rename_i r e;exact DS.expr (sound he c g ρ r e).toT (h ρ rfl) hs
 .exact h.elim
theorem Ts.ret:∀{X:Cx}{e':Ex}{e:au}{pos:aR},Tr X e' (.e e)->Ts X (.ret e') (.s (.Return (aa e) pos)):=by
 intro _ _ _ _ he;refine⟨λfu Γ G=>?_⟩;intro c g ρ P h;rw[jc1]at h;unfold retS at h;rcases Ud h with h|⟨y,ey,hP⟩
 rotate_left
 .exact DS.retX (j03 he c g ρ y ey) (hP ρ rfl)
 split at h
 .rename_i l e;exact DS.retO (sound he c g ρ _ e) (h _ rfl)
 .rename_i r hn e;exact DS.ret (sound he c g ρ _ e).toT (h _ rfl)
 .exact h.elim
theorem Ts.retV:∀{X:Cx}{i:Nat}{x:aq}{p pos:aR}(hi:X.N[i]?=aa x) (hv:Vis X.env.scope x) (hd:(x==k7x)=ae) (hcd:(x==k7y)=ae),Ts X (.retV i) (.s (.Return (aa (.Name x p)) pos)):=by
 intro _ _ _ _ _ hi hv hd hcd;refine⟨λfu Γ G=>?_⟩;intro c g ρ P h;rw[jjl]at h;unfold Oa at h;split at h
 .rename_i l e;obtain⟨a,q⟩:=Jt e;exact DS.retV _ q (h _ rfl) hi hv hd hcd
 .rename_i d e;exact DS.ret (DE.toT (DE.var _ (Nh e) hi hv hd hcd)) (h _ rfl)
 .exact h.elim
theorem Ts.ife:∀{X:Cx}{c':Ex}{a b:Sx}{c:au}{sa sb:List aS}{pos:aR},Tr X c' (.b c)->Ts X a (.ss sa)->Ts X b (.ss sb)->Ts X (.ife c' a b) (.s (.If c sa sb pos)):=by
 intro _ _ _ _ _ _ _ _ hc q1 q2;refine⟨λfu Γ G=>?_⟩;have iha:=q1.m fu Γ G;have ihb:=q2.m fu Γ G;intro c g ρ P h;rw[jm4]at h;split at h
 .rename_i e;exact DS.if (sound hc c g ρ af e) (λ_=>iha c g ρ P h) λz=>by cases z
 .rename_i e;exact DS.if (sound hc c g ρ ae e) (λz=>by cases z) λ_=>ihb c g ρ P h
 .exact h.elim
theorem Ts.for1:∀{X:Cx}{i:Nat}{y:aq}{it':Ex}{b:Sx}{it:au}{body:List aS} {p pos:aR} (hq:X.calm=af) (hi:X.N[i]?=aa y) (hx:Loc X.env.scope y) (hf:X.fn y=af\/X.env.scope.names.lookup y=aa .local) (hs:∀x,aV it X.env x=pure x),Tr X it' (.i (.Name y p) it)->Ts X b (.ss body)->Ts X (.loop [i] it' b) (.s (.For (.Name y p) it body [] pos)):=by intro _ _ _ _ _ _ _ _ _ hq hi hx hf hs hit q1;refine⟨λfu Γ G=>?_⟩;have ih:=q1.m fu Γ G;intro c g ρ P h;exact Ft hq c hs (bind1 c.nd hi hx hf) (λρ ds z=>sound hit c g ρ ds z) (ih c g) h
theorem Ts.for2:∀{X:Cx}{i j:Nat}{x y:aq}{it':Ex}{b:Sx}{it:au}{body:List aS} {n:Nat} {p q pt pos:aR} (hq:X.calm=af) (hij:i≠j) (hi:X.N[i]?=aa x) (hj:X.N[j]?=aa y) (hx:Loc X.env.scope x) (hy:Loc X.env.scope y) (hf:X.fn x=af\/X.env.scope.names.lookup x=aa .local) (hg:X.fn y=af\/X.env.scope.names.lookup y=aa .local) (hs:∀x,aV it X.env x=pure x),Tr X it' (.i (.Tuple [.Name x p,.Name y q] n pt) it)->Ts X b (.ss body)->Ts X (.loop [i,j] it' b) (.s (.For (.Tuple [.Name x p,.Name y q] n pt) it body [] pos)):=by intro _ _ _ _ _ _ _ _ _ _ _ _ _ _ hq hij hi hj hx hy hf hg hs hit q1;refine⟨λfu Γ G=>?_⟩;have ih:=q1.m fu Γ G;intro c g ρ P h;exact Ft hq c hs (jlo hq hij c.nd hi hj hx hy hf hg) (λρ ds z=>sound hit c g ρ ds z) (ih c g) h
theorem Ts.app:∀{X:Cx}{i:Nat}{x:aq}{e':Ex}{e:au}{p p1 p2 pos:aR}(hN:X.N[i]?=aa x) (hv:Vis X.env.scope x) (hd:(x==k7x)=ae) (hcd:(x==k7y)=ae) (hst:aj [e] X.env=[(ae,aD e X.env)]) (hline:(p1.endLine==p2.line)=af) (hbase:aW (.Name x p) "append" X.env (aD (.Name x p) X.env)=aD (.Name x p) X.env) (hfew:((aQ p2 (aj [e] X.env)).all (λx=>!x.1)&&(bP p2 (b8 [] X.env)).all (λx=>x.1.isSome)&&decide (([e]:List au).length+([]:List b7).length+(if ([]:List b7).isEmpty then 0 else 1)<30))=af),Tr X e' (.e e)->Ts X (.app i e') (.s (.Expr (.Call (.Attribute (.Name x p) "append" p1) [e] [] p2) pos)):=by
 intro _ _ _ _ _ _ _ _ _ hN hv hd hcd hst hline hbase hfew he;refine⟨λfu Γ G=>?_⟩;intro c g ρ P h;rw[jm7]at h;unfold K1 at h;split at h
 .rename_i l x el ex;obtain⟨a,q⟩:=Jt el;split at h
  .rename_i d hd';split at h
   .rename_i hz;exact DS.append _ q ((sound he c g ρ x ex).toE hd') hz (h _ jq) hN hv hd hcd hst hline hbase hfew rfl
   .exact h.elim
  .exact h.elim
 .exact h.elim
theorem Ts.ext:∀{X:Cx}{i:Nat}{x:aq}{e':Ex}{e:au}{p p1 p2 pos:aR}(hN:X.N[i]?=aa x) (hv:Vis X.env.scope x) (hd:(x==k7x)=ae) (hcd:(x==k7y)=ae) (hst:aj [e] X.env=[(ae,aD e X.env)]) (hline:(p1.endLine==p2.line)=af) (hbase:aW (.Name x p) "extend" X.env (aD (.Name x p) X.env)=aD (.Name x p) X.env) (hfew:((aQ p2 (aj [e] X.env)).all (λx=>!x.1)&&(bP p2 (b8 [] X.env)).all (λx=>x.1.isSome)&&decide (([e]:List au).length+([]:List b7).length+(if ([]:List b7).isEmpty then 0 else 1)<30))=af),Tr X e' (.e e)->Ts X (.ext i e') (.s (.Expr (.Call (.Attribute (.Name x p) "extend" p1) [e] [] p2) pos)):=by
 intro _ _ _ _ _ _ _ _ _ hN hv hd hcd hst hline hbase hfew he;refine⟨λfu Γ G=>?_⟩;intro c g ρ P h;rw[jm6]at h;unfold Lr at h;split at h
 .rename_i l m el ex;obtain⟨a,q⟩:=Jt el;split at h
  .rename_i hz;exact DS.extend _ q (sound he c g ρ _ ex) (zc hz) (h _ jq) hN hv hd hcd hst hline hbase hfew rfl
  .exact h.elim
 .exact h.elim
theorem Ts.unp:∀{X:Cx}{i j:Nat}{x y:aq}{e':Ex}{e:au}{px py pt pos:aR}{n:Nat} (hq:X.calm=af) (hi:X.N[i]?=aa x) (hj:X.N[j]?=aa y) (hx:Loc X.env.scope x) (hy:Loc X.env.scope y) (fx:X.fn x=af\/X.env.scope.names.lookup x=aa .local) (fy:X.fn y=af\/X.env.scope.names.lookup y=aa .local) (hs:ij [.Tuple [.Name x px,.Name y py] n pt] e pos.line X.env=pure ae) (hw:ik [.Tuple [.Name x px,.Name y py] n pt] e X.env=pure ah),Tr X e' (.e e)->Ts X (.unp i j e') (.s (.Assign [.Tuple [.Name x px,.Name y py] n pt] e pos)):=by
 intro _ _ _ _ _ _ _ _ _ _ _ _ hq hi hj hx hy fx fy hs hw he;refine⟨λfu Γ G=>?_⟩;intro c g ρ P h;rw[jm2]at h;unfold Dz at h;split at h
 .rename_i d d' ed;split at h
  .exact h.elim
  .rename_i hij;obtain⟨z,ez,ed⟩:=j2a ed;exact DS.unp hij ((sound he c g ρ z ez).toE ed) (h _ (by rw[jq,jq];rfl)) hq c.nd hi hj hx hy fx fy hs hw
 .exact h.elim
theorem Ts.apop:∀{X:Cx}{i w:Nat}{x u:aq}{e':Ex}{e:au}{p1 p2 p3 p4 p5 p6 pos:aR}(hN:X.N[i]?=aa x) (hv:Vis X.env.scope x) (hd:(x==k7x)=ae) (hcd:(x==k7y)=ae) (hN2:X.N[w]?=aa u) (hv2:Vis X.env.scope u) (hd2:(u==k7x)=ae) (hcd2:(u==k7y)=ae) (hst:aj [e] X.env=[(ae,aD e X.env)]) (hst1:aj [.Call (.Attribute (.Name u p4) "pop" p5) [e] [] p6] X.env=[(ae,aD (.Call (.Attribute (.Name u p4) "pop" p5) [e] [] p6) X.env)]) (hline:(p2.endLine==p3.line)=af) (hline2:(p5.endLine==p6.line)=af) (hbase:aW (.Name x p1) "append" X.env (aD (.Name x p1) X.env)=aD (.Name x p1) X.env) (hbase2:aW (.Name u p4) "pop" X.env (aD (.Name u p4) X.env)=aD (.Name u p4) X.env) (hfew:((aQ p3 (aj [.Call (.Attribute (.Name u p4) "pop" p5) [e] [] p6] X.env)).all (λx=>!x.1)&&(bP p3 (b8 [] X.env)).all (λx=>x.1.isSome)&&decide (([.Call (.Attribute (.Name u p4) "pop" p5) [e] [] p6]:List au).length+([]:List b7).length+(if ([]:List b7).isEmpty then 0 else 1)<30))=af) (hfew2:((aQ p6 (aj [e] X.env)).all (λx=>!x.1)&&(bP p6 (b8 [] X.env)).all (λx=>x.1.isSome)&&decide (([e]:List au).length+([]:List b7).length+(if ([]:List b7).isEmpty then 0 else 1)<30))=af) (hs:aM (.Call (.Attribute (.Name x p1) "append" p2) [.Call (.Attribute (.Name u p4) "pop" p5) [e] [] p6] [] p3) ah pos.line X.env=pure ae),Tr X e' (.e e)->Ts X (.apop i w e') (.s (.Expr (.Call (.Attribute (.Name x p1) "append" p2) [.Call (.Attribute (.Name u p4) "pop" p5) [e] [] p6] [] p3) pos)):=by
 intro _ _ _ _ _ _ _ _ _ _ _ _ _ _ hN hv hd hcd hN2 hv2 hd2 hcd2 hst hst1 hline hline2 hbase hbase2 hfew hfew2 hs he;refine⟨λfu Γ G=>?_⟩;intro c g ρ P h;rw[jjp]at h;unfold Ov at h;split at h
 .rename_i l m y el em ey;obtain⟨a,q⟩:=Jt el;obtain⟨b,q2⟩:=Jt em;split at h
  .rename_i z ez;split at h
   .rename_i k ek;split at h
    .rename_i d ed;split at h
     .rename_i hc;exact DS.apop q q2 hc.1 ((sound he c g ρ y ey).toE ez) ek ed hc.2.1 hc.2.2 (h _ (by rw[jq,jq];rfl)) hN hv hd hcd hN2 hv2 hd2 hcd2 hst hst1 hline hline2 hbase hbase2 hfew hfew2 hs
     .exact h.elim
    .exact h.elim
   .exact h.elim
  .exact h.elim
 .exact h.elim
theorem Ts.raise:∀{X:Cx}{x:aq}{e':Ex}{e:au}{np cpos pos:aR}(hq:X.calm=af)(hg:Gl X x) (hdb:(x==k7x)=ae) (hs:aj [e] X.env=[(ae,aD e X.env)]),Tr X e' (.e e)->Ts X (.raise x e') (.s (.Raise (aa (.Call (.Name x np) [e] [] cpos)) ah pos)):=by
 intro _ _ _ _ _ _ _ hq hg hdb hs he;refine⟨λfu Γ G=>?_⟩;intro c g ρ P h;rw[jf4]at h;unfold j8m at h;split at h
 .rename_i r d er eg;obtain⟨hx,o,ho⟩:=c.ec _ _ eg;exact DS.raiseE c.ea hx ho (W.mg_of c.kin c.ns ho) c.kin hq (λσ H R=>(sound he c g ρ r er).toT σ H _ R λv H' g' _=>g') (h ρ rfl) hg hdb hs
 .exact h.elim
section
theorem W2{fu:Nat}{Γ:aq->List D->Rc}{G:aq->Option D}{X:Cx}{t:Sx}{nd:Ns}(h:Ts X t nd):Cok X G->Gok X Γ->jc2 fu Γ G X t nd:=h.m fu Γ G
end
section
variable{X:Cx}{pi i:Nat}{x y f:aq}{c' e' m' es':Ex}{c e m cl:au}{es:List au}{r b:Px}{st:aS}{sa rest:List aS}{p py p1 p2 p3 p4 p5 pos:aR}{ρ:Rho}{o:Ob}
theorem Ys{s:Sl}(h:∃ob,ρ[pi]?=aa (.raw o.a ob rfN))(hip:i≠pi):∃ob,(ρ.set i s)[pi]?=aa (.raw o.a ob rfN):=let ⟨ob,h⟩:=h;⟨ob,by rw[v9 hip];exact h⟩
theorem MP.nop:MP X pi .nop []:=λfu Γ G c g C hC T o ls ρ k P hp h=>MSs.nil (h ρ rfl hp)
theorem MP.set(hip:i≠pi)(hi:X.N[i]?=aa x)(hx:Loc X.env.scope x)(hs:aM e (aa (.Name x p)) pos.line X.env=pure ae)(hf:X.fn x=af\/X.env.scope.names.lookup x=aa .local)(he:Tr X e' (.e e))(hr:MP X pi r rest) :
  MP X pi (.set i e' r) (.Assign [.Name x p] e pos::rest):=λfu Γ G c g C hC T o ls ρ k P hp h=>by
 rw[jd]at h;unfold j3b at h;split at h
 .rename_i l el;refine MSs.plain (N:=λρ1=>∃a,ρ1=ρ.set i (.own a l)) (DS.setO i (sound he c g ρ (.o l) el) (λa=>⟨a,rfl⟩) c.nd hi hx hs hf) λρ1 ⟨a,e1⟩=>?_;subst e1;exact hr fu Γ G c g C hC T o ls _ k P (Ys hp hip) (by rw[jq];exact h)
 .rename_i w x' hn el;split at h
  .rename_i d ed;refine MSs.plain (N:=(· = ρ.set i (.val d))) (DS.set i ((sound he c g ρ x' el).toE ed) rfl c.nd hi hx hs hf) λρ1 e1=>?_;subst e1;exact hr fu Γ G c g C hC T o ls _ k P (Ys hp hip) (by rw[jq];exact h)
  .exact h.elim
 .exact h.elim
theorem MP.ret_ms{Γ:aq->List D->Rc}{G:aq->Option D}{C:ao}{ls:List aq}{k:Nat}{P:Pm}(he:Tr X e' (.e e))(c:Cok X G)(g:Gok X Γ)(h:V6 pi o (Cv (ev Γ G e' (j8 ρ)) k) P):MSs X C o ls ρ k (.Return (aa e) pos::rest) P:=by
 unfold Cv at h;split at h
 .exact h.elim
 .rename_i w x' hn el;exact MSs.plain (N:=λ_=>False) (DS.ret (sound he c g ρ x' el).toT ⟨_,rfl,h⟩) λ_ z=>z.elim
 .exact h.elim
theorem MP.ret(he:Tr X e' (.e e)):MP X pi (.ret e') (.Return (aa e) pos::rest):=λfu Γ G c g C hC T o ls ρ k P hp h=>by rw[jd]at h;exact MP.ret_ms (pi:=pi) he c g h
theorem MP.rai_ms {Γ:aq->List D->Rc} {G:aq->Option D} {C:ao} {ls:List aq} {k:Nat} {P:Pm} {np cpos:aR} (hq:X.calm=af) (hg:Gl X x) (hdb:(x==k7x)=ae) (hs:aj [m] X.env=[(ae,aD m X.env)]) (he:Tr X m' (.e m)) (c:Cok X G) (g:Gok X Γ)
  (h:V6 pi o (Wn x (ev Γ G m' (j8 ρ)) (G (bang x)) (j8 ρ)) P):MSs X C o ls ρ k (.Raise (aa (.Call (.Name x np) [m] [] cpos)) ah pos::rest) P:=by
 unfold Wn at h;split at h
 .rename_i r d er eg;obtain⟨hx,o,ho⟩:=c.ec _ _ eg;exact MSs.plain (N:=λ_=>False) (DS.raiseE c.ea hx ho (W.mg_of c.kin c.ns ho) c.kin hq (λσ H R=>(sound he c g ρ r er).toT σ H _ R λv H' g' _=>g') (h ρ rfl) hg hdb hs) λ_ z=>z.elim
 .exact h.elim
theorem j5e{x:aq}{w:Option W}{d:Option D}{ρ:En}{P:Pm}(h:V6 pi o (Wn x w d ρ) P):V6 pi o (Wn x w d ρ) { P with nx:=λ_ _=>False }:=by
 unfold Wn at h ⊢;split at h
 .exact h
 .exact h
theorem MP.ifRai {np cpos:aR} (hq:X.calm=af) (hg:Gl X x) (hdb:(x==k7x)=ae) (hs:aj [m] X.env=[(ae,aD m X.env)]) (hc:Tr X c' (.b c)) (he:Tr X m' (.e m)) (hr:MP X pi r rest) :
  MP X pi (.ifRai c' x m' r) (.If c [.Raise (aa (.Call (.Name x np) [m] [] cpos)) ah p] [] pos::rest):=λfu Γ G cc g C hC T o ls ρ k P hp h=>by
 rw[jd]at h;unfold ifP at h;split at h
 .rename_i et;exact MSs.ife (sound hc cc g ρ af et) (λ_=>MP.rai_ms (pi:=pi) hq hg hdb hs he cc g (j5e h)) λz=>by cases z
 .rename_i et;exact MSs.ife (sound hc cc g ρ ae et) (λz=>by cases z) λ_=>hr fu Γ G cc g C hC T o ls ρ k P hp h
 .exact h.elim
theorem MP.ifAll {np cpos:aR} (hq:X.calm=af) (hg:Gl X x) (hdb:(x==k7x)=ae) (hs:aj [m] X.env=[(ae,aD m X.env)]) (hpN:X.N[pi]?=aa y) (hv:Vis X.env.scope y) (hd:(y==k7x)=ae) (hcd:(y==k7y)=ae) (mc:Qv X (.Name y py) "all_taken" p1 p2)
  (ht:∀whole,eU (.Call (.Attribute (.Name y py) "all_taken" p1) [] [] p2) X.env whole=(do let v <-whole;gc (Expr.Call (.Attribute (.Name y py) "all_taken" p1) [] [] p2).pos;eC [v] (jZ v))) (he:Tr X m' (.e m)) (hr:MP X pi r rest) :
  MP X pi (.ifAll x m' r) (.If (.UnaryOp .Not (.Call (.Attribute (.Name y py) "all_taken" p1) [] [] p2) p3) [.Raise (aa (.Call (.Name x np) [m] [] cpos)) ah p] [] pos::rest):=λfu Γ G cc g C hC T o ls ρ k P hp h=>by
 rw[jd]at h;obtain⟨ob,hp'⟩:=hp;refine MSs.ifAll T hp' hpN hv hd hcd mc ht (λz=>?_) λz=>?_
 .rw[if_neg z]at h;exact MP.rai_ms (pi:=pi) hq hg hdb hs he cc g (j5e h)
 .rw[if_pos z]at h;exact hr fu Γ G cc g C hC T o ls ρ k P ⟨ob,hp'⟩ h
theorem MP.take (hip:i≠pi) (hpN:X.N[pi]?=aa y) (hv:Vis X.env.scope y) (hd:(y==k7x)=ae) (hcd:(y==k7y)=ae) (mc:Qv X (.Name y py) "taken" p1 p2)
  (hi:X.N[i]?=aa x) (hx:Loc X.env.scope x) (hs:aM (.Call (.Attribute (.Name y py) "taken" p1) [] [] p2) (aa (.Name x p)) pos.line X.env=pure ae) (hf:X.fn x=af\/X.env.scope.names.lookup x=aa .local) (hr:MP X pi r rest) :
  MP X pi (.take i r) (.Assign [.Name x p] (.Call (.Attribute (.Name y py) "taken" p1) [] [] p2) pos::rest):=λfu Γ G cc g C hC T o ls ρ k P hp h=>by
 rw[jd]at h;obtain⟨ob,hp'⟩:=id hp;exact MSs.take T hp' hpN hv hd hcd mc cc.nd hi hx hs hf (hr fu Γ G cc g C hC T o ls _ (k+1) P (Ys hp hip) (by rw[jq];exact h))
theorem MP.takeE (hpN:X.N[pi]?=aa y) (hv:Vis X.env.scope y) (hd:(y==k7x)=ae) (hcd:(y==k7y)=ae) (mc:Qv X (.Name y py) "taken" p1 p2)
  (hs:aM (.Call (.Attribute (.Name y py) "taken" p1) [] [] p2) ah pos.line X.env=pure ae) (hr:MP X pi r rest) :
  MP X pi (.takeE r) (.Expr (.Call (.Attribute (.Name y py) "taken" p1) [] [] p2) pos::rest):=λfu Γ G cc g C hC T o ls ρ k P hp h=>by
 rw[jd]at h;obtain⟨ob,hp'⟩:=id hp;exact MSs.takeE T hp' hpN hv hd hcd mc hs (hr fu Γ G cc g C hC T o ls _ (k+1) P hp h)
theorem MP.takeIf (hip:i≠pi) (hpN:X.N[pi]?=aa y) (hv:Vis X.env.scope y) (hd:(y==k7x)=ae) (hcd:(y==k7y)=ae) (mc:Qv X (.Name y py) "taken" p1 p2)
  (hi:X.N[i]?=aa x) (hx:Loc X.env.scope x) (hs:aM (.IfExp c (.Call (.Attribute (.Name y py) "taken" p1) [] [] p2) e p3) (aa (.Name x p)) pos.line X.env=pure ae) (hf:X.fn x=af\/X.env.scope.names.lookup x=aa .local)
  (hc:Tr X c' (.b c)) (he:Tr X e' (.e e)) (hr:MP X pi r rest) :
  MP X pi (.takeIf i c' e' r) (.Assign [.Name x p] (.IfExp c (.Call (.Attribute (.Name y py) "taken" p1) [] [] p2) e p3) pos::rest):=λfu Γ G cc g C hC T o ls ρ k P hp h=>by
 rw[jd]at h;obtain⟨ob,hp'⟩:=id hp;unfold ifP at h;split at h
 .rename_i et;exact MSs.takeIf (d:=.non) T hp' hpN hv hd hcd mc cc.nd hi hx hs hf (sound hc cc g ρ af et) (λz=>by cases z) (λ_=>hr fu Γ G cc g C hC T o ls _ (k+1) P (Ys hp hip) (by rw[jq];exact h)) λz=>by cases z
 .rename_i et;unfold j32 at h;split at h
  .rename_i d ed;obtain⟨z,ez,ed⟩:=j2a ed;exact MSs.takeIf (d:=d) T hp' hpN hv hd hcd mc cc.nd hi hx hs hf (sound hc cc g ρ ae et) (λ_=>(sound he cc g ρ z ez).toE ed) (λz=>by cases z) λ_=>hr fu Γ G cc g C hC T o ls _ k P (Ys hp hip) (by rw[jq];exact h)
  .exact h.elim
 .exact h.elim
theorem O4 {Γ:aq->List D->Rc} {G:aq->Option D} {C:ao} {ls:List aq} {k:Nat} {P:Pm} {F:D->Nat->Sm} (cc:Cok X G) (g:Gok X Γ) (hC:X.mg "Pieces" = aa (.ref C)) (ha:Tr X es' (.a es)) (h:V6 pi o (Rm G (Ye Γ ls f (ev Γ G es' (j8 ρ)) k) (j8 ρ) F) P) :
  (∃ds d k',DA X ρ es ds/\(CalM X f C λls2 k2 ds2 d2 k2'=>ls2=ls/\k2=k/\ds2=ds/\d2=d/\k2'=k')/\V6 pi o (F d k') P) \/
  (∃ds z V,DTA X ρ es ds/\(CalMX X f C λls2 k2 ds2 x2=>ls2=ls/\k2=k/\ds2=ds/\x2=z)/\X.mg z=aa V/\P.ex z ρ):=by
 unfold Ye at h;split at h
 .rename_i rs ers;split at h
  .rename_i ds eds;have A:=sound ha cc g ρ rs ers;have q:=g (mq f) (.lst (ls.map D.str)::.int (k:Int)::ds);unfold Rm at h;split at h
   .rename_i d k' z;rw[z]at q;exact .inl ⟨ds,d,k',A.toA eds,q f ls k ds rfl rfl C hC,h⟩
   .rename_i z ez;split at h
    .rename_i hz;rw[ez]at q;obtain⟨d,hd⟩:=Xr.mp hz;obtain⟨hx,V,hV⟩:=cc.ec _ _ hd;exact .inr ⟨ds,z,V,(A.toA eds).toT,q f ls k ds rfl rfl C hC,W.mg_of cc.kin cc.ns hV,h ρ rfl⟩
    .exact h.elim
   .exact h.elim
  .exact h.elim
 .exact h.elim
theorem MP.callS(hip:i≠pi)(mm:MC X pi f es cl)(hi:X.N[i]?=aa x)(hx:Loc X.env.scope x)(hs:aM cl (aa (.Name x p)) pos.line X.env=pure ae)(hf:X.fn x=af\/X.env.scope.names.lookup x=aa .local)(ha:Tr X es' (.a es))(hr:MP X pi r rest) :
  MP X pi (.callS i f es' r) (.Assign [.Name x p] cl pos::rest):=λfu Γ G cc g C hC T o ls ρ k P hp h=>by
 rw[jd]at h;obtain⟨ob,hp'⟩:=id hp;rcases O4 cc g hC ha h with ⟨ds,d,k',A,cm,h⟩|⟨ds,z,V,A,cm,hV,h⟩
 .exact MSs.callS cm mm hp' A ⟨rfl,rfl,rfl,rfl,rfl⟩ cc.nd hi hx hs hf (hr fu Γ G cc g C hC T o ls _ k' P (Ys hp hip) (by rw[jq];exact h))
 .exact MSs.callSX cm mm hp' A ⟨rfl,rfl,rfl,rfl⟩ hV cc.nd hi hx hs hf h
theorem MP.ifCal(mm:MC X pi f es cl)(hc:Tr X c' (.b c))(ha:Tr X es' (.a es))(hr:MP X pi r rest):MP X pi (.ifCal c' f es' r) (.If c [.Return (aa cl) p] [] pos::rest):=λfu Γ G cc g C hC T o ls ρ k P hp h=>by
 rw[jd]at h;obtain⟨ob,hp'⟩:=id hp;unfold ifP at h;split at h
 .rename_i et;refine MSs.ife (sound hc cc g ρ af et) (λ_=>?_) λz=>by cases z
  rcases O4 cc g hC ha h with ⟨ds,d,k',A,cm,h⟩|⟨ds,z,V,A,cm,hV,h⟩
  .exact MSs.retC cm mm hp' A ⟨rfl,rfl,rfl,rfl,rfl⟩ h
  .exact MSs.retCX cm mm hp' A ⟨rfl,rfl,rfl,rfl⟩ hV h
 .rename_i et;exact MSs.ife (sound hc cc g ρ ae et) (λz=>by cases z) λ_=>hr fu Γ G cc g C hC T o ls ρ k P hp h
 .exact h.elim
theorem MP.appC (hip:i≠pi) (mm:MC X pi f es cl) (hN:X.N[i]?=aa x) (hv:Vis X.env.scope x) (hd:(x==k7x)=ae) (hcd:(x==k7y)=ae)
  (hst:aj [cl] X.env=[(ae,aD cl X.env)]) (hline:(p1.endLine==p2.line)=af) (hbase:aW (.Name x p) "append" X.env (aD (.Name x p) X.env)=aD (.Name x p) X.env)
  (hfew:((aQ p2 (aj [cl] X.env)).all (λx=>!x.1)&&(bP p2 (b8 [] X.env)).all (λx=>x.1.isSome)&&decide (([cl]:List au).length+([]:List b7).length+(if ([]:List b7).isEmpty then 0 else 1)<30))=af)
  (hs:aM (.Call (.Attribute (.Name x p) "append" p1) [cl] [] p2) ah pos.line X.env=pure ae) (ha:Tr X es' (.a es)) (hr:MP X pi r rest) :
  MP X pi (.appC i f es' r) (.Expr (.Call (.Attribute (.Name x p) "append" p1) [cl] [] p2) pos::rest):=λfu Γ G cc g C hC T o ls ρ k P hp h=>by
 rw[jd]at h;obtain⟨ob,hp'⟩:=id hp;unfold j3o at h;split at h
 .rename_i l el;obtain⟨a,q⟩:=Jt el;rcases O4 cc g hC ha h with ⟨ds,d,k',A,cm,h⟩|⟨ds,z,V,A,cm,hV,h⟩
  .unfold j4j at h;rw[el]at h;dsimp only at h;split at h
   .rename_i hl;exact MSs.appC (p3:=p) cm mm hp' A ⟨rfl,rfl,rfl,rfl,rfl⟩ q hl hN hv hd hcd hst hline hbase hfew hs (hr fu Γ G cc g C hC T o ls _ k' P (Ys hp hip) (by rw[jq];exact h))
   .exact h.elim
  .exact MSs.appCX cm mm hp' A ⟨rfl,rfl,rfl,rfl⟩ hV q hN hv hd hcd hst hline hbase hfew hs h
 .exact h.elim
theorem MP.whlA {z:aq} {n:Nat} {body:List aS} (hpN:X.N[pi]?=aa y) (hv:Vis X.env.scope y) (hd:(y==k7x)=ae) (hcd:(y==k7y)=ae) (mc:Qv X (.Name y py) "ahead" p1 p2)
  (hb:MP X pi b body) (hr:MP X pi r rest) :
  MP X pi (.whlA z b r) (.While (.Compare (.Call (.Attribute (.Name y py) "ahead" p1) [] [] p2) [.NotEq] [.Constant (.str z) n p3] p4) body [] pos::rest):=λfu Γ G cc g C hC T o ls ρ k P hp h=>by
 rw[jd]at h;refine MSs.whl T (λm ρ' k'=>(∃ob,ρ'[pi]?=aa (.raw o.a ob rfN))/\V6 pi o (Zm (λρ k=>jd fu Γ G ls b ρ k) (λρ k=>jd fu Γ G ls r ρ k) z ls m (j8 ρ') k') P) fu ⟨hp,h⟩ cc.po hpN hv hd hcd mc λm ρ' k' ⟨hp',w⟩=>⟨hp',λhz=>?_,λhz=>?_⟩
 .cases m with
  |zero=>exact w.elim
  |succ m =>
   unfold Zm at w;rw[if_neg hz]at w;refine hb fu Γ G cc g C hC T o ls ρ' k' _ hp' ?_;cases e:jd fu Γ G ls b (j8 ρ') k' with
   |next ρ2 k2=>rw[e]at w;exact λρ3 e3 hp3=>⟨m,Th m,hp3,by rw[e3];exact w⟩
   |ret d k2=>rw[e]at w;exact w
   |err x ρ2=>rw[e]at w;exact w
   |no=>rw[e]at w;exact w
 .cases m with
  |zero=>exact w.elim
  |succ m =>unfold Zm at w;rw[if_pos hz]at w;exact hr fu Γ G cc g C hC T o ls ρ' k' P hp' w
end
structure Fi where
 n:Nat
 nn:Nat
 body:Sx
 lam:Bool
noncomputable def jhc:Rc->Rc
 |.val d=>.lval d
 |_=>.no
noncomputable def fin:So->Rc
 |.ret r=>r
 |.next _=>.val .non
 |.err x _=>.err x
 |_=>.no
noncomputable def enter(F:Fi)(ds:List D):En:=ds.map Sv.val++aA (F.nn-F.n) Sv.un
noncomputable def evP(fu:Nat)(G:aq->Option D)(T:aq->Option Fi):Nat->aq->List D->Rc
 |0,_,_=>.no
 |n+1,f,ds=>match T f with
  |none=>.no
  |some F=>if ds.length=F.n then(if F.lam=af then jhc (fin (run fu (evP fu G T n) G F.body (enter F ds)))else fin (run fu (evP fu G T n) G F.body (enter F ds)))else .no
structure Lk(P:az)(w:aF)(K:k7t)(mg:k7w)(base:aH)(x:aq)(F:Fi):Prop where
 ex:∃(st:aS)(f:ao)(fd:aN)(N ps:List aq),Fun K x x st f fd/\FnScope N ps (j0 st)/\ps.length=F.n/\N.length=F.nn/\Binds K fd ps []/\Dfl K x fd ps/\mg x=aa (.ref f) /\
  ∀(cdv:ak)(A:aI)(outer:List dz)(s:ar)(H:Hp)(E:XK)(xe:k7u),Ts ((zm CX0 P w K mg base N x (j0 st) f cdv A outer s H E).wish xe) F.body (.ss (jg st))
structure LkL(P:az)(w:aF)(K:k7t)(mg:k7w)(base:aH)(x:aq)(F:Fi):Prop where
 ex:∃(tx:Tx)(N ps:List aq)(e:Ex),j42 K x=aa tx/\LamScope N ps tx.2.2/\N.length=F.n/\F.nn=F.n/\F.body=.ret e /\
  (∀(cl:List (aq×ao)) (pm:ak) (c:ao) (ctv:ak) (us:List ak),us.length=ps.length->cY (W.kla_fn "<lambda>" (v8 x) tx.1 tx.2.1 tx.2.2 cl pm (.ref c) ctv) ⟨us,[]⟩=pure (ps.zip us)) /\
  ∀(a c:ao)(cl:List (aq×ao)) (A:aI) (outer:List dz) (s:ar) (H:Hp),Tr (Up P w K mg base N (v8 x) tx.2.2 a (.ref c) cl A outer s H) e (.e tx.2.1)
def Nj(P:az)(w:aF)(K:k7t)(mg:k7w)(base:aH)(C:ao):Prop:=∃(fA fT fL fI:ao)(dA dT dL dI:aN),PcT K mg C fA fT fL fI/\(FnOk P w K mg base CX0 1 fA dA ["self"] (O9 C)/\Binds K dA ["self"] []) /\
  (FnOk P w K mg base CX0 2 fT dT ["self"] (Ck C)/\Binds K dT ["self"] [])/\(FnOk P w K mg base CX0 1 fL dL ["self"] (j39 C)/\Binds K dL ["self"] [])/\(FnOk P w K mg base CX0 1 fI dI ["self","text"] (Cm C)/\Binds K dI ["self","text"] [])
structure LkP(P:az)(w:aF)(K:k7t)(mg:k7w)(base:aH)(x:aq)(F:Fi):Prop where
 ex:∃(g:aq)(p:Px)(st:aS)(f:ao)(fd:aN)(N ps:List aq),x=mq g/\F.body=.px p/\Fun K g g st f fd/\FnScope N ps (j0 st)/\ps.length+1=F.n/\N.length+1=F.nn/\0<ps.length/\ps.length<=N.length/\Binds K fd ps []/\mg g=aa (.ref f)/\(∃C,mg "Pieces" = aa (.ref C)/\Nj P w K mg base C) /\
  ∀(cdv:ak)(A:aI)(outer:List dz)(s:ar)(H:Hp)(E:XK)(xe:k7u),MP ((zm CX0 P w K mg base N g (j0 st) f cdv A outer s H E).wish xe) 0 p (jg st)
def LkF(P:az)(w:aF)(K:k7t)(mg:k7w)(base:aH)(f:aq)(F:Fi):Prop:=(F.lam=ae->(Lk P w K mg base f F/\f.cps.toList.getLast?≠aa 62/\f.cps.toList.head?≠aa 64)\/LkP P w K mg base f F)/\(F.lam=af->∃x,f=v8 x/\LkL P w K mg base x F)
def j7j(P:az)(w:aF)(K:k7t)(mg:k7w)(base:aH):Prop:=∃(f:ao)(fd:aN)(ps:List aq),FnOk P w K mg base CX0 11 f fd ps (jfm K jb6)/\mg "_law_plan" = aa (.ref f)/\W.keepIn K (.ref f)=af/\Binds K fd ps []/\Dfl K "_law_plan" fd ps
structure Tb(P:az)(w:aF)(K:k7t)(mg:k7w)(base:aH)(G:aq->Option D):Prop where
 bt:∀x∈Vx,mg x=ah
 gl:∀x d,Vv x=ae->G x=aa d->∃u v,mg x=aa u/\RelV v u/\∀H,Enc K H d v
 ea:Oi K=af
 ec:∀x d,G (bang x)=aa d->x∈J8/\∃o,W.nsIn K ax x=aa (aa o)
 el:G "?" = aa (.bl af)->∀c∈J8,∃v,W.nsIn K ax c=aa (aa v)
 kin:K.In base
 ns:base.Ns ax mg
 kd:∀x l,G (bang x)=aa (.lst l)->KindsP P w K mg base "_law_kinds" x l
 fn:∀f d,G (qm f)=aa d->∃fa,mg f=aa (.ref fa)/\W.keepIn K (.ref fa)=af
 pl:∀d,G (qm "_law_plan")=aa d->j7j P w K mg base
 pc:∀d,G (qm "Pieces")=aa d->∃C,mg "Pieces" = aa (.ref C)/\Nj P w K mg base C
 lm:∀x∈Y0,∀f cdv,mg x=aa (.ref f)->Ux K f cdv->∃c Pt,cdv=.ref c/\W.codeHdIn K c Pt=af/\W.tabIn K x=aa (c,Pt)
structure LkH(P:az)(w:aF)(K:k7t)(mg:k7w)(base:aH)(x:aq)(F:Fi):Prop where
 ex:∃(st:aS)(f:ao)(fd:aN)(N:List aq)(p:aq),Fun K x x st f fd/\FnScope N [p] (j0 st)/\1<=N.length/\N.length=F.nn/\Binds K fd [p] []/\mg x=aa (.ref f) /\
  ∀(cdv:ak)(A:aI)(outer:List dz)(s:ar)(H:Hp),Ts { (zm CX0 P w K mg base N x (j0 st) f cdv A outer s H E0).nox with calm:=ae } F.body (.ss (jg st))
section
variable{P:az}{w:aF}{K:k7t}{mg:k7w}{base:aH}{fu:Nat}{G:aq->Option D}{T:aq->Option Fi}
theorem Ru{N:List aq}{ds:List D}{F:Fi}(h1:ds.length=F.n)(h2:N.length=F.nn):j8 (qy N ds)=enter F ds:=by unfold j8 qy enter;rw[Xw,X6,iJ,h1,h2];rfl
theorem O5(y:aq):(bang y).cps.toList.head?=aa 33:=by unfold bang;show(("!":aq).cps++y.cps).toList.head?=aa 33;rw[cG];rfl
theorem j2f(y:aq):(mq y).cps.toList.head?=aa 64:=by unfold mq;show(("@":aq).cps++y.cps).toList.head?=aa 64;rw[cG];rfl
theorem jh0{x y:aq}(h:mq x=mq y):x=y:=by unfold mq at h;have h:(⟨("@":aq).cps++x.cps⟩:aq)=⟨("@":aq).cps++y.cps⟩:=h;have h:=congrArg iX h;have e:x.cps=y.cps:=eB h rfl;cases x;cases y;cases e;rfl
theorem j29:∀ls:List aq,strsOf (ls.map D.str)=aa ls
 |[]=>rfl
 |_::l=>by rw[xx,strsOf,j29 l];rfl
theorem j20{N:List aq}{a:ao}{ds:List D}{F:Fi}{ls:List D}{k:Int}(h1:ds.length+2=F.n)(h2:N.length+1=F.nn):j8 (startM N a ds)=.exc rfN::(enter F (.lst ls::.int k::ds)).drop 2:=by
 have e:N.length-(ds.length+1)=F.nn-F.n:=by omega
 unfold startM;rw[jq];unfold j8 qy enter;rw[Xw,X6,iJ];simp only[xx,T7,cN,di,cQ,xq,e];rfl
theorem jew (y:aq):bang y ≠ "?":=λh=>by have:=O5 y;rw[h]at this;exact absurd this (by decide)
theorem j2c(y:aq):(qm y).cps.toList.head?=aa 63:=by unfold qm;show(("??":aq).cps++y.cps).toList.head?=aa 63;rw[cG];rfl
theorem jkh (y:aq):qm y ≠ "?":=λh=>by
 have e:((qm y).cps.toList.drop 1).head?=aa 63:=by unfold qm;show((("??":aq).cps++y.cps).toList.drop 1).head?=aa 63;rw[cG];rfl
 rw[h]at e;exact absurd e (by decide)
theorem jga{x y:aq}(h:qm x=qm y):x=y:=by unfold qm at h;have h:(⟨("??":aq).cps++x.cps⟩:aq)=⟨("??":aq).cps++y.cps⟩:=h;have h:=congrArg iX h;have e:x.cps=y.cps:=eB h rfl;cases x;cases y;cases e;rfl
theorem j30(x y:aq):bang x≠qm y:=λh=>by have:=O5 x;rw[h,j2c]at this;exact absurd this (by decide)
theorem Ou{x y z:aq}(h:x++z=y++z):x=y:=by have h:(⟨x.cps++z.cps⟩:aq)=⟨y.cps++z.cps⟩:=h;have h:=congrArg iX h;have e:x.cps=y.cps:=Array.append_inj_left' h rfl;cases x;cases y;cases e;rfl
theorem j98{x y:aq}(h:v8 x=v8 y):x=y:=Ou (Ou h)
theorem Kr(x:aq):(v8 x).cps.toList.getLast?=aa 62:=by unfold v8;show(((x ++ ".<locals>.").cps)++("<lambda>":aq).cps).toList.getLast?=aa 62;rw[cG,List.getLast?_append];rfl
theorem j41(x:aq):v8 x∉Y0:=λh=>by
 have e:=Kr x
 revert e
 unfold Y0 at h;rcases xn.mp h with h|h
 .rw[h];decide
 rcases xn.mp h with h|h
 .rw[h];decide
 rcases xn.mp h with h|h
 .rw[h];decide
 .rw[X4.mp h];decide
theorem jg3{fu:Nat}{Γ:aq->List D->Rc}{G:aq->Option D}{e:Ex}{ρ:En}{d:D}(h:fin (run fu Γ G (.ret e) ρ)=.val d):∃r,ev Γ G e ρ=aa (.v r)/\r.d=d:=by
 rw[jc1]at h;cases z:ev Γ G e ρ with
 |none=>rw[z]at h;cases y:er Γ G e ρ<;>(rw[y]at h;cases h)
 |some w =>
  cases w with
  |v r =>
   rw[z]at h;cases r with
   |o l=>cases h
   |e d=>cases h;exact⟨_,rfl,rfl⟩
   |w l=>cases h;exact⟨_,rfl,rfl⟩
   |t d=>cases h;exact⟨_,rfl,rfl⟩
  |a l=>rw[z]at h;cases y:er Γ G e ρ<;>(rw[y]at h;cases h)
  |i l=>rw[z]at h;cases y:er Γ G e ρ<;>(rw[y]at h;cases h)
theorem j3n{C:ao}(h:Nj P w K mg base C){X:Cx}{n:Nat}(h1:X.prog=P)(h2:X.w=w)(h3:X.K=K)(h4:X.mg=mg)(h5:X.base=base)(hn:12<=n)(hr:Room n X.A):PcX X C:=by subst h1 h2 h3 h4 h5;obtain⟨fA,fT,fL,fI,dA,dT,dL,dI,a,b,c,d,e⟩:=h;exact⟨fA,fT,fL,fI,dA,dT,dL,dI,a,b,c,d,e,hr.mono nofun⟩
theorem Zw (t:Tb P w K mg base G) {X:Cx} {n:Nat} (h1:X.prog=P) (h2:X.w=w) (h3:X.K=K) (h4:X.mg=mg) (h5:X.base=base) (hn:12<=n) (hr:Room n X.A) (nd:X.N.Nodup) (po:fD (aC X.prog X.w) X.A X.env X.xe) (hlm:∀x∈Y0,X.env.qual=x ++ ".<locals>."->∃c P,X.env.code=.ref c/\W.codeHdIn K c P=af/\W.tabIn K x=aa (c,P)):Cok X G:=by subst h1 h2 h3 h4 h5;exact⟨by have:=hr.un;omega,(λ_=>by have:=hr.un;omega),(λ_=>by have:=hr.dp;omega),t.bt,t.gl,nd,po,t.ea,t.ec,t.el,t.kin,t.ns,t.kd,t.fn,λd e=>let ⟨f,fd,ps,F,h1,h2,h3,h4⟩:=t.pl d e;⟨11,f,fd,ps,F,hr.mono hn,h1,h2,h3,h4⟩,λd e=>let ⟨C,h1,h2⟩:=t.pc d e;⟨C,h1,j3n h2 rfl rfl rfl rfl rfl hn hr⟩,hlm⟩
theorem Uk (t:Tb P w K mg base G) {g:aq} {f:ao} {cdv:ak} {env:dz} (hm:mg g=aa (.ref f)) (hcv:Ux K f cdv) (hq:env.qual=g ++ ".<locals>.") (hc:env.code=cdv):∀x∈Y0,env.qual=x ++ ".<locals>."->∃c P,env.code=.ref c/\W.codeHdIn K c P=af/\W.tabIn K x=aa (c,P):=λx hx e=>by have eg:=Ou (hq.symm.trans e);subst eg;rw[hc];exact t.lm _ hx f cdv hm hcv
noncomputable def lv:Nat->Nat
 |0=>12
 |n+1=>lv n+2
theorem Z9:∀n,12<=lv n+1
 |0=>by decide
 |n+1=>by have:=Z9 n;unfold lv;omega
theorem Fj(hT:∀x F,T x=aa F->LkF P w K mg base x F)(t:Tb P w K mg base G):∀(n:Nat)(x:aq)(ds:List D),
  ∃(f:ao)(fd:aN)(ps:List aq),match evP fu G T n x ds with
   |.val d=>FnOk P w K mg base CX0 (lv n) f fd ps (spP K λds' d'=>ds'=ds/\d'=d)/\mg x=aa (.ref f)/\W.keepIn K (.ref f)=af/\Binds K fd ps []/\Dfl K x fd ps
   |.fresh l=>FnOk P w K mg base CX0 (lv n) f fd ps (spF K λds' l'=>ds'=ds/\l'=l)/\mg x=aa (.ref f)/\W.keepIn K (.ref f)=af/\Binds K fd ps []/\Dfl K x fd ps
   |.err y=>FnOk P w K mg base (CX1 P w) (lv n) f fd ps (spX K mg λds' z=>ds'=ds/\z=y)/\mg x=aa (.ref f)/\W.keepIn K (.ref f)=af/\Binds K fd ps []
   |.lval d=>∀y,x=v8 y->j4l P w K mg base (lv n) y λds' d'=>ds'=ds/\d'=d
   |.mval d k'=>∀g ls (k:Nat) ds',x=mq g->ds=.lst (ls.map D.str)::.int (k:Int)::ds'->∀C,mg "Pieces" = aa (.ref C)->FnOk P w K mg base CX0 (lv n) f fd ps (spM K C λls2 k2 ds2 d2 k2'=>ls2=ls/\k2=k/\ds2=ds'/\d2=d/\k2'=k')/\mg g=aa (.ref f)/\W.keepIn K (.ref f)=af/\Binds K fd ps []
   |.merr y=>∀g ls (k:Nat) ds',x=mq g->ds=.lst (ls.map D.str)::.int (k:Int)::ds'->∀C,mg "Pieces" = aa (.ref C)->FnOk P w K mg base (CX1 P w) (lv n) f fd ps (j38 K mg C λls2 k2 ds2 x2=>ls2=ls/\k2=k/\ds2=ds'/\x2=y)/\mg g=aa (.ref f)/\W.keepIn K (.ref f)=af/\Binds K fd ps []
   |.no=>True
 |0,x,ds=>⟨0,W.fnOf x x { posonlyargs:=[],args:=[],vararg:=ah,kwonlyargs:=[],kw_defaults:=[],kwarg:=ah,defaults:=[] } [] { kind:=.function,names:=[],isGenerator:=ae,isCoroutine:=ae } .none .none .none .none ah .none .none,[],trivial⟩
 |n+1,x,ds=>by
  have ih:=Fj hT t n;cases hF:T x with
  |none =>
   obtain⟨f,fd,ps,_⟩:=ih x ds;refine⟨f,fd,ps,?_⟩;have e:evP fu G T (n+1) x ds=.no:=by simp only[evP,hF]
   rw[e];trivial
  |some F =>
   have gok:∀{X:Cx},X.prog=P->X.w=w->X.K=K->X.mg=mg->X.base=base->Room (lv n+1) X.A->Gok X (evP fu G T n):=λ{X} h1 h2 h3 h4 h5 hr g ds'=>by
    subst h1 h2 h3 h4 h5;obtain⟨f',fd',ps',q⟩:=ih g ds';cases z:evP fu G T n g ds' with
    |val d=>rw[z]at q;exact⟨lv n,f',fd',ps',q.1,hr,q.2.1,q.2.2.1,q.2.2.2⟩
    |fresh l=>rw[z]at q;exact⟨lv n,f',fd',ps',q.1,hr,q.2.1,q.2.2.1,q.2.2.2⟩
    |err y=>rw[z]at q;exact⟨lv n,f',fd',ps',q.1,hr.mono (ph _),q.2.1,q.2.2.1,q.2.2.2⟩
    |lval d=>rw[z]at q;exact λy hy=>⟨lv n,hr.mono (ph _),q y hy⟩
    |mval d k=>rw[z]at q;exact λg' ls k ds'' h1 h2 C h3=>let ⟨a,b⟩:=q g' ls k ds'' h1 h2 C h3;⟨⟨lv n,f',fd',ps',a,hr.mono (ph _),b⟩⟩
    |merr y=>rw[z]at q;exact λg' ls k ds'' h1 h2 C h3=>let ⟨a,b⟩:=q g' ls k ds'' h1 h2 C h3;⟨⟨lv n,f',fd',ps',a,hr.mono (ph _),b⟩⟩
    |no=>trivial
   cases hlam:F.lam with
   |true =>
    obtain⟨f,fd,ps,_⟩:=ih x ds;refine⟨f,fd,ps,?_⟩;by_cases hl:ds.length=F.n
    .have e:evP fu G T (n+1) x ds=jhc (fin (run fu (evP fu G T n) G F.body (enter F ds))):=by simp only[evP,hF,if_pos hl,hlam,if_true]
     rw[e];obtain⟨y,ey,L⟩:=(hT x F hF).2 hlam;obtain⟨tx,N,ps,ex,htx,hsc,hN,hnn,hbd,hba,htr⟩:=L.ex;cases ho:fin (run fu (evP fu G T n) G F.body (enter F ds)) with
     |val d =>intro y' hy';have eyy:y=y':=j98 (ey.symm.trans hy');subst eyy;refine jha (k:=lv n+1) htx hsc (λds' d' h=>by rw[h.1,hl,hN]) hba λa c cl A outer s H hcl hr ds' d' ⟨e1,e2⟩=>?_;subst e1 e2;have ab:j8 (qy N ds')=enter F ds':=Ru hl (by rw[hN,hnn]);rw[hbd,<-ab]at ho;obtain⟨r,er,ed⟩:=jg3 ho;exact ed▸(sound (htr a c cl A outer s H) (Zw t rfl rfl rfl rfl rfl (Z9 _) hr hsc.nd bR λz hz hq=>absurd (Ou hq▸hz) (j41 y)) (gok rfl rfl rfl rfl rfl hr) (qy N ds') r er).toT
     |fresh l=>trivial
     |err z=>trivial
     |lval z=>trivial
     |mval z k=>trivial
     |merr z=>trivial
     |no=>trivial
    .have e:evP fu G T (n+1) x ds=.no:=by simp only[evP,hF,if_neg hl]
     rw[e];trivial
   |false =>
   rcases(hT x F hF).1 hlam with ⟨L,hlast,hhead⟩|L
   rotate_left
   .obtain⟨g0,p,st,f,fd,N,ps,hxg,hbody,hfun,hsc,hps,hN,hp0,hpN,hb,hm,⟨C0,hC0,hPc⟩,hmp⟩:=L.ex;refine⟨f,fd,ps,?_⟩;by_cases hl:ds.length=F.n
    .have e:evP fu G T (n+1) x ds=fin (run fu (evP fu G T n) G F.body (enter F ds)):=by simp only[evP,hF,if_pos hl,hlam,Xx,if_false]
     rw[e,hbody,run];cases ho:pxS (enter F ds)[0]? (enter F ds)[1]? λls k=>jd fu (evP fu G T n) G ls p (.exc rfN::(enter F ds).drop 2) k with
     |next ρ' =>
      exfalso;unfold pxS at ho
      repeat' split at ho
      all_goals cases ho
     |brk _=>trivial
     |cnt _=>trivial
     |no=>trivial
     |err y ρ' =>
      exfalso;unfold pxS at ho
      repeat' split at ho
      all_goals cases ho
     |ret r =>
      have key:∀g ls (k:Nat) ds',x=mq g->ds=.lst (ls.map D.str)::.int (k:Int)::ds'->g0=g/\ds'.length+1=ps.length/\∀a:ao,
        (∀d k',r=.mval d k'->jd fu (evP fu G T n) G ls p (j8 (startM N a ds')) k=.ret d k')/\(∀y,r=.merr y->∃ρ',jd fu (evP fu G T n) G ls p (j8 (startM N a ds')) k=.err y ρ'):=λg ls k ds' h1 h2=>by
       refine⟨jh0 (hxg.symm.trans h1),?_,λa=>?_⟩
       .rw[h2]at hl;simp only[xq]at hl;omega
       rw[j20 (F:=F) (ls:=ls.map D.str) (k:=(k:Int)) (by rw[h2]at hl;simp only[xq]at hl;omega) hN,<-h2];have e0:(enter F ds)[0]?=aa (.val (.lst (ls.map D.str))):=by rw[h2];rfl
       have e1:(enter F ds)[1]?=aa (.val (.int (k:Int))):=by rw[h2];rfl
       rw[e0,e1]at ho;unfold pxS at ho;simp only[j29,Xb,fB,if_true]at ho;split at ho
       .rename_i d k' z;cases ho;exact⟨λd2 k2 q=>(by cases q;exact z),λy q=>(by cases q)⟩
       .rename_i y ρ' z;cases ho;exact⟨λd2 k2 q=>(by cases q),λy q=>(by cases q;exact⟨_,z⟩)⟩
       .cases ho
      have sh:(∃d k',r=.mval d k')\/∃y,r=.merr y:=by
       unfold pxS at ho
       repeat' split at ho
       all_goals (cases ho)
       .exact .inl ⟨_,_,rfl⟩
       .exact .inr ⟨_,rfl⟩
      rcases sh with ⟨d,k',er⟩|⟨y,er⟩
      .subst er;intro g ls k ds' h1 h2 C hC;obtain⟨eg,hl2,kk⟩:=key g ls k ds' h1 h2;subst eg;cases hC0.symm.trans hC;refine⟨jnc (n:=lv n+1) hfun hsc (λls2 k2 ds2 d2 k2' h=>by rw[h.2.2.1,hl2]) λcdv A outer s H E hcv hr o ls2 k2 ds2 d2 k2' h=>?_,hm,hfun.kp,hb⟩;obtain⟨rfl,rfl,rfl,rfl,rfl⟩:=h;have ck:=Zw t (X:=(zm CX0 P w K mg base N g0 (j0 st) f cdv A outer s H E).nox) rfl rfl rfl rfl rfl (Z9 _) hr hsc.nd bR (Uk t hm hcv rfl rfl);refine hmp cdv A outer s H E _ fu (evP fu G T n) G ck (gok rfl rfl rfl rfl rfl hr) C0 hC0 (j3n hPc rfl rfl rfl rfl rfl (Z9 _) hr) o _ _ _ _ ⟨dOb,?_⟩ ?_
       .unfold startM;exact Yr (by unfold qy;rw[Xe,xg,xq];omega)
       .rw[(kk o.a).1 _ _ rfl];exact⟨rfl,rfl⟩
      .subst er;intro g ls k ds' h1 h2 C hC;obtain⟨eg,hl2,kk⟩:=key g ls k ds' h1 h2;subst eg;cases hC0.symm.trans hC;refine⟨jlg (n:=lv n+1) hfun hsc (λls2 k2 ds2 y2 h=>by rw[h.2.2.1,hl2]) λcdv A outer s H E hcv hr o ls2 k2 ds2 y2 h=>?_,hm,hfun.kp,hb⟩;obtain⟨rfl,rfl,rfl,rfl⟩:=h;have ck:=Zw t (X:=zm (CX1 P w) P w K mg base N g0 (j0 st) f cdv A outer s H E) rfl rfl rfl rfl rfl (Z9 _) hr hsc.nd eS (Uk t hm hcv rfl rfl);refine hmp cdv A outer s H E (zm (CX1 P w) P w K mg base N g0 (j0 st) f cdv A outer s H E).xe fu (evP fu G T n) G ck (gok rfl rfl rfl rfl rfl hr) C0 hC0 (j3n hPc rfl rfl rfl rfl rfl (Z9 _) hr) o _ _ _ _ ⟨dOb,?_⟩ ?_
       .unfold startM;exact Yr (by unfold qy;rw[Xe,xg,xq];omega)
       .obtain⟨ρ',z⟩:=(kk o.a).2 _ rfl;rw[z];exact λ_ _=>rfl
    .have e:evP fu G T (n+1) x ds=.no:=by simp only[evP,hF,if_neg hl]
     rw[e];trivial
   obtain⟨st,f,fd,N,ps,hfun,hsc,hps,hN,hb,hdf,hm,hts⟩:=L.ex;refine⟨f,fd,ps,?_⟩;by_cases hl:ds.length=F.n
   .have e:evP fu G T (n+1) x ds=fin (run fu (evP fu G T n) G F.body (enter F ds)):=by simp only[evP,hF,if_pos hl,hlam,Xx,if_false]
    have ab:j8 (qy N ds)=enter F ds:=Ru hl hN;cases ho:run fu (evP fu G T n) G F.body (enter F ds) with
    |next ρ' =>rw[e,ho];refine⟨Ln (k:=lv n+1) hfun hsc (λds' d' h=>by rw[h.1,hl,hps]) λcdv A outer s H E hcv hr ds' d' ⟨e1,e2⟩=>?_,hm,hfun.kp,hb,hdf⟩;subst e1 e2;refine W2 (fu:=fu) (hts cdv A outer s H E _) (Zw t rfl rfl rfl rfl rfl (Z9 _) hr hsc.nd bR (Uk t hm hcv rfl rfl)) (gok rfl rfl rfl rfl rfl hr) (qy N ds') _ ?_;rw[ab,ho];exact λ_ _=>rfl
    |ret r =>
     rw[e,ho];cases r with
     |no=>trivial
     |lval d=>exact λy hy=>absurd (hy▸Kr y) hlast
     |mval d k=>exact λg _ _ _ hy=>absurd (hy▸j2f g) hhead
     |merr d=>exact λg _ _ _ hy=>absurd (hy▸j2f g) hhead
     |err y =>refine⟨j6k (k:=lv n+1) hfun hsc (λds' d' h=>by rw[h.1,hl,hps]) λcdv A outer s H E hcv hr ds' y' ⟨e1,e2⟩=>?_,hm,hfun.kp,hb⟩;subst e1 e2;refine W2 (X:=zm (CX1 P w) P w K mg base N x (j0 st) f cdv A outer s H E) (fu:=fu) (hts cdv A outer s H E (zm (CX1 P w) P w K mg base N x (j0 st) f cdv A outer s H E).xe) (Zw t rfl rfl rfl rfl rfl (Z9 _) hr hsc.nd eS (Uk t hm hcv rfl rfl)) (gok rfl rfl rfl rfl rfl hr) (qy N ds') _ ?_;rw[ab,ho];intro z hz;cases z<;>cases hz
     |val d =>
      refine⟨Ln (k:=lv n+1) hfun hsc (λds' d' h=>by rw[h.1,hl,hps]) λcdv A outer s H E hcv hr ds' d' ⟨e1,e2⟩=>?_,hm,hfun.kp,hb,hdf⟩;subst e1 e2;refine W2 (fu:=fu) (hts cdv A outer s H E _) (Zw t rfl rfl rfl rfl rfl (Z9 _) hr hsc.nd bR (Uk t hm hcv rfl rfl)) (gok rfl rfl rfl rfl rfl hr) (qy N ds') _ ?_;rw[ab,ho];intro y hy;cases y with
      |val d=>cases hy;rfl
      |fresh l=>cases hy
     |fresh l =>
      refine⟨ja0 (k:=lv n+1) hfun hsc (λds' d' h=>by rw[h.1,hl,hps]) λcdv A outer s H E hcv hr ds' d' ⟨e1,e2⟩=>?_,hm,hfun.kp,hb,hdf⟩;subst e1 e2;refine W2 (fu:=fu) (hts cdv A outer s H E _) (Zw t rfl rfl rfl rfl rfl (Z9 _) hr hsc.nd bR (Uk t hm hcv rfl rfl)) (gok rfl rfl rfl rfl rfl hr) (qy N ds') _ ?_;rw[ab,ho];intro y hy;cases y with
      |val d=>cases hy
      |fresh l=>cases hy;rfl
    |err y ρ' =>rw[e,ho];refine⟨j6k (k:=lv n+1) hfun hsc (λds' d' h=>by rw[h.1,hl,hps]) λcdv A outer s H E hcv hr ds' y' ⟨e1,e2⟩=>?_,hm,hfun.kp,hb⟩;subst e1 e2;refine W2 (X:=zm (CX1 P w) P w K mg base N x (j0 st) f cdv A outer s H E) (fu:=fu) (hts cdv A outer s H E (zm (CX1 P w) P w K mg base N x (j0 st) f cdv A outer s H E).xe) (Zw t rfl rfl rfl rfl rfl (Z9 _) hr hsc.nd eS (Uk t hm hcv rfl rfl)) (gok rfl rfl rfl rfl rfl hr) (qy N ds') _ ?_;rw[ab,ho];exact λ_ _=>rfl
    |brk _=>rw[e,ho];trivial
    |cnt _=>rw[e,ho];trivial
    |no=>rw[e,ho];trivial
   .have e:evP fu G T (n+1) x ds=.no:=by simp only[evP,hF,if_neg hl]
    rw[e];trivial
end
noncomputable def Gof(gs:List (aq×D))(q:Bool)(xs:List (aq×List D))(fs:List aq)(x:aq):Option D :=
 if Vv x=af then(if x = "?" then(if q=af then aa (.bl af)else ah) else((xs.find? λp=>bang p.1==x).map λp=>.lst p.2).or (if (fs.any λf=>qm f==x)=af then aa .non else ah))else gs.lookup x
theorem jas{x y:aq}(h:bang x=bang y):x=y:=by unfold bang at h;have h:(⟨("!":aq).cps++x.cps⟩:aq)=⟨("!":aq).cps++y.cps⟩:=h;have h:=congrArg iX h;have e:x.cps=y.cps:=eB h rfl;cases x;cases y;cases e;rfl
theorem j1z(x:aq):Vv (bang x)=af:=by unfold Vv;rw[O5];rfl
theorem j7h(x:aq):Vv (qm x)=af:=by unfold Vv;rw[j2c];rfl
theorem j0w{gs:List (aq×D)}{q:Bool}{xs:List (aq×List D)}{fs:List aq}{x:aq}{d:D}(h:Gof gs q xs fs (bang x)=aa d):∃p∈xs,p.1=x/\d=.lst p.2:=by
 unfold Gof at h;rw[if_pos (j1z x),if_neg (jew x)]at h;have hn:(fs.any λf=>qm f==bang x)=ae:=by rw[fE];intro f _ e;exact j30 x f (beq_iff_eq.mp e).symm
 rw[hn,if_neg (by decide),Option.or_none]at h;obtain⟨p,hp,rfl⟩:=Ti.mp h;have z:=List.find?_some (p:=λp:aq×List D=>bang p.1==bang x) hp;exact⟨p,List.mem_of_find?_eq_some hp,jas (beq_iff_eq.mp z),rfl⟩
theorem j0v{gs:List (aq×D)}{q:Bool}{xs:List (aq×List D)}{fs:List aq}{x:aq}{d:D}(h:Gof gs q xs fs (qm x)=aa d):x∈fs:=by
 unfold Gof at h;rw[if_pos (j7h x),if_neg (jkh x)]at h;have hn:(xs.find? λp=>bang p.1==qm x)=ah:=by rw[List.find?_eq_none];intro p _ e;exact j30 p.1 x (beq_iff_eq.mp e)
 rw[hn,Option.map_none,Option.none_or]at h;split at h
 .rename_i z;obtain⟨f,hf,e⟩:=List.any_eq_true.mp z;exact jga (beq_iff_eq.mp e)▸hf
 .cases h
theorem jju{P:az}{w:aF}{K:k7t}{mg:k7w}{base:aH}{gs:List (aq×D)}{q:Bool}{xs:List (aq×List D)}{fs:List aq}(bt:∀x∈Vx,mg x=ah)
  (gl:∀x d,gs.lookup x=aa d->∃u v,mg x=aa u/\RelV v u/\∀H,Enc K H d v) (ea:Oi K=af) (hx:∀p∈xs,p.1∈J8/\∃o,W.nsIn K ax p.1=aa (aa o))
  (el:q=af->∀c∈J8,∃v,W.nsIn K ax c=aa (aa v)) (kin:K.In base) (ns:base.Ns ax mg) (fn:∀f∈fs,∃fa,mg f=aa (.ref fa)/\W.keepIn K (.ref fa)=af) (kd:∀p∈xs,KindsP P w K mg base "_law_kinds" p.1 p.2) (lm:∀x∈Y0,∀f cdv,mg x=aa (.ref f)->Ux K f cdv->∃c Pt,cdv=.ref c/\W.codeHdIn K c Pt=af/\W.tabIn K x=aa (c,Pt)) (pl:("_law_plan":aq)∈fs->j7j P w K mg base:=by exact λh=>absurd h (by decide)) (pc:("Pieces":aq)∈fs->∃C,mg "Pieces" = aa (.ref C)/\Nj P w K mg base C:=by exact λh=>absurd h (by decide)):Tb P w K mg base (Gof gs q xs fs):=by
 refine⟨bt,λx d hb h=>?_,ea,λx d h=>?_,λh=>el ?_,kin,ns,λx l h=>?_,λf d h=>fn f (j0v h),λd h=>pl (j0v h),λd h=>pc (j0v h),lm⟩
 .unfold Gof at h;rw[if_neg (by rw[hb];decide)]at h;exact gl x d h
 .obtain⟨p,hp,rfl,_⟩:=j0w h;exact hx p hp
 .unfold Gof at h;rw[if_pos (by decide),if_pos rfl]at h;split at h
  .rename_i z;exact z
  .cases h
 .obtain⟨p,hp,rfl,e⟩:=j0w h;cases e;exact kd p hp
def Eb(K:k7t):Sp:=λvs H Q _=>∃(a:ao)(ns:List Int),vs=[.ref a]/\TabOk K H/\SqL K H a (ns.map V.int)/\ns.length<=63/\∀H':Hp,j4 H H'->Q (.bl af) H'
theorem j1u{K:k7t}{H:Hp}{a:ao}{ns:List Int}(h:SqL K H a (ns.map V.int)):j6 K H [.lst (ns.map D.int)] [.ref a] :=
 ⟨_,[],rfl,⟨a,_,rfl,h,j6.ints ns⟩,rfl⟩
theorem jh9{P:az}{w:aF}{K:k7t}{mg:k7w}{base:aH}{fu:Nat}{G:aq->Option D}{T:aq->Option Fi}{n:Nat}{x p:aq}{fa:ao}{st:aS}{F:Fi}
  (hT:∀x F,T x=aa F->LkF P w K mg base x F) (t:Tb P w K mg base G)
  (hx:T x=aa F) (hlam:F.lam=ae) (hm:mg x=aa (.ref fa)) {fd:aN} (hfun:Fun K x x st fa fd) (N:List aq) (hsc:FnScope N [p] (j0 st)) (h1:F.n=1) (hN:N.length=F.nn)
  (hts:∀(cdv:ak)(A:aI)(outer:List dz)(s:ar)(H:Hp)(E:XK)(xe:k7u),Ts ((zm CX0 P w K mg base N x (j0 st) fa cdv A outer s H E).wish xe) F.body (.ss (jg st)))
  (hlaw:∀ns:List Int,ns.length<=63->evP fu G T (n+1) x [.lst (ns.map D.int)]=.val (.bl af)):FnOk P w K mg base CX0 (lv (n+1)) fa fd [p] (Eb K):=by
 have S:FnOk P w K mg base CX0 (lv (n+1)) fa fd [p] (spP K λds d=>∃ns:List Int,ns.length<=63/\ds=[.lst (ns.map D.int)]/\d=.bl af):=by
  refine Ln (k:=lv n+1) hfun hsc (λds d ⟨ns,_,h,_⟩=>by rw[h];rfl) λcdv A outer s H E hcv hr ds d ⟨ns,hns,e1,e2⟩=>?_;subst e1 e2;have e:=hlaw ns hns;simp only[evP,hx,h1,hlam,Xx,if_false,xq,Tp,if_true]at e;have ab:j8 (qy N [D.lst (ns.map D.int)])=enter F [D.lst (ns.map D.int)]:=Ru (by rw[h1];rfl) hN;have g:Gok (zm CX0 P w K mg base N x (j0 st) fa cdv A outer s H E).nox (evP fu G T n):=λg ds'=>by
   obtain⟨f',fd',ps',q⟩:=Fj (fu:=fu) hT t n g ds';cases z:evP fu G T n g ds' with
   |val d=>rw[z]at q;exact⟨lv n,f',fd',ps',q.1,hr,q.2.1,q.2.2.1,q.2.2.2⟩
   |fresh l=>rw[z]at q;exact⟨lv n,f',fd',ps',q.1,hr,q.2.1,q.2.2.1,q.2.2.2⟩
   |err y=>rw[z]at q;exact⟨lv n,f',fd',ps',q.1,hr.mono (ph _),q.2.1,q.2.2.1,q.2.2.2⟩
   |lval d=>rw[z]at q;exact λy hy=>⟨lv n,hr.mono (ph _),q y hy⟩
   |mval d k=>rw[z]at q;exact λg' ls k ds'' h1 h2 C h3=>let ⟨a,b⟩:=q g' ls k ds'' h1 h2 C h3;⟨⟨lv n,f',fd',ps',a,hr.mono (ph _),b⟩⟩
   |merr y=>rw[z]at q;exact λg' ls k ds'' h1 h2 C h3=>let ⟨a,b⟩:=q g' ls k ds'' h1 h2 C h3;⟨⟨lv n,f',fd',ps',a,hr.mono (ph _),b⟩⟩
   |no=>trivial
  refine W2 (fu:=fu) (hts cdv A outer s H E _) (Zw t rfl rfl rfl rfl rfl (Z9 _) hr hsc.nd bR (Uk t hm hcv rfl rfl)) g (qy N _) _ ?_;rw[ab];cases ho:run fu (evP fu G T n) G F.body (enter F [D.lst (ns.map D.int)]) with
  |ret r =>
   rw[ho]at e;have e:r=.val (.bl af):=e;subst e;intro y hy;cases y with
   |val d=>cases hy;rfl
   |fresh l=>cases hy
  |next ρ'=>rw[ho]at e;cases e
  |brk _=>rw[ho]at e;cases e
  |cnt _=>rw[ho]at e;cases e
  |err _ _=>rw[ho]at e;cases e
  |no=>rw[ho]at e;cases e
 refine S.imp λvs H Q E ⟨a,ns,hv,tb,hS,hl,k⟩=>?_;subst hv;exact⟨[],_,_,tb,(λa h=>nomatch h),by rw[Jh];exact j1u hS,⟨ns,hl,rfl,rfl⟩,λv H' g e=>by cases(show v=.bl af from e);exact k H' g⟩
noncomputable def Ea(K:k7t):List (ao×aq):=Y0.filterMap λx=>(W.tabIn K x).map λq=>(q.2,v8 x)
noncomputable def tOk(K:k7t)(ts:List ao):Bool:=(Y0.all λx=>match W.nsIn K ax x with
  |some ah=>af
  |_=>match W.tabIn K x with
   |some (c,P)=>W.codeHdIn K c P&&ts.contains P
   |none=>ae)&&W.noTabs K&&decide ((Ea K).map (·.1)).Nodup
theorem jch{K:k7t}{ts:List ao}{h:aH}(hk:tOk K ts=af)(X:K.In h)(ht:∀P∈ts,h.get? P=aa (W.tabObj #[])):jaw (Ea K) h:=by
 unfold tOk at hk;rw[X8,X8]at hk;refine⟨of_decide_eq_true hk.2,λt hm=>?_⟩;obtain⟨x,hx,e⟩:=T8.mp hm;obtain⟨⟨c,P⟩,e1,e2⟩:=Ti.mp e;subst e2;have z:=Xp.mp hk.1.1 x hx;split at z
 .rename_i y;exfalso;unfold W.tabIn at e1;rw[y]at e1;cases e1
 .rw[e1]at z;have z:(W.codeHdIn K c P&&ts.contains P)=af:=z;rw[X8]at z;exact⟨⟨c,W.codeHd_of_K X z.1⟩,ht P (by simpa using z.2)⟩
theorem jks{K:k7t}{ts:List ao}{h:aH}{mg:k7w}(hk:tOk K ts=af)(X:K.In h)(Gn:h.Ns ax mg):∀x∈Y0,∀f cdv,mg x=aa (.ref f)->Ux K f cdv->∃c Pt,cdv=.ref c/\W.codeHdIn K c Pt=af/\W.tabIn K x=aa (c,Pt):=λx hx f cdv hm hcv=>by
 unfold tOk at hk;rw[X8,X8]at hk;have z:=Xp.mp hk.1.1 x hx;split at z
 .rename_i y;rw[W.mg_none_of X Gn y]at hm;cases hm
 .split at z
  .rename_i c P e;rw[X8]at z;refine⟨c,P,?_,z.1,e⟩;obtain⟨oc,od,fd,sl,e3,e4⟩:=hcv;unfold W.tabIn at e;split at e
   .rename_i f' hf;have e5:=W.mg_of X Gn hf;rw[hm]at e5;cases e5;rw[e3]at e;dsimp only at e;split at e
    .rename_i c' hc;split at e
     .split at e
      .cases e;rw[<-e4];exact hc
      .cases e
     .cases e
    .cases e
   .cases e
  .cases z
theorem jfg{K:k7t}{H:Hp}(hO:Only (Ea K) H):TabOk K H:=λx hx c P e=>hO.2 (P,v8 x) (T8.mpr ⟨x,hx,by rw[e];rfl⟩)
theorem j5t{K:k7t}{ts:List ao}(hk:tOk K ts=af):W.noTabs K=af:=by unfold tOk at hk;rw[X8,X8]at hk;exact hk.1.2
theorem walkL{l:dO}{q:az}{loose:List aq}{XP:(aq->Option ak)->aH->Prop}{YP:aF->aH->Prop}{d:DefRec}{K:lX->k7t}{k:Nat}{x:aq}{ts:List ao}(hk:k<=100)(hn:l.most=aa 63)(hdf:d.params.defaults=[])
  (hY:∀(w:aF)(h:aH),YP w h->(K w.params).In h/\∀P∈ts,h.get? P=aa (W.tabObj #[])) (hK:∀w:aF,tOk (K w.params) ts=af)
  (F:∀(w:aF)(mg:k7w)(fa:ao)(h:aH),(K w.params).In h->h.Ns ax mg->mg d.name=aa (.ref fa)->tOk (K w.params) ts=af ->
   ∃fd:aN,(∀(s:ar)(u:ak),gk s fd ⟨[u],[]⟩ [(x,u)])/\∀base:aH,(K w.params).In base->base.Ns ax mg->FnOk l.prog w (K w.params) mg base CX0 k fa fd [x] (Eb (K w.params))) :
  ic q loose XP YP l.row.toRowW d [] (λf vs=>gj f vs) :=
 L2.walk_of (n:=63) (k:=k) (x:=x) (CX:=λ_=>CX0) (sp:=λw=>Eb (K w.params)) (ts:=λw=>Ea (K w.params)) hn (by decide) hdf
  (Room.mono (k:=100) ⟨rfl,by decide,by decide⟩ hk) (λw h Y=>⟨(hY w h Y).1,jch (hK w) (hY w h Y).1 (hY w h Y).2⟩) (λw=>j5t (hK w)) (λw mg fa h X G m=>F w mg fa h X G m (hK w)) (λw H a ns hl hO hS=>⟨a,ns,rfl,jfg hO,hS,hl,λH' g=>⟨rfl,g⟩⟩) λ_ _ _ _ _ z=>z
def Lf(K:k7t)(x:aq)(st:aS):Prop:=∃(f:ao)(oc:ak)(od:Option ao)(kV dc pm:ak)(an:Option ao)(cd ct:ak)(sl:Array (Option ak)),W.nsIn K ax x=aa (aa (.ref f)) /\
 K.lookup f=aa ⟨oc,od,.func (W.fnOf x x (zr st) (jg st) (j0 st) .none kV dc pm an cd ct),sl⟩/\W.codeIn K cd x=af/\W.keepIn K (.ref f)=af
def TrT(P:az)(w:aF)(K:k7t)(mg:k7w)(base:aH)(x:aq)(N:List aq)(st:aS)(b:Sx):Prop :=
 ∀(f:ao)(cdv:ak)(A:aI)(outer:List dz)(s:ar)(H:Hp)(E:XK) (xe:k7u),Ts ((zm CX0 P w K mg base N x (j0 st) f cdv A outer s H E).wish xe) b (.ss (jg st))
noncomputable def bOk(K:k7t):Bool:=Vx.all λx=>match W.nsIn K ax x with
 |some ah=>af
 |_=>ae
section
variable{P:az}{w:aF}{K:k7t}{mg:k7w}{base h:aH}{x:aq}{st:aS}{N ps:List aq}{F:Fi}
theorem jbt(X:K.In h)(Gn:h.Ns ax mg)(hb:bOk K=af):∀x∈Vx,mg x=ah:=λx hx=>by
 have z:=Xp.mp hb x hx;split at z
 .rename_i e;exact W.mg_none_of X Gn e
 .cases z
theorem qx(L:Lf K x st)(X:K.In h)(Gn:h.Ns ax mg)(t:TrT P w K mg base x N st F.body)(ps:List aq)(sc:FnScope N ps (j0 st))(h1:ps.length=F.n)(h2:N.length=F.nn)
  (hb:∀(kV doc pm:ak)(an:Option ao)(cdv ct:ak)(us:List ak),us.length=ps.length->cY (W.fnOf x x (zr st) (jg st) (j0 st) .none kV doc pm an cdv ct) ⟨us,[]⟩=pure (ps.zip us)) (hd:x∉jin):Lk P w K mg base x F:=by
 obtain⟨f,oc,od,kV,dc,pm,an,cd,ct,sl,a,l,c,k⟩:=L;exact⟨st,f,_,N,ps,Zt l c k,sc,h1,h2,(Zt l c k).binds hb,λz=>absurd z hd,W.mg_of X Gn a,t f⟩
theorem lkF(L:Lk P w K mg base x F)(h:F.lam=ae)(hn:x.cps.toList.getLast?≠aa 62)(hh:x.cps.toList.head?≠aa 64):LkF P w K mg base x F:=⟨λ_=>.inl ⟨L,hn,hh⟩,λz=>by rw[h]at z;cases z⟩
theorem us1{us:List ak}(h:us.length=1):∃a,us=[a]:=by match us,h with|[a],_=>exact⟨a,rfl⟩
theorem us2{us:List ak}(h:us.length=2):∃a b,us=[a,b]:=by match us,h with|[a,b],_=>exact⟨a,b,rfl⟩
theorem us3{us:List ak}(h:us.length=3):∃a b c,us=[a,b,c]:=by match us,h with|[a,b,c],_=>exact⟨a,b,c,rfl⟩
end
theorem lf_mk{K:k7t}{x:aq}{st:aS}{f:ao}{oc:ak}{od:Option ao}{kV dc pm:ak}{an:Option ao}{cd ct:ak}{sl:Array (Option ak)}(a:W.nsIn K ax x=aa (aa (.ref f)))
  (l:K.lookup f=aa ⟨oc,od,.func (W.fnOf x x (zr st) (jg st) (j0 st) .none kV dc pm an cd ct),sl⟩) (c:W.codeIn K cd x=af) (k:W.keepIn K (.ref f)=af):Lf K x st:=⟨f,oc,od,kV,dc,pm,an,cd,ct,sl,a,l,c,k⟩
structure PcS(P:az)(w:aF)(K:k7t)(mg:k7w)(base:aH)(sI sA sT sL:aS):Prop where
 scI:FnScope ["self","text"] ["self","text"] (j0 sI)
 scA:FnScope ["self"] ["self"] (j0 sA)
 scT:FnScope ["self","piece"] ["self"] (j0 sT)
 scL:FnScope ["self"] ["self"] (j0 sL)
 boI:∃(n n2:Nat)(p1 p2 p3 p4 p5 p6 p7 p8 p9 p10 p11:aR),jg sI=jbi n n2 p1 p2 p3 p4 p5 p6 p7 p8 p9 p10 p11/\(p4.endLine==p6.line)=af
 boA:∃(n:Nat)(p1 p2 p3 p4 p5 p6 p7 p8 p9 p10 p11 p12 p13 p14 p15 p16:aR),jg sA=j7i n p1 p2 p3 p4 p5 p6 p7 p8 p9 p10 p11 p12 p13 p14 p15 p16
 boT:∃(n:Nat)(p1 p2 p3 p4 p5 p6 p7 p8 p9 p10 p11 p12 p13 p14:aR),jg sT=j4y n p1 p2 p3 p4 p5 p6 p7 p8 p9 p10 p11 p12 p13 p14/\∀f cdv A outer s H E,Qv (zm CX0 P w K mg base ["self","piece"] "Pieces.taken" (j0 sT) f cdv A outer s H E).nox (.Name "self" p2) "ahead" p3 p4
 boL:∃(p1 p2 p3 p4 p5 p6 p7 p8:aR),jg sL=allB p1 p2 p3 p4 p5 p6 p7 p8
 vi:Vis (j0 sI) "self"/\Vis (j0 sI) "text"/\Vis (j0 sA) "self"/\Vis (j0 sT) "self"/\Vis (j0 sL) "self"
 na:(j0 sA).names.lookup ("len":aq)=aa .globalImplicit/\(j0 sT).names.lookup ("piece":aq)=aa .local/\(j0 sL).names.lookup ("len":aq)=aa .globalImplicit
 biI:∀(kV doc pm:ak)(an:Option ao)(cdv ct:ak)(us:List ak),us.length=2->cY (W.fnOf "__init__" "Pieces.__init__" (zr sI) (jg sI) (j0 sI) .none kV doc pm an cdv ct) ⟨us,[]⟩=pure ((["self","text"]:List aq).zip us)
 biA:∀(kV doc pm:ak)(an:Option ao)(cdv ct:ak)(us:List ak),us.length=1->cY (W.fnOf "ahead" "Pieces.ahead" (zr sA) (jg sA) (j0 sA) .none kV doc pm an cdv ct) ⟨us,[]⟩=pure ((["self"]:List aq).zip us)
 biT:∀(kV doc pm:ak)(an:Option ao)(cdv ct:ak)(us:List ak),us.length=1->cY (W.fnOf "taken" "Pieces.taken" (zr sT) (jg sT) (j0 sT) .none kV doc pm an cdv ct) ⟨us,[]⟩=pure ((["self"]:List aq).zip us)
 biL:∀(kV doc pm:ak)(an:Option ao)(cdv ct:ak)(us:List ak),us.length=1->cY (W.fnOf "all_taken" "Pieces.all_taken" (zr sL) (jg sL) (j0 sL) .none kV doc pm an cdv ct) ⟨us,[]⟩=pure ((["self"]:List aq).zip us)
def Lm(K:k7t)(C f:ao)(x q:aq)(st:aS):Prop:=∃(oc:ak)(od:Option ao)(kV dc pm:ak)(an:Option ao)(cd ct:ak)(sl:Array (Option ak)),W.findIn K (.ref C) x=aa (aa (.ref f))/\W.isFn K (.ref f)=af /\
 K.lookup f=aa ⟨oc,od,.func (W.fnOf x q (zr st) (jg st) (j0 st) .none kV dc pm an cd ct),sl⟩/\W.codeIn K cd q=af/\W.keepIn K (.ref f)=af
theorem lm_mk{K:k7t}{C f:ao}{x q:aq}{st:aS}{oc:ak}{od:Option ao}{kV dc pm:ak}{an:Option ao}{cd ct:ak}{sl:Array (Option ak)}(a:W.findIn K (.ref C) x=aa (aa (.ref f)))(i:W.isFn K (.ref f)=af)
  (l:K.lookup f=aa ⟨oc,od,.func (W.fnOf x q (zr st) (jg st) (j0 st) .none kV dc pm an cd ct),sl⟩) (c:W.codeIn K cd q=af) (k:W.keepIn K (.ref f)=af):∃f,Lm K C f x q st:=⟨f,oc,od,kV,dc,pm,an,cd,ct,sl,a,i,l,c,k⟩
structure PcH(K:k7t)(C:ao)(sI sA sT sL:aS):Prop where
 at_:W.nsIn K ax "Pieces" = aa (aa (.ref C))
 pg:W.plainGet K C bJ=af
 hd:W.hasDictIn K C=af
 po:W.plainOver K C=af
 sa:W.findIn K (.ref C) "__setattr__" = aa (aa (.builtin "object.__setattr__"))
 mk_:W.makesIn K C=af
 kc:W.keepIn K (.ref C)=af
 nS:W.findIn K (.ref C) "standing" = aa ah
 nP:W.findIn K (.ref C) "spot" = aa ah
 mI:∃f,Lm K C f "__init__" "Pieces.__init__" sI
 mA:∃f,Lm K C f "ahead" "Pieces.ahead" sA
 mT:∃f,Lm K C f "taken" "Pieces.taken" sT
 mL:∃f,Lm K C f "all_taken" "Pieces.all_taken" sL
theorem jkl {P:az} {w:aF} {K:k7t} {mg:k7w} {base h:aH} {C:ao} {sI sA sT sL:aS} (S:PcS P w K mg base sI sA sT sL) (hH:PcH K C sI sA sT sL) (X:K.In h) (Gn:h.Ns ax mg) (bt:mg "len" = ah) :
  ∃C,mg "Pieces" = aa (.ref C)/\Nj P w K mg base C:=by
 obtain⟨scI,scA,scT,scL,⟨n,n2,q1,q2,q3,q4,q5,q6,q7,q8,q9,q10,q11,eI,hlI⟩,⟨nA,a1,a2,a3,a4,a5,a6,a7,a8,a9,a10,a11,a12,a13,a14,a15,a16,eA⟩,⟨nT,t1,t2,t3,t4,t5,t6,t7,t8,t9,t10,t11,t12,t13,t14,eT,hmT⟩,⟨l1,l2,l3,l4,l5,l6,l7,l8,eL⟩,⟨v1,v2,v3,v4,v5⟩,⟨g1,g2,g3⟩,biI,biA,biT,biL⟩:=S;obtain⟨atC,pg,hd,po,sa,mk,kc,nS,nP,⟨fI,ocI,odI,kVI,dcI,pmI,anI,cdI,ctI,slI,fiI,fnI,lkI,coI,kpI⟩,⟨fA,ocA,odA,kVA,dcA,pmA,anA,cdA,ctA,slA,fiA,fnA,lkA,coA,kpA⟩,⟨fT,ocT,odT,kVT,dcT,pmT,anT,cdT,ctT,slT,fiT,fnT,lkT,coT,kpT⟩,⟨fL,ocL,odL,kVL,dcL,pmL,anL,cdL,ctL,slL,fiL,fnL,lkL,coL,kpL⟩⟩:=hH;have mgC:=W.mg_of X Gn atC;have T:PcT K mg C fA fT fL fI:=⟨⟨pg,hd,po,sa⟩,nS,nP,⟨fiA,fnA,kpA⟩,⟨fiT,fnT,kpT⟩,⟨fiL,fnL,kpL⟩,⟨mk,fiI,fnI,kc⟩,mgC,bt⟩
 have FI:=Zt (st:=sI) lkI coI kpI;have FA:=Zt (st:=sA) lkA coA kpA;have FT:=Zt (st:=sT) lkT coT kpT;have FL:=Zt (st:=sL) lkL coL kpL;have GA:=j8x (P:=P) (w:=w) (mg:=mg) (base:=base) FA T scA eA v3 g1;have bA:=FA.binds (ps:=["self"]) biA;exact⟨C,mgC,fA,fT,fL,fI,_,_,_,_,T,⟨GA,bA⟩,⟨j8w FT T scT eT v4 g2 (λcdv A outer s H E=>hmT fT cdv A outer s H E) GA bA,FT.binds (ps:=["self"]) biT⟩,⟨jgv FL T scL eL v5 g3,FL.binds (ps:=["self"]) biL⟩,⟨jdg FI T scI eI v1 v2 hlI,FI.binds (ps:=["self","text"]) biI⟩⟩
def TrM(P:az)(w:aF)(K:k7t)(mg:k7w)(base:aH)(x:aq)(N:List aq)(st:aS)(p:Px):Prop :=
 ∀(f:ao)(cdv:ak)(A:aI)(outer:List dz)(s:ar)(H:Hp)(E:XK) (xe:k7u),MP ((zm CX0 P w K mg base N x (j0 st) f cdv A outer s H E).wish xe) 0 p (jg st)
section
variable{P:az}{w:aF}{K:k7t}{mg:k7w}{base h:aH}{x g:aq}{st:aS}{N ps:List aq}{F:Fi}{p:Px}
theorem j5z(hx:x=mq g)(L:Lf K g st)(X:K.In h)(Gn:h.Ns ax mg)(t:TrM P w K mg base g N st p)(ps:List aq)(sc:FnScope N ps (j0 st))(hF:F.body=.px p)(hl:F.lam=ae)(h1:ps.length+1=F.n)(h2:N.length+1=F.nn)(h3:0<ps.length)(h4:ps.length<=N.length)
  (hb:∀(kV doc pm:ak)(an:Option ao)(cdv ct:ak)(us:List ak),us.length=ps.length->cY (W.fnOf g g (zr st) (jg st) (j0 st) .none kV doc pm an cdv ct) ⟨us,[]⟩=pure (ps.zip us)) (pc:∃C,mg "Pieces" = aa (.ref C)/\Nj P w K mg base C):LkF P w K mg base x F:=by
 obtain⟨f,oc,od,kV,dc,pm,an,cd,ct,sl,a,l,c,k⟩:=L;exact⟨λ_=>.inr ⟨g,p,st,f,_,N,ps,hx,hF,Zt l c k,sc,h1,h2,h3,h4,(Zt l c k).binds hb,W.mg_of X Gn a,pc,t f⟩,λz=>by rw[hl]at z;cases z⟩
theorem jkg {C:ao} {sI sA sT sL:aS} (H:PcH K C sI sA sT sL) (X:K.In h) (Gn:h.Ns ax mg):∃fa,mg "Pieces" = aa (.ref fa)/\W.keepIn K (.ref fa)=af:=⟨C,W.mg_of X Gn H.at_,H.kc⟩
end
end L2
end
section
namespace L2
open PySem (Str sizeLine argBest)
theorem J4{n:Nat}(h:n<=1000000):n<=av:=Xg h (by decide)
theorem lt_size{n:Nat}(h:n<=1000000):n<av:=dB h (by decide)
noncomputable def Cp(o:So)(f:En->So):So:=match o with
 |.next ρ=>f ρ
 |o=>o
noncomputable def ifS(c:Option Bool)(f g:En->So)(ρ:En):So:=match c with
 |some af=>f ρ
 |some ae=>g ρ
 |none=>.no
noncomputable def Uq(is:List Nat)(f:En->So)(d:D)(ρ:En):So:=match v7 is d ρ with
 |some ρ2=>f ρ2
 |none=>.no
noncomputable def jbd(is:List Nat)(w:Option W)(f:En->So)(ρ:En):So:=match w with
 |some (.i ds)=>J1 (Uq is f) ds ρ
 |_=>.no
section
variable{fu:Nat}{Γ:aq->List D->Rc}{G:aq->Option D}{ρ:En}{i j:Nat}{e c k:Ex}{a b:Sx}{is:List Nat}
theorem jcs:run fu Γ G .nop ρ=.next ρ:=(rfl)
theorem jcq:run fu Γ G (.seq a b) ρ=Cp (run fu Γ G a ρ) (run fu Γ G b):=(rfl)
theorem jcp:run fu Γ G (.set i e) ρ=orE (Bp i (ev Γ G e ρ) ρ) (er Γ G e ρ) ρ:=(rfl)
theorem jct:run fu Γ G (.mov i j) ρ=La i j ρ[j]? ρ:=(rfl)
theorem j8f:run fu Γ G (.expr e) ρ=orE (j0y (ev Γ G e ρ) ρ) (er Γ G e ρ) ρ:=(rfl)
theorem jcr:run fu Γ G (.ret e) ρ=orE (retS (ev Γ G e ρ)) (er Γ G e ρ) ρ:=(rfl)
theorem j8t{ρ':En}{x:Option aq}:orE (.next ρ') x ρ=.next ρ':=(rfl)
theorem j2e{r:Rc}{x:Option aq}:orE (.ret r) x ρ=.ret r:=(rfl)
theorem jie:ev Γ G (.fst e) ρ=Mv (ev Γ G e ρ):=(rfl)
theorem j6h{rs:List Rk}{ys:List aq}(h:rs.length<=1000)(h2:Jf rs=aa ys):Mv (aa (.a rs))=aa (.v (.e (.str (Fy bJ ys)))):=by unfold Mv;dsimp only;rw[if_pos h,h2];rfl
noncomputable def jmr(w:Option W):Option W:=match w with
 |some (.v x)=>match x.d with
  |.str y=>if (bZ y).length<=2000 then aa (.v (.e (.str (bZ y))))else ah
  |_=>ah
 |_=>ah
theorem ji6:ev Γ G (.rpr e) ρ=jmr (ev Γ G e ρ):=(rfl)
theorem j8b:run fu Γ G (.retV i) ρ=Oa ρ[i]?:=(rfl)
theorem jcu:run fu Γ G (.ife c a b) ρ=ifS (truth (ev Γ G c ρ)) (run fu Γ G a) (run fu Γ G b) ρ:=(rfl)
theorem j8e:run fu Γ G (.loop is e a) ρ=jbd is (ev Γ G e (frz e ρ)) (run fu Γ G a) (frz e ρ):=(rfl)
theorem jcx:run fu Γ G (.app i e) ρ=K1 i ρ[i]? (ev Γ G e ρ) ρ:=(rfl)
theorem jcw:run fu Γ G (.ext i e) ρ=Lr i ρ[i]? (ev Γ G e ρ) ρ:=(rfl)
theorem jco:run fu Γ G (.unp i j e) ρ=Dz i j (stOf (ev Γ G e ρ)) ρ:=(rfl)
theorem jfa{d d':D}(h:i≠j):Dz i j (aa (.tup [d,d'])) ρ=.next ((ρ.set i (.val d)).set j (.val d')):=by unfold Dz;dsimp only;rw[if_neg h]
theorem jfl{d:D}:stOf (aa (.v (.e d)))=aa d:=(rfl)
theorem j8g{w:Nat}{e:Ex}:run fu Γ G (.apop i w e) ρ=Ov i w ρ[i]? ρ[w]? (ev Γ G e ρ) ρ:=(rfl)
theorem jey{w k:Nat}{l m:List D}{z:Int}{d:D}(hz:ixN m.length z=aa k)(hd:m[k]?=aa d)(h:i≠w)(hl:l.length<=1000000)(hm:m.length<=1000000):Ov i w (aa (.own l)) (aa (.own m)) (aa (.v (.e (.int z)))) ρ=.next ((ρ.set w (.own (m.eraseIdx k))).set i (.own (l++[d]))):=by simp only[Ov,Rk.st,hz,hd];rw[if_pos ⟨h,lt_size hl,hm⟩]
theorem jcv:run fu Γ G (.fgt i) ρ=.next (ρ.set i .un):=(rfl)
end
section
variable{f g:En->So}{ρ:En}{i j:Nat}{d:D}{l m:List D}{r:Rc}{x:Rk}
theorem j52:Cp (.next ρ) f=f ρ:=(rfl)
theorem j06:Cp (.ret r) f=.ret r:=(rfl)
theorem jl7:ifS (aa af) f g ρ=f ρ:=(rfl)
theorem jl8:ifS (aa ae) f g ρ=g ρ:=(rfl)
theorem jfp:Bp i (aa (.v (.o l))) ρ=.next (ρ.set i (.own l)):=(rfl)
theorem jfq:Bp i (aa (.v (.e d))) ρ=.next (ρ.set i (.val d)):=(rfl)
theorem jg4:retS (aa (.v (.o l)))=.ret (.fresh l):=(rfl)
theorem j5c:retS (aa (.v (.e d)))=.ret (.val d):=(rfl)
theorem jcz:Oa (aa (.own l))=.ret (.fresh l):=(rfl)
theorem jcy:Oa (aa (.val d))=.ret (.val d):=(rfl)
theorem jh2(h:i≠j):La i j (aa (.own l)) ρ=.next ((ρ.set j .un).set i (.own l)):=if_neg h
theorem jh1:La i j (aa (.val d)) ρ=.next (ρ.set i (.val d)):=(rfl)
theorem ji1:j0y (aa (.v x)) ρ=.next ρ:=(rfl)
theorem Ji:Uq [i] f d ρ=f (ρ.set i (.val d)):=(rfl)
theorem jev{a b:D}:Uq [i,j] f (.tup [a,b]) ρ=f ((ρ.set i (.val a)).set j (.val b)):=(rfl)
theorem jdp{is:List Nat}{ds:List D}:jbd is (aa (.i ds)) f ρ=J1 (Uq is f) ds ρ:=(rfl)
theorem jj4(h:l.length<=1000000):K1 i (aa (.own l)) (aa (.v (.e d))) ρ=.next (ρ.set i (.own (l++[d]))):=by simp[K1,Rk.st,lt_size h]
theorem ji0(h:l.length+m.length<=1000000):Lr i (aa (.own l)) (aa (.v (.o m))) ρ=.next (ρ.set i (.own (l++m))):=by simp[Lr,jm,J4 h]
theorem j2s:fin (.ret r)=r:=(rfl)
theorem ja1:fin (.next ρ)=.val .non:=(rfl)
theorem jt{fu:Nat}{G:aq->Option D}{T:aq->Option Fi}{n:Nat}{f:aq}{ds:List D}{F:Fi}(h:T f=aa F)(hl:ds.length=F.n)(hla:F.lam=ae:=by rfl):evP fu G T (n+1) f ds=fin (run fu (evP fu G T n) G F.body (enter F ds)):=by simp only[evP,h,if_pos hl,hla,Xx,if_false]
end
theorem Qn{f:D->En->So}(W:Nat->En->Prop):∀{ds:List D}{ρ:En}{k:Nat},W k ρ->(∀i d ρ,ds[i]?=aa d->W (k+i) ρ->∃ρ',f d ρ=.next ρ'/\W (k+i+1) ρ')->∃ρ',J1 f ds ρ=.next ρ'/\W (k+ds.length) ρ'
 |[],ρ,k,h0,_=>⟨ρ,rfl,h0⟩
 |d::ds,ρ,k,h0,hs=>by
  obtain⟨ρ1,e1,w1⟩:=hs 0 d ρ rfl h0;obtain⟨ρ2,e2,w2⟩:=Qn (f:=f) W (ds:=ds) (k:=k+1) w1 λi d' ρ' hi w=>by have:=hs (i+1) d' ρ' (by simpa using hi) (by rw[show k+(i+1)=k+1+i by omega];exact w);rw[show k+(i+1)+1=k+1+i+1 by omega]at this;exact this
  refine⟨ρ2,?_,by rw[xq,show k+(ds.length+1)=k+1+ds.length by omega];exact w2⟩;rw[J1,e1];exact e2
theorem Bw{f:D->En->So}(W:Nat->En){ds:List D}{ρ:En}(h0:ρ=W 0)(hs:∀i d,ds[i]?=aa d->f d (W i)=.next (W (i+1))):J1 f ds ρ=.next (W ds.length):=by
 obtain⟨ρ',e,w⟩:=Qn (f:=f) (λi ρ=>ρ=W i) (k:=0) (ds:=ds) (ρ:=W 0) rfl λi d ρ hi w=>⟨W (0+i+1),by rw[w,Pk];exact hs i d hi,rfl⟩
 rw[h0,e,w,Pk]
theorem Wh{f:D->En->So}{ds:List D}{ρ:En}{g:En->So}{r:Rc}(W:Nat->En->Prop)(h0:W 0 ρ)(hs:∀i d ρ,ds[i]?=aa d->W i ρ->∃ρ',f d ρ=.next ρ'/\W (i+1) ρ')(hk:∀ρ',W ds.length ρ'->fin (g ρ')=r) :
  fin (Cp (J1 f ds ρ) g)=r:=by
 obtain⟨ρ',e,w⟩:=Qn (f:=f) W (k:=0) (ds:=ds) (ρ:=ρ) h0 λi d ρ hi w=>by rw[Pk]at w ⊢;exact hs i d ρ hi w
 rw[e];rw[Pk]at w;exact hk ρ' w
theorem Kc{f:D->En->So}{ds:List D}{ρ:En}{g:En->So}{Q:En->Prop}(W:Nat->En->Prop)(h0:W 0 ρ)(hs:∀i d ρ,ds[i]?=aa d->W i ρ->∃ρ',f d ρ=.next ρ'/\W (i+1) ρ')
  (hk:∀ρ',W ds.length ρ'->∃ρ2,g ρ'=.next ρ2/\Q ρ2):∃ρ2,Cp (J1 f ds ρ) g=.next ρ2/\Q ρ2:=by
 obtain⟨ρ',e,w⟩:=Qn (f:=f) W (k:=0) (ds:=ds) (ρ:=ρ) h0 λi d ρ hi w=>by rw[Pk]at w ⊢;exact hs i d ρ hi w
 rw[e];rw[Pk]at w;exact hk ρ' w
theorem j5x{f:D->En->So}{ρ:En}:J1 f [] ρ=.next ρ:=(rfl)
theorem Fv{f:D->En->So}{d:D}{ds:List D}{ρ ρ':En}(h:f d ρ=.next ρ'):J1 f (d::ds) ρ=J1 f ds ρ':=by rw[J1,h]
noncomputable def jbk(d:Option D):Option W:=d.map λd=>.v (.e d)
noncomputable def j9q(i:Option Int):Option W:=i.map λk=>.v (.e (.int k))
noncomputable def jht(a:Option W):Option W:=match a with
 |some (.v x)=>aa (.v (.e (.bl x.d.isNon)))
 |_=>ah
noncomputable def jau(k:Option Bool)(f:En->Option W)(ρ:En):Option W:=match k with
 |some ae=>aa (.v (.e (.bl ae)))
 |some af=>blW (truth (f ρ))
 |none=>ah
noncomputable def orW(k:Option Bool)(f:En->Option W)(ρ:En):Option W:=match k with
 |some af=>aa (.v (.e (.bl af)))
 |some ae=>blW (truth (f ρ))
 |none=>ah
noncomputable def jgx(k:Option Bool):Option W:=k.map λk=>.v (.e (.bl (!k)))
noncomputable def stW(a:Option W):Option W:=match a with
 |some (.v x)=>x.st.map λd=>.v (.e d)
 |_=>ah
noncomputable def j9g(k:Option Bool)(f g:En->Option W)(ρ:En):Option W:=match k with
 |some af=>stW (f ρ)
 |some ae=>stW (g ρ)
 |none=>ah
noncomputable def slW(a:Option W)(l h:Option (Option Int)):Option W:=match a,l,h with
 |some (.v x),aa l,aa h=>match x.sq with
  |some (af,ds)=>aa (.v (.o (cutD ds l h)))
  |some (ae,ds)=>if HT.sIx ds.length 0 l=0/\HT.sIx ds.length ds.length h=ds.length then ah else aa (.v (.e (.tup (cutD ds l h))))
  |none=>match x.d with
   |.str z=>if jm z.length=af then aa (.v (.e (.str (cb z l h))))else ah
   |_=>ah
 |_,_,_=>ah
noncomputable def Z8(is:List Nat)(c e:En->Option W)(ρ:En)(d:D):Option (Option D):=match v7 is d ρ with
 |none=>ah
 |some ρ2=>match c ρ2 with
  |some (.a [])=>match e ρ2 with
   |some (.v x)=>x.st.map aa
   |_=>ah
  |some (.a [y])=>match y.d with
   |.bl af=>match e ρ2 with
    |some (.v x)=>x.st.map aa
    |_=>ah
   |.bl ae=>aa ah
   |_=>ah
  |_=>ah
noncomputable def j4a(is:List Nat)(w:Option W)(c e:En->Option W)(z:Bool)(ρ:En):Option W:=match w with
 |some (.i ds)=>if Ej is ρ=af/\jm ds.length=af then(Jw (Z8 is c e ρ) ds).bind λl=>if (z && !qw l)=af then ah else aa (.v (.o l))else ah
 |_=>ah
section
variable{Γ:aq->List D->Rc}{G:aq->Option D}{ρ:En}{a b c e:Ex}{op:Bop}{cp:Cop}{x f:aq}{i:Nat}{d:D}
theorem jia:ev Γ G (.lit d) ρ=aa (.v (.e d)):=(rfl)
theorem ji3:ev Γ G (.var i) ρ=Dy ρ[i]?:=(rfl)
theorem jee:ev Γ G (.glob x) ρ=jbk (G x):=(rfl)
theorem jii:ev Γ G (.bin op a b) ρ=Qz op (ev Γ G a ρ) (ev Γ G b ρ):=(rfl)
theorem jig:ev Γ G (.cmp cp a b) ρ=Ly cp (ev Γ G a ρ) (ev Γ G b ρ):=(rfl)
theorem jid:ev Γ G (.isN a) ρ=jht (ev Γ G a ρ):=(rfl)
theorem jij:ev Γ G (.and a b) ρ=jau (truth (ev Γ G a ρ)) (ev Γ G b) ρ:=(rfl)
theorem jli:ev Γ G (.or a b) ρ=orW (truth (ev Γ G a ρ)) (ev Γ G b) ρ:=(rfl)
theorem ji7:ev Γ G (.not a) ρ=jgx (truth (ev Γ G a ρ)):=(rfl)
theorem jib:ev Γ G (.ite c a b) ρ=j9g (truth (ev Γ G c ρ)) (ev Γ G a) (ev Γ G b) ρ:=(rfl)
theorem ji8:ev Γ G .nil ρ=aa (.a []):=(rfl)
theorem jeh:ev Γ G (.cons a b) ρ=consW (ev Γ G a ρ) (ev Γ G b ρ):=(rfl)
theorem ji4:ev Γ G (.tup a) ρ=Yp (ev Γ G a ρ):=(rfl)
theorem ji9:ev Γ G (.lst a) ρ=Vz (ev Γ G a ρ):=(rfl)
theorem jlj:ev Γ G (.ix a b) ρ=ixW (ev Γ G a ρ) (ev Γ G b ρ):=(rfl)
theorem jlh:ev Γ G (.sl a b c) ρ=slW (ev Γ G a ρ) (Qq (ev Γ G b ρ)) (Qq (ev Γ G c ρ)):=(rfl)
theorem jed{sep:aq}:ev Γ G (.join sep a) ρ=Uo sep (ev Γ G a ρ):=(rfl)
theorem jec:ev Γ G (.lset a) ρ=Ws (ev Γ G a ρ):=(rfl)
theorem jac{y z:aq}:Je .isin (.str y) (.str z)=aa (inS y z):=(rfl)
theorem jfs{y:aq}(h:ascii y=af):M5 (aa (.v (.e (.str y))))=aa (.i (chs y)):=if_pos h
theorem jeg{b:Ex}:ev Γ G (.dzip a b) ρ=Ra (ev Γ G a ρ) (ev Γ G b ρ):=(rfl)
theorem jif{b:Ex}:ev Γ G (.dix a b) ρ=Lw (ev Γ G a ρ) (ev Γ G b ρ):=(rfl)
theorem jim{kvs:List (aq×Int)}{k:aq}{n:Int}(h:Qy kvs k=aa n):Lw (aa (.v (.e (.sct kvs)))) (aa (.v (.e (.str k))))=aa (.v (.e (.int n))):=by simp only[Lw,Rk.d,h];rfl
theorem jef:ev Γ G (.enum a) ρ=Dm (ev Γ G a ρ):=(rfl)
theorem jej:ev Γ G (.call f a) ρ=Qe Γ f (ev Γ G a ρ):=(rfl)
theorem jih{f:Bf}:ev Γ G (.blt f a) ρ=J0 f (ev Γ G a ρ):=(rfl)
theorem jic{ts:List String}:ev Γ G (.isi a ts) ρ=Li (ev Γ G a ρ) ts:=(rfl)
theorem jei{is:List Nat}:ev Γ G (.comp is e a c) ρ=j4a is (ev Γ G a (frz a ρ)) (ev Γ G c) (ev Γ G e) (Jo a ρ) (frz a ρ):=(rfl)
theorem ji5:ev Γ G (.seq a) ρ=M5 (ev Γ G a ρ):=(rfl)
theorem ja3:ev Γ G (.range a) ρ=Ma (ev Γ G a ρ):=(rfl)
theorem ji2:ev Γ G (.zip a b) ρ=Eo (ev Γ G a ρ) (ev Γ G b ρ):=(rfl)
end
section
variable{x y:Rk}{d:D}{i j k:Int}{l m:List D}{b:Bool}{f g:En->Option W}{ρ:En}{xs:List Rk}{op:Bop}{cp:Cop}
theorem jf7:Dy (aa (.val d))=aa (.v (.e d)):=(rfl)
theorem jf8:Dy (aa (.own l))=aa (.v (.w l)):=(rfl)
theorem je6:jbk (aa d)=aa (.v (.e d)):=(rfl)
theorem jhu:j9q (aa i)=aa (.v (.e (.int i))):=(rfl)
theorem jln:blW (aa b)=aa (.v (.e (.bl b))):=(rfl)
theorem jj1:Qz op (aa (.v (.e (.int i)))) (aa (.v (.e (.int j))))=j9q (binI op i j):=by simp only[Qz,Ro,Rk.d,j9q,rkW];cases binI op i j<;>rfl
theorem jar:binI .add i j=aa (i+j):=(rfl)
theorem jam:binI .sub i j=aa (i-j):=(rfl)
theorem jap(h:(-18446744073709551616<i/\i<18446744073709551616)\/(-18446744073709551616<j/\j<18446744073709551616)):binI .mul i j=aa (i*j):=if_pos h
theorem j7g(h:0<j/\j<18446744073709551616):binI .fdiv i j=aa (i/j):=if_pos h
theorem jaq(h:0<j):binI .mod i j=aa (i%j):=if_pos h
theorem jao(h:0<=j/\j<=1000000/\i.natAbs<18446744073709551616):binI .pow i j=aa (i^j.toNat):=if_pos h
theorem jan(h:0<=j/\j<=1000000/\i.natAbs<18446744073709551616):binI .shl i j=aa (i*2^j.toNat):=if_pos h
theorem jix(h:l.length+m.length<=1000000):Qz .add (aa (.v (.o l))) (aa (.v (.w m)))=aa (.v (.o (l++m))):=by simp[Qz,Ro,Rk.d,Rk.sq,jm,J4 h,rkW]
theorem jiw(h:l.length+m.length<=1000000):Qz .add (aa (.v (.e (.tup l)))) (aa (.v (.e (.tup m))))=aa (.v (.e (.tup (l++m)))):=by simp[Qz,Ro,Rk.d,Rk.sq,jm,J4 h,rkW]
theorem jkc(h:-9223372036854775808<=k/\k<9223372036854775808)(h2:l.length*k.toNat<=1000000):Qz .mul (aa (.v (.o l))) (aa (.v (.e (.int k))))=aa (.v (.o (aA k.toNat l).flatten)):=by simp only[Qz,Ro,Rk.d,Rk.sq,Rk.lw];rw[if_pos ⟨h.1,h.2,decide_eq_true (J4 h2)⟩];rfl
theorem jiq:Ly cp (aa (.v x)) (aa (.v y))=blW (Je cp x.d y.d):=(rfl)
theorem d_e:(Rk.e d).d=d:=(rfl)
theorem d_o:(Rk.o l).d=.lst l:=(rfl)
theorem d_w:(Rk.w l).d=.lst l:=(rfl)
theorem jir:Je cp (.int i) (.int j)=cmpI cp i j:=by cases cp<;>rfl
theorem jab{a b:Bool}:Je .ne (.bl a) (.bl b)=aa (a != b):=(rfl)
theorem jae{a b:Bool}:Je .eq (.bl a) (.bl b)=aa (a==b):=(rfl)
theorem Nf(h:(D.lst l).dep<=90)(h2:(D.lst m).dep<=90):Je .eq (.lst l) (.lst m)=aa (J3 l m):=by simp[Je,h,h2,j10,j12]
theorem jad{a b:aq}:Je .eq (.str a) (.str b)=aa (a==b):=by simp[Je,D.dep,j11]
theorem j75:Je .eq (.lst []) (.lst [])=aa (J3 [] []):=Nf (by simp[D.dep,D.depL]) (by simp[D.dep,D.depL])
theorem j6v(h:i<j):cmpI .lt i j=aa af:=by simp[cmpI,h]
theorem j6w(h:j<=i):cmpI .lt i j=aa ae:=by simp[cmpI];omega
theorem j6x(h:i<=j):cmpI .le i j=aa af:=by simp[cmpI,h]
theorem j6y(h:j<i):cmpI .le i j=aa ae:=by simp[cmpI];omega
theorem j6z(h:j<i):cmpI .gt i j=aa af:=by simp[cmpI,h]
theorem j70(h:i<=j):cmpI .gt i j=aa ae:=by simp[cmpI];omega
theorem j71(h:j<=i):cmpI .ge i j=aa af:=by simp[cmpI,h]
theorem j72(h:i<j):cmpI .ge i j=aa ae:=by simp[cmpI];omega
theorem j73(h:i=j):cmpI .eq i j=aa af:=by simp[cmpI,h]
theorem j74(h:i≠j):cmpI .eq i j=aa ae:=by simp[cmpI,h]
theorem jep:cmpI .gt i j=aa (decide (j<i)):=(rfl)
theorem Ri:cmpI .ge i j=aa (decide (j<=i)):=(rfl)
theorem jdm{a b:D}(h:Jk a=af):Vz (aa (.a [.t a,.e b]))=aa (.v (.o [a,b])):=by simp[Vz,vy,Rk.st,h,jm,J4 (show 2<=1000000 by decide)]
theorem W9:cmpI .eq i j=aa (decide (i=j)):=(rfl)
theorem jhs:jht (aa (.v x))=aa (.v (.e (.bl x.d.isNon))):=(rfl)
theorem jce:truth (aa (.v (.e (.bl b))))=aa b:=(rfl)
theorem j7u:truth (aa (.v (.t (.bl b))))=aa b:=(rfl)
theorem jj9:jau (aa ae) f ρ=aa (.v (.e (.bl ae))):=(rfl)
theorem jj8:jau (aa af) f ρ=blW (truth (f ρ)):=(rfl)
theorem jkm:orW (aa ae) f ρ=blW (truth (f ρ)):=(rfl)
theorem jgw:jgx (aa b)=aa (.v (.e (.bl (!b)))):=(rfl)
theorem jk5:stW (aa (.v (.e d)))=aa (.v (.e d)):=(rfl)
theorem jho:j9g (aa af) f g ρ=stW (f ρ):=(rfl)
theorem jhp:j9g (aa ae) f g ρ=stW (g ρ):=(rfl)
theorem jeo:consW (aa (.v x)) (aa (.a xs))=aa (.a (x::xs)):=(rfl)
theorem Es(h:vy xs=aa l)(hl:l.length<=1000000):Yp (aa (.a xs))=aa (.v (.e (.tup l))):=by simp[Yp,h,jm,J4 hl]
theorem j5w(h:vy xs=aa l)(hl:l.length<=1000000):Vz (aa (.a xs))=aa (.v (.o l)):=by simp[Vz,h,jm,J4 hl]
theorem jff:Yp (aa (.a []))=aa (.v (.e (.tup []))):=by simp[Yp,vy,jm]
theorem jfe{a:D}:Yp (aa (.a [.e a]))=aa (.v (.e (.tup [a]))):=Es rfl (by simp)
theorem jfd{a b:D}:Yp (aa (.a [.e a,.e b]))=aa (.v (.e (.tup [a,b]))):=Es rfl (by simp)
theorem jh8:Vz (aa (.a []))=aa (.v (.o [])):=by simp[Vz,vy,jm]
theorem jh7{a:D}:Vz (aa (.a [.e a]))=aa (.v (.o [a])):=j5w rfl (by simp)
theorem jh6{a b:D}:Vz (aa (.a [.e a,.e b]))=aa (.v (.o [a,b])):=j5w rfl (by simp)
theorem jfc{a b c:D}:Yp (aa (.a [.e a,.e b,.e c]))=aa (.v (.e (.tup [a,b,c]))):=Es rfl (by simp)
noncomputable def Eg(o:Option D):Option W:=o.map λd=>.v (.e d)
theorem j2o:Eg (aa d)=aa (.v (.e d)):=(rfl)
theorem jhk:ixW (aa (.v (.e (.lst l)))) (aa (.v (.e (.int i))))=Eg (atI l i):=(rfl)
theorem jhj:ixW (aa (.v (.e (.tup l)))) (aa (.v (.e (.int i))))=Eg (atI l i):=(rfl)
theorem jl4:ixW (aa (.v (.o l))) (aa (.v (.e (.int i))))=Eg (atI l i):=(rfl)
noncomputable def jiu(c:Option Nat):Option W:=match c with
 |some c=>aa (.v (.e (.str ⟨#[c]⟩)))
 |none=>ah
theorem jit{c:Nat}:jiu (aa c)=aa (.v (.e (.str ⟨#[c]⟩))):=(rfl)
theorem jl3{z:aq}(h:z.length<=1000000):ixW (aa (.v (.e (.str z)))) (aa (.v (.e (.int i))))=jiu (atI z.cps.toList i):=by simp only[ixW,Rk.sq,Rk.d,jm,J4 h,decide_true,if_true];cases atI z.cps.toList i<;>rfl
theorem jk7{z:aq}{lo hi:Option Int}(h:z.length<=1000000):slW (aa (.v (.e (.str z)))) (aa lo) (aa hi)=aa (.v (.e (.str (cb z lo hi)))):=by simp only[slW,Rk.sq,Rk.d,jm,J4 h,decide_true,if_true]
theorem j1b{y z:aq}(h:y.length+z.length<=1000000):Qz .add (aa (.v (.e (.str y)))) (aa (.v (.e (.str z))))=aa (.v (.e (.str (y++z)))):=by simp[Qz,Ro,Rk.d,jm,J4 h,rkW]
theorem jky{z:aq}(h:z.length<=1000000):J0 .len (aa (.a [.e (.str z)]))=aa (.v (.e (.int z.length))):=by simp only[J0,Zy,Rk.d,jm,J4 h,decide_true,if_true];rfl
theorem jl5{k:Bool}:J0 .int (aa (.a [.e (.bl k)]))=aa (.v (.e (.int (if k then 1 else 0)))):=(rfl)
theorem Yd{ns:List Int}:intsOf (ns.map D.int)=aa ns:=by
 induction ns with
 |nil=>rfl
 |cons b bs ih=>rw[xx,intsOf,ih];rfl
theorem Zn{ns:List aq}:strsOf (ns.map D.str)=aa ns:=by
 induction ns with
 |nil=>rfl
 |cons b bs ih=>rw[xx,strsOf,ih];rfl
theorem jk4{ns:List Int}:J0 .sum (aa (.a [.o (ns.map D.int)]))=aa (.v (.e (.int ns.sum))):=by simp only[J0,Zy,Rk.d,Yd];rfl
theorem jfk{ns:List Int}:J0 .sum (aa (.a [.e (.lst (ns.map D.int))]))=aa (.v (.e (.int ns.sum))):=by simp only[J0,Zy,Rk.d,Yd];rfl
theorem Oh{sep:aq}{ts:List aq}(h:cu sep ts=af):Uo sep (aa (.v (.o (ts.map D.str))))=aa (.v (.e (.str (br sep ts)))):=by simp only[Uo,Rk.d,Zn,h,if_true]
theorem jdn{ts:List aq}(h:ts.length<4000):Ws (aa (.v (.w (ts.map D.str))))=aa (.v (.e (.int (dd ts).length))):=by simp only[Ws,Rk.d,Zn,h,if_true]
theorem ja5:Dm (aa (.v (.e (.lst l))))=aa (.i (Jv l)):=(rfl)
theorem jak:Qq (aa (.a []))=aa ah:=(rfl)
theorem jaj:Qq (aa (.a [.e (.int i)]))=aa (aa i):=(rfl)
variable{lo hi:Option Int}
variable{Γ:aq->List D->Rc}{fn:aq}
noncomputable def rcW(r:Rc):Option W:=match r with
 |.val d=>aa (.v (.e d))
 |.fresh l=>aa (.v (.o l))
 |_=>ah
theorem jkd:rcW (.val d)=aa (.v (.e d)):=(rfl)
theorem jke:rcW (.fresh l)=aa (.v (.o l)):=(rfl)
theorem Ym(h:vy xs=aa l):Qe Γ fn (aa (.a xs))=rcW (Γ fn l):=by simp only[Qe,h];cases Γ fn l<;>rfl
theorem jet{a:D}:Qe Γ fn (aa (.a [.e a]))=rcW (Γ fn [a]):=Ym rfl
theorem jes{a b:D}:Qe Γ fn (aa (.a [.e a,.e b]))=rcW (Γ fn [a,b]):=Ym rfl
theorem jer{a b c:D}:Qe Γ fn (aa (.a [.e a,.e b,.e c]))=rcW (Γ fn [a,b,c]):=Ym rfl
theorem jag:Qe Γ fn (aa (.a [.o l]))=rcW (Γ fn [.lst l]):=Ym rfl
theorem jah{a:D}:Qe Γ fn (aa (.a [.e a,.o l]))=rcW (Γ fn [a,.lst l]):=Ym rfl
noncomputable def rcT(r:Rc):Option W:=match r with
 |.val d=>aa (.v (.t d))
 |.fresh l=>if qw l=af then aa (.v (.o l))else ah
 |_=>ah
theorem j3j:rcT (.val d)=aa (.v (.t d)):=(rfl)
theorem Oo(h:vy xs=ah):Qe Γ fn (aa (.a xs))=rcT (Γ fn (xs.map Rk.d)):=by simp only[Qe,h];cases Γ fn (xs.map Rk.d)<;>rfl
theorem jaf{a b:D}:Qe Γ fn (aa (.a [.w m,.e a,.e b]))=rcT (Γ fn [.lst m,a,b]):=Oo rfl
theorem jbh:J0 .len (aa (.a [.e (.lst l)]))=aa (.v (.e (.int l.length))):=(rfl)
theorem jbg:J0 .len (aa (.a [.e (.tup l)]))=aa (.v (.e (.int l.length))):=(rfl)
theorem jkx:J0 .len (aa (.a [.w l]))=aa (.v (.e (.int l.length))):=(rfl)
theorem jh3:J0 .min (aa (.a [.e (.int i),.e (.int j)]))=aa (.v (.e (.int (if j<i then j else i)))):=(rfl)
theorem jcd:J0 .tuple (aa (.a [.o l]))=aa (.v (.e (.tup l))):=(rfl)
theorem jcc:J0 .tuple (aa (.a [.w l]))=aa (.v (.e (.tup l))):=(rfl)
theorem j1y{bs:List Bool}:boolsOf (bs.map D.bl)=aa bs:=by
 induction bs with
 |nil=>rfl
 |cons b bs ih=>rw[xx,boolsOf,ih];rfl
theorem jlp{bs:List Bool}:J0 .all (aa (.a [.o (bs.map D.bl)]))=aa (.v (.e (.bl (bs.all id)))):=by simp only[J0,Zy,Rk.d,j1y];rfl
theorem jhr{ts:List String}:Li (aa (.v x)) ts=blW (qp x.d ts):=(rfl)
theorem jcm:M5 (aa (.v (.e (.lst l))))=aa (.i l):=(rfl)
theorem jcl:M5 (aa (.v (.e (.tup l))))=aa (.i l):=(rfl)
theorem jft:M5 (aa (.v (.o l)))=aa (.i l):=(rfl)
theorem j8l(h:-4611686018427387904<=i/\i<4611686018427387904):Ma (aa (.a [.e (.int i)]))=aa (.i (upto 0 i.toNat)):=if_pos h
theorem jc4:Eo (aa (.v (.e (.tup l)))) (aa (.v (.e (.tup m))))=aa (.i (Zk l m)):=(rfl)
theorem ql{is:List Nat}{c e:En->Option W}{z:Bool}{ds l:List D}(hf:Ej is ρ=af)(hl:ds.length<=1000000)(h:Jw (Z8 is c e ρ) ds=aa l)(hz:z=ae\/qw l=af):j4a is (aa (.i ds)) c e z ρ=aa (.v (.o l)):=by simp only[j4a,hf,jm,J4 hl,decide_true,and_self,if_true,h,fJ];rcases hz with z|z<;>simp[z]
theorem zf{i:Nat}{c e:En->Option W}(hc:c (ρ.set i (.val d))=aa (.a [])){d':D}(he:e (ρ.set i (.val d))=aa (.v (.e d'))):Z8 [i] c e ρ d=aa (aa d'):=by simp[Z8,v7,hc,he,Rk.st]
theorem Wf{i:Nat}{c e:En->Option W}{b:Bool}{d':D}(hc:c (ρ.set i (.val d))=aa (.a [.e (.bl b)]))(he:b=af->e (ρ.set i (.val d))=aa (.v (.e d'))):Z8 [i] c e ρ d=aa (if b=af then aa d' else ah):=by
 cases b with
 |true=>simp[Z8,v7,hc,he rfl,Rk.st,Rk.d]
 |false=>simp[Z8,v7,hc,Rk.d]
theorem j24{i j:Nat}{c e:En->Option W}{a b:D}(hc:c ((ρ.set i (.val a)).set j (.val b))=aa (.a [])){d':D}(he:e ((ρ.set i (.val a)).set j (.val b))=aa (.v (.e d'))):Z8 [i,j] c e ρ (.tup [a,b])=aa (aa d'):=by simp[Z8,v7,hc,he,Rk.st]
theorem Vy{α:Type}{xs:List α}{n:Nat}{x:α}(h:xs[n]?=aa x):atI xs (n:Int)=aa x:=Zj h
end
section
theorem j9j:qp .non ["list","tuple"]=aa ae:=by simp[qp,zj,D.ty]
theorem j9m {b:Bool}:qp (.bl b) ["list","tuple"]=aa ae:=by simp[qp,zj,D.ty]
theorem je0 {b:Bool}:qp (.bl b) ["bool"]=aa af:=by simp[qp,zj,D.ty]
theorem jdv {b:Bool}:qp (.bl b) ["str"]=aa ae:=by simp[qp,zj,D.ty]
theorem j9p {b:Bool}:qp (.bl b) ["int","str"]=aa af:=by simp[qp,zj,D.ty]
theorem j9l {i:Int}:qp (.int i) ["list","tuple"]=aa ae:=by simp[qp,zj,D.ty]
theorem jdz {i:Int}:qp (.int i) ["bool"]=aa ae:=by simp[qp,zj,D.ty]
theorem jdu {i:Int}:qp (.int i) ["str"]=aa ae:=by simp[qp,zj,D.ty]
theorem j9o {i:Int}:qp (.int i) ["int","str"]=aa af:=by simp[qp,zj,D.ty]
theorem j9i {z:aq}:qp (.str z) ["list","tuple"]=aa ae:=by simp[qp,zj,D.ty]
theorem jdy {z:aq}:qp (.str z) ["bool"]=aa ae:=by simp[qp,zj,D.ty]
theorem jdt {z:aq}:qp (.str z) ["str"]=aa af:=by simp[qp,zj,D.ty]
theorem j9n {z:aq}:qp (.str z) ["int","str"]=aa af:=by simp[qp,zj,D.ty]
theorem j9h {l:List D}:qp (.tup l) ["list","tuple"]=aa af:=by simp[qp,zj,D.ty]
theorem jdw {l:List D}:qp (.tup l) ["list"]=aa ae:=by simp[qp,zj,D.ty]
theorem j9k {l:List D}:qp (.lst l) ["list","tuple"]=aa af:=by simp[qp,zj,D.ty]
theorem jdx {l:List D}:qp (.lst l) ["list"]=aa af:=by simp[qp,zj,D.ty]
theorem je2:D.isNon .non=af:=(rfl)
theorem je4{b:Bool}:D.isNon (.bl b)=ae:=(rfl)
theorem je3{i:Int}:D.isNon (.int i)=ae:=(rfl)
theorem je1{z:aq}:D.isNon (.str z)=ae:=(rfl)
end
section
noncomputable abbrev Q7(r:List Int):D:=.tup (r.map .int)
noncomputable abbrev Jp(rs:List (List Int)):List D:=rs.map Q7
theorem jy{α:Type}{f:D->Option (Option D)}{h g:α->D}{L:List α}(q:∀x∈L,f (h x)=aa (aa (g x))):Jw f (L.map h)=aa (L.map g):=by
 induction L with
 |nil=>rfl
 |cons x L ih=>rw[xx,Jw,q x (xj ..),ih λy hy=>q y (xf _ hy)];rfl
theorem Ry{α:Type}{f:D->Option (Option D)}{h g:α->D}{p:α->Bool}{L:List α}(q:∀x∈L,f (h x)=aa (if p x=af then aa (g x)else ah)):Jw f (L.map h)=aa ((L.filter p).map g):=by
 induction L with
 |nil=>rfl
 |cons x L ih =>
  rw[xx,Jw,q x (xj ..),ih λy hy=>q y (xf _ hy)];by_cases z:p x=af
  .rw[if_pos z,gS z];rfl
  .rw[if_neg z,gT z]
theorem Rh{f:D->Option (Option D)}:∀{ds:List D},(∀d∈ds,f d=aa ah)->Jw f ds=aa []
 |[],_=>rfl
 |d::ds,h=>by rw[Jw,h d (xj ..),Rh λd hd=>h d (xf _ hd)]
theorem take_snoc{α:Type}{l:List α}{i:Nat}{x:α}(h:l[i]?=aa x):l.take (i+1)=l.take i++[x]:=by rw[S6,h];rfl
theorem By{α β:Type}{f:α->β}{l:List α}{i:Nat}{y:β}(h:(l.map f)[i]?=aa y):∃x,l[i]?=aa x/\y=f x:=by
 rw[xu]at h;cases e:l[i]? with
 |none=>rw[e]at h;cases h
 |some x=>rw[e]at h;cases h;exact⟨x,rfl,rfl⟩
theorem j9f{α:Type}{c:Prop}[Decidable c]{x:α}:(if c then x else x)=x:=by split<;>rfl
theorem j60{l:List D}(h:J6 (.tup l)):l.length<=1000/\Z5 l:=by simpa [J6]using h
theorem j62{l:List D}(h:J6 (.lst l)):l.length<=1000/\Z5 l:=by simpa [J6]using h
end
section
theorem O1(p:List Int):D.depL (p.map D.int)=0:=by
 induction p with
 |nil=>rfl
 |cons t ts ih=>simp[D.depL,D.dep,ih]
end
section
variable{fu:Nat}{Γ:aq->List D->Rc}{G:aq->Option D}{ls:List aq}{ρ:En}{i j k:Nat}{e c es m:Ex}{f x y:aq}{b r:Px}
theorem jfy{p:Px}:run fu Γ G (.px p) ρ=pxS ρ[0]? ρ[1]? λls k=>jd fu Γ G ls p (.exc rfN::ρ.drop 2) k:=(rfl)
theorem j8c {p:Px}:run fu Γ G (.newP i e p) ρ=newS (decide (i<ρ.length)) (ev Γ G e ρ) (G (qm "Pieces")) λls=>jd fu Γ G ls p (ρ.set i (.exc rfN)) 0:=(rfl)
noncomputable def jbn:Sm->So
 |.ret d k'=>.ret (.mval d k')
 |.err x _=>.ret (.merr x)
 |_=>.no
noncomputable def jbo:Sm->So
 |.next ρ' _=>.next ρ'
 |.ret d _=>.ret (.val d)
 |.err x ρ'=>.err x ρ'
 |.no=>.no
theorem je9{d:D}:jbn (.ret d k)=.ret (.mval d k):=(rfl)
theorem jea{d:D}:jbo (.ret d k)=.ret (.val d):=(rfl)
theorem j3k{g:List aq->Nat->Sm}:pxS (aa (.val (.lst (ls.map D.str)))) (aa (.val (.int (k:Int)))) g=jbn (g ls k):=by simp only[pxS,Zn,fB,if_true,Xb];cases g ls k<;>rfl
theorem jgz {t:aq} {d:D} {g:List aq->Sm} (h1:t.length<=100000) (h2:(aK t " ").length<=1000000):newS af (aa (.v (.e (.str t)))) (aa d) g=jbo (g (aK t " ")):=by
 have z:jm (aK t " ").length=af:=by simp[jm,J4 h2]
 simp only[newS,Rk.d];rw[if_pos ⟨h1,z⟩];cases g (aK t " ")<;>rfl
theorem j8j:jd fu Γ G ls .nop ρ k=.next ρ k:=by rw[jd]
theorem j8h:jd fu Γ G ls (.set i e r) ρ k=j3b i (ev Γ G e ρ) ρ λρ=>jd fu Γ G ls r ρ k:=by rw[jd]
theorem j3e:jd fu Γ G ls (.ifRai c x m r) ρ k=ifP (truth (ev Γ G c ρ)) (Wn x (ev Γ G m ρ) (G (bang x)) ρ) (jd fu Γ G ls r ρ k):=by rw[jd]
theorem j3f:jd fu Γ G ls (.ifCal c f es r) ρ k=ifP (truth (ev Γ G c ρ)) (Rm G (Ye Γ ls f (ev Γ G es ρ) k) ρ Sm.ret) (jd fu Γ G ls r ρ k):=by rw[jd]
theorem j8i:jd fu Γ G ls (.ret e) ρ k=Cv (ev Γ G e ρ) k:=by rw[jd]
theorem j58:jd fu Γ G ls (.take i r) ρ k=jd fu Γ G ls r (ρ.set i (.val (.str (ls.getD k "")))) (k+1):=by rw[jd]
theorem j3d:jd fu Γ G ls (.takeE r) ρ k=jd fu Γ G ls r ρ (k+1):=by rw[jd]
theorem j1p:jd fu Γ G ls (.takeIf i c e r) ρ k=ifP (truth (ev Γ G c ρ)) (jd fu Γ G ls r (ρ.set i (.val (.str (ls.getD k "")))) (k+1)) (j32 i (stOf (ev Γ G e ρ)) ρ λρ=>jd fu Γ G ls r ρ k):=by rw[jd]
theorem j3h:jd fu Γ G ls (.callS i f es r) ρ k=Rm G (Ye Γ ls f (ev Γ G es ρ) k) ρ λd k'=>jd fu Γ G ls r (ρ.set i (.val d)) k':=by rw[jd]
theorem j59:jd fu Γ G ls (.appC i f es r) ρ k=j3o ρ[i]? (Rm G (Ye Γ ls f (ev Γ G es ρ) k) ρ λd k'=>j4j i ρ[i]? ρ d λρ=>jd fu Γ G ls r ρ k'):=by rw[jd]
theorem j57:jd fu Γ G ls (.whlA y b r) ρ k=Zm (λρ k=>jd fu Γ G ls b ρ k) (λρ k=>jd fu Γ G ls r ρ k) y ls fu ρ k:=by rw[jd]
theorem j3g:jd fu Γ G ls (.ifAll x m r) ρ k=if ls.length<=k then jd fu Γ G ls r ρ k else Wn x (ev Γ G m ρ) (G (bang x)) ρ:=by rw[jd]
theorem jfr{l:List D}{g:En->Sm}:j3b i (aa (.v (.o l))) ρ g=g (ρ.set i (.own l)):=(rfl)
theorem jg5{d:D}:Cv (aa (.v (.e d))) k=.ret d k:=(rfl)
theorem jl9{a b:Sm}:ifP (aa af) a b=a:=(rfl)
theorem jla{a b:Sm}:ifP (aa ae) a b=b:=(rfl)
theorem jiz{d:D}{g:D->Nat->Sm}:Rm G (.mval d k) ρ g=g d k:=(rfl)
theorem jeu{d:D}:Ye Γ ls f (aa (.a [.e d])) k=Γ (mq f) [.lst (ls.map D.str),.int (k:Int),d]:=(rfl)
theorem jj5{l:List D}{d:D}{g:En->Sm}(h:l.length<=1000000):j4j i (aa (.own l)) ρ d g=g (ρ.set i (.own (l++[d]))):=if_pos (lt_size h)
theorem jgl{l:List D}{s:Sm}:j3o (aa (.own l)) s=s:=(rfl)
theorem jf9{d:D}{g:En->Sm}:j32 i (aa d) ρ g=g (ρ.set i (.val d)):=(rfl)
theorem mget {ls:List aq} {k:Nat} {x:aq} (h:ls[k]?=aa x):ls.getD k "" = x:=by rw[kj,h];rfl
end
end L2
end
section
open PySem (Str)
open L2
noncomputable def jle:=(k7s (k7s (k7s (k7s (k7s (k7s (k7s @jcs (k7s @jfy @j8c)) (k7s @je9 (k7s @jea @j8j))) (k7s (k7s @j8h (k7s @j3e @j3f)) (k7s @j8i (k7s @j58 @j3d)))) (k7s (k7s (k7s @j1p (k7s @j3h @j59)) (k7s @jfr (k7s @jg5 @jl9))) (k7s (k7s @jla (k7s @jiz @jeu)) (k7s (k7s @jj5 @jgl) (k7s @jf9 @jcq))))) (k7s (k7s (k7s (k7s @jcp (k7s @jct @j8f)) (k7s @jcr (k7s @j8b @jcu))) (k7s (k7s @j8e (k7s @jcx @jcw)) (k7s @jec (k7s @jcv @j8g)))) (k7s (k7s (k7s @jeg (k7s @jac @jif)) (k7s @ji6 (k7s @j8t @jie))) (k7s (k7s @j2e (k7s @j52 @j06)) (k7s (k7s @jl7 @jl8) (k7s @jfp @jfq)))))) (k7s (k7s (k7s (k7s (k7s @jg4 (k7s @j5c @jcz)) (k7s @jcy (k7s @jh2 @jh1))) (k7s (k7s @ji1 (k7s @jdp @jj4)) (k7s @ji0 (k7s @j2s @ja1)))) (k7s (k7s (k7s @jia (k7s @ji3 @jee)) (k7s @jii (k7s @jig @jid))) (k7s (k7s @jij (k7s @jli @ji7)) (k7s (k7s @jib @ji8) (k7s @jeh @ji4))))) (k7s (k7s (k7s (k7s @ji9 (k7s @jlj @jlh)) (k7s @jej (k7s @jih @jic))) (k7s (k7s @jei (k7s @ji5 @ja3)) (k7s @ji2 (k7s @jf7 @jf8)))) (k7s (k7s (k7s @je6 (k7s @jhu @jln)) (k7s @jj1 (k7s @jar @jam))) (k7s (k7s @jap (k7s @j7g @jaq)) (k7s (k7s @jao @jan) (k7s @jix @jiw))))))) (k7s (k7s (k7s (k7s (k7s (k7s @jkc (k7s @jiq @d_e)) (k7s @d_o (k7s @d_w @jir))) (k7s (k7s @jab (k7s @jae @jad)) (k7s @j75 (k7s @j9f @j6v)))) (k7s (k7s (k7s @j6w (k7s @j6x @j6y)) (k7s @j6z (k7s @j70 @j71))) (k7s (k7s @j72 (k7s @j73 @j74)) (k7s (k7s @jhs @jce) (k7s @j7u @jj9))))) (k7s (k7s (k7s (k7s @jj8 (k7s @jkm @jgw)) (k7s @jk5 (k7s @jho @jhp))) (k7s (k7s @jeo (k7s @jff @jfe)) (k7s @jfd (k7s @jh8 @jh7)))) (k7s (k7s (k7s @jh6 (k7s @jfc @j2o)) (k7s @jhk (k7s @jhj @jl4))) (k7s (k7s @jak (k7s @jaj @jkd)) (k7s (k7s @jke @j3j) (k7s @jet @jes)))))) (k7s (k7s (k7s (k7s (k7s @jer (k7s @jag @jah)) (k7s @jbh (k7s @jbg @jkx))) (k7s (k7s @jh3 (k7s @jcd @jcc)) (k7s @jlp (k7s @jhr @jcm)))) (k7s (k7s (k7s @jcl (k7s @jft @j8l)) (k7s @jc4 (k7s @jed @jef))) (k7s (k7s @jco (k7s @jfl @jfa)) (k7s (k7s @jit @jl3) (k7s @jk7 @j1b))))) (k7s (k7s (k7s (k7s @jky (k7s @jl5 @jk4)) (k7s @jfk (k7s @ja5 @j9j))) (k7s (k7s @j9m (k7s @je0 @jdv)) (k7s (k7s @j9p @j9l) (k7s @jdz @jdu)))) (k7s (k7s (k7s @j9o (k7s @j9i @jdy)) (k7s @jdt (k7s @j9n @j9h))) (k7s (k7s @jdw (k7s @j9k @jdx)) (k7s (k7s @je2 @je4) (k7s @je3 @je1))))))))
local macro_rules | `(tactic| walk_at "go")=>`(tactic| try simp (disch:=first | omega | assumption | (simp only [List.length_map,List.length_append,List.length_cons,List.length_nil,List.length_take,List.length_drop,List.length_reverse] <;> omega)) only [jle,U3,beq_self_eq_true,frz,Jo,j9z,List.getElem?_cons_zero,List.getElem?_cons_succ,List.set_cons_zero,List.set_cons_succ,List.map_cons,List.map_nil,List.cons_append,List.nil_append,List.replicate,List.length_map,List.length_append,List.length_cons,List.length_nil,Bool.not_true,Bool.not_false,bne_self_eq_false,Nat.reduceSub,Nat.reduceAdd,Int.reduceToNat,Int.reducePow])
local macro_rules | `(tactic| ext)=>`(tactic| walk_at "go")
local macro_rules | `(tactic| erw [$r])=>`(tactic| (rw [$r]; ext)) | `(tactic| erw [$r,$rs,*])=>`(tactic| (rw [$r]; ext; erw [$rs,*]))
namespace KL
noncomputable def J9:Sx:=(.seq (.set 1 (.lst (.cons (.tup .nil) .nil))) (.seq (.loop [2] (.seq (.var 0)) (.seq (.set 3 (.lst .nil)) (.seq (.loop [4] (.seq (.var 1)) (.seq (.ext 3 (.comp [5] (.bin .add (.var 4) (.tup (.cons (.var 5) .nil))) (.seq (.var 2)) .nil)) .nop)) (.seq (.mov 1 3) .nop)))) (.seq (.retV 1) .nop)))
noncomputable def fP_all_choices:Fi:=⟨1,6,J9,ae⟩
noncomputable def Yn:Sx:=(.seq (.ife (.cmp .lt (.var 1) (.blt .len (.cons (.var 0) .nil))) (.seq (.ret (.ix (.var 0) (.var 1))) .nop) .nop) (.seq (.set 2 (.bin .add (.lit (.int 70001)) (.bin .mul (.bin .mul (.lit (.int 911)) (.var 1)) (.var 1)))) (.seq (.ife (.cmp .gt (.blt .len (.cons (.var 0) .nil)) (.lit (.int 0))) (.seq (.set 2 (.bin .add (.var 2) (.bin .mul (.bin .mod (.ix (.var 0) (.lit (.int 0))) (.lit (.int 9973))) (.bin .add (.bin .mul (.lit (.int 3)) (.var 1)) (.lit (.int 1)))))) .nop) .nop) (.seq (.retV 2) .nop))))
noncomputable def fL_cell:Fi:=⟨2,3,Yn,ae⟩
noncomputable def Vg:Sx:=(.seq (.ife (.isi (.var 1) ["list","tuple"]) (.seq (.ife (.or (.cmp .ne (.isi (.var 0) ["list"]) (.isi (.var 1) ["list"])) (.not (.isi (.var 0) ["list","tuple"]))) (.seq (.ret (.lit (.bl ae))) .nop) .nop) (.seq (.set 2 (.comp [3] (.var 3) (.range (.cons (.blt .min (.cons (.blt .len (.cons (.var 0) .nil)) (.cons (.blt .len (.cons (.var 1) .nil)) .nil))) .nil)) (.cons (.not (.call "_law_same" (.cons (.ix (.var 0) (.var 3)) (.cons (.ix (.var 1) (.var 3)) .nil)))) .nil))) (.seq (.ret (.and (.cmp .eq (.blt .len (.cons (.var 0) .nil)) (.blt .len (.cons (.var 1) .nil))) (.cmp .eq (.var 2) (.lst .nil)))) .nop))) .nop) (.seq (.ife (.isN (.var 1)) (.seq (.ret (.isN (.var 0))) .nop) .nop) (.seq (.ife (.or (.cmp .ne (.isi (.var 0) ["bool"]) (.isi (.var 1) ["bool"])) (.cmp .ne (.isi (.var 0) ["str"]) (.isi (.var 1) ["str"]))) (.seq (.ret (.lit (.bl ae))) .nop) .nop) (.seq (.ret (.and (.isi (.var 0) ["int","str"]) (.cmp .eq (.var 0) (.var 1)))) .nop))))
noncomputable def fL_same:Fi:=⟨2,4,Vg,ae⟩
noncomputable def Wa:Sx:=(.seq (.set 2 (.lst .nil)) (.seq (.loop [3] (.range (.cons (.var 0) .nil)) (.seq (.app 2 (.bin .mod (.bin .fdiv (.var 1) (.bin .shl (.lit (.int 1)) (.bin .sub (.bin .sub (.var 0) (.var 3)) (.lit (.int 1))))) (.lit (.int 2)))) .nop)) (.seq (.ret (.blt .tuple (.cons (.var 2) .nil))) .nop)))
noncomputable def fL_row:Fi:=⟨2,4,Wa,ae⟩
section
variable{G:aq->Option D}{T:aq->Option Fi}
noncomputable def z8(ns:List Int)(k:Nat):Int:=match ns[k]? with
 |some v=>v
 |none=>match ns with
  |[]=>70001+911*k*k
  |v::_=>70001+911*k*k+v%9973*(3*k+1)
theorem Vu {fu n:Nat} (hT:T "_law_cell" = aa fL_cell) {ns:List Int} {k:Nat} (hk:k<=100):evP fu G T (n+1) "_law_cell" [.lst (ns.map .int),.int k]=.val (.int (z8 ns k)):=by
 rw[jt (F:=fL_cell) hT rfl];simp only[fL_cell,Yn,enter];by_cases h:k<ns.length
 .have e:atI (ns.map D.int) (k:Int)=aa (.int ns[k]):=Vy (by simp[h]);have q:z8 ns k=ns[k]:=by simp[z8,h]
  ext;simp only[e,j2o,j5c,j2e,j06,j2s,q]
 .cases ns with
  |nil =>ext;simp[z8]
  |cons v r =>
   have e:atI (D.int v::r.map D.int) 0=aa (.int v):=by simp[atI,ixN]
   have q:z8 (v::r) k=70001+911*k*k+v%9973*(3*k+1):=by unfold z8;rw[Xj nofun]
   rw[xx];rw[xq]at h;ext;simp only[e];ext;rw[q]
theorem j09 {fu n m:Nat} (hT:T "_law_row" = aa fL_row) {z:Int} (hm:m<=6):evP fu G T (n+1) "_law_row" [.int m,.int z]=.val (.tup ((j9 2 m z).map .int)):=by
 rw[jt (F:=fL_row) hT rfl];simp only[fL_row,Wa,enter];ext;rw[Bw (λi=>[.val (.int m),.val (.int z),.own (((j9 2 m z).take i).map .int),if i=0 then .un else .val (.int ((i:Int)-1))]) (by simp[j9])]
 .ext;rw[ju,Xb,Tj (by rw[jr];omega)]
 .intro i d hi;obtain⟨h1,rfl⟩:=V9 hi;have hl:(j9 2 m z).length=m:=jr 2 m z;have hp:0<(2:Int)^((m:Int)-(0+i)-1).toNat/\(2:Int)^((m:Int)-(0+i)-1).toNat<=32:=by
   have:((m:Int)-(0+i)-1).toNat<=5:=by omega
   generalize ((m:Int)-(0+i)-1).toNat=t at *;have:t=0\/t=1\/t=2\/t=3\/t=4\/t=5:=by omega
   rcases this with e|e|e|e|e|e<;>subst e<;>decide
  simp only[Ji];ext;rw[S6,Zd 2 (show i<m by omega)];have et:((m:Int)-(0+i)-1).toNat=m-i-1:=by omega
  simp[et]
theorem j7z(f:List Int):step [] f=[]:=rfl
theorem j50(acc:List (List Int))(a f:List Int):step (acc++[a]) f=step acc f++f.map λx=>a++[x]:=by simp[step]
theorem j18(fs:List (List Int))(f:List Int):vf (fs++[f])=step (vf fs) f:=by simp[vf]
theorem j02(acc:List (List Int)){f:List Int}{k:Nat}(h:f.length<=k):(step acc f).length<=acc.length*k:=by
 unfold step;induction acc with
 |nil=>simp
 |cons a acc ih =>rw[Tf,Xe,xg,xq,kR];omega
theorem j1v{fs:List (List Int)}{k:Nat}(h:∀f∈fs,f.length<=k):(vf fs).length<=k^fs.length:=by
 have go:∀(fs acc:List (List Int)),(∀f∈fs,f.length<=k)->(fs.foldl step acc).length<=acc.length*k^fs.length:=by
  intro fs;induction fs with
  |nil=>intro acc _;simp
  |cons f fs ih =>intro acc hf;have h1:=ih (step acc f) λg hg=>hf g (xf _ hg);have h2:=j02 acc (hf f (xj ..));rw[Pz,xq,i4,fK (k^fs.length) k,<-Nat.mul_assoc];exact Xg h1 (Nat.mul_le_mul_right _ h2)
 have:=go fs [[]] h;simpa [vf]using this
theorem j19{fs:List (List Int)}{r:List Int}(h:r∈vf fs):r.length=fs.length:=by
 have go:∀(fs acc:List (List Int)) (k:Nat),(∀a∈acc,a.length=k)->∀r∈fs.foldl step acc,r.length=k+fs.length:=by
  intro fs;induction fs with
  |nil=>intro acc k ha r hr;exact ha r hr
  |cons f fs ih =>
   intro acc k ha r hr;have:=ih (step acc f) (k+1) (λa hm=>by
    obtain⟨b,hb,hx⟩:=List.mem_flatMap.mp hm
    obtain⟨x,_,rfl⟩:=Xa.mp hx
    rw[Xe,ha b hb];rfl) r hr
   rw[this,xq];omega
 have:=go fs [[]] 0 (λa ha=>by rw[X4.mp ha];rfl) r h;omega
theorem j17 {fu n:Nat} (hT:T "all_choices" = aa fP_all_choices) {fs:List (List Int)} (hf:∀f∈fs,f.length<=3) (hl:fs.length<=6):evP fu G T (n+1) "all_choices" [.lst (Jp fs)]=.fresh (Jp (vf fs)):=by
 rw[jt (F:=fP_all_choices) hT rfl];simp only[fP_all_choices,J9,enter];ext;have small:∀i,(vf (fs.take i)).length<=729:=λi=>by
  have h:=j1v (fs:=fs.take i) (k:=3) λf hm=>hf f (eP hm);have h2:(fs.take i).length<=6:=by rw[Xu];omega
  exact Xg h (Pr (by decide) h2)
 refine Wh (λi ρ=>∃s2 s4,ρ=[.val (.lst (Jp fs)),.own (Jp (vf (fs.take i))),s2,.un,s4,.un]) ⟨.un,.un,by simp[vf,Jp,Q7]⟩ ?_ ?_
 .rintro i d ρ hi ⟨s2,s4,rfl⟩;obtain⟨f,hfi,rfl⟩:=By hi;have hf3:f.length<=3:=hf f (Xv hfi);have sm:=small i;simp only[Ji];ext;refine Kc (λj ρ=>∃s4,ρ=[.val (.lst (Jp fs)),.val (.lst (Jp (vf (fs.take i)))),.val (Q7 f),.own (Jp (step ((vf (fs.take i)).take j) f)),s4,.un]) ⟨s4,by simp[j7z]⟩ ?_ ?_
  .rintro j d ρ hj ⟨s4,rfl⟩;obtain⟨a,haj,rfl⟩:=By hj;have hs:=j02 ((vf (fs.take i)).take j) hf3;have hs2:((vf (fs.take i)).take j).length<=729:=by rw[Xu];omega
   have ha:a.length<=6:=by have:=j19 (Xv haj);rw[Xu]at this;omega
   simp only[Ji];ext;rw[ql (l:=(f.map λx=>Q7 (a++[x]))) (by rfl) ?_ ?_ (.inl rfl)]
   .ext;refine⟨_,rfl,.val (Q7 a),?_⟩;rw[take_snoc haj,j50];simp only[Jp,Xw,X6];rfl
   .simp only[xg];omega
   .refine jy λx _=>zf (by ext) ?_;ext;simp
  .rintro ρ' ⟨s4,rfl⟩;ext;refine⟨_,rfl,.val (Q7 f),s4,?_⟩;rw[take_snoc hfi,j18,cU]
 .rintro ρ' ⟨s2,s4,rfl⟩;ext;rw[cU]
theorem Kd {fu:Nat} (hT:T "_law_same" = aa fL_same):∀(k:Nat){x:D}{n:Nat},x.dep<=k->J6 x->evP fu G T (n+k+1) "_law_same" [x,x]=.val (.bl af):=by
 intro k;induction k with
 |zero =>
  intro x n hk hx;rw[jt (F:=fL_same) hT rfl];simp only[fL_same,Vg,enter];cases x with
  |tup l=>simp[D.dep]at hk
  |lst l=>simp[D.dep]at hk
  |dct ks l=>simp[D.dep]at hk
  |sct k=>simp[D.dep]at hk
  |fn x l=>simp[D.dep]at hk
  |non=>ext
  |bl b=>ext
  |int i=>ext
  |str z=>ext
 |succ k ih =>
  intro x n hk hx;have ih':∀{x:D},x.dep<=k->J6 x->evP fu G T (n+(k+1)) "_law_same" [x,x]=.val (.bl af):=λh1 h2=>ih h1 h2;rw[jt (F:=fL_same) hT rfl];simp only[fL_same,Vg,enter];cases x with
  |dct ks l=>exact aU (by simpa [J6]using hx)
  |sct k=>exact aU (by simpa [J6]using hx)
  |fn x l=>exact aU (by simpa [J6]using hx)
  |tup l =>
   obtain⟨hl,hx⟩:=j60 hx;have hk:D.depL l<=k:=by simp only[D.dep]at hk;omega
   ext;rw[Xb,ql (l:=[]) (by rfl) (by rw[ju];omega) ?_ (.inl rfl)]
   .ext
   .refine Rh λd hd=>?_;obtain⟨j,hj,rfl⟩:=j0l hd;have hg:atI l (0+(j:Int))=aa l[j]:=by rw[Ph];exact Vy (kh hj)
    have hm:l[j]∈l:=Xy hj;refine Wf (b:=ae) (d':=.non) ?_ λz=>by cases z
    ext;simp only[hg];ext;rw[ih' (Xg (D.depL_mem hm) hk) (Wt hx hm)];ext
  |lst l =>
   obtain⟨hl,hx⟩:=j62 hx;have hk:D.depL l<=k:=by simp only[D.dep]at hk;omega
   ext;rw[Xb,ql (l:=[]) (by rfl) (by rw[ju];omega) ?_ (.inl rfl)]
   .ext
   .refine Rh λd hd=>?_;obtain⟨j,hj,rfl⟩:=j0l hd;have hg:atI l (0+(j:Int))=aa l[j]:=by rw[Ph];exact Vy (kh hj)
    have hm:l[j]∈l:=Xy hj;refine Wf (b:=ae) (d':=.non) ?_ λz=>by cases z
    ext;simp only[hg];ext;rw[ih' (Xg (D.depL_mem hm) hk) (Wt hx hm)];ext
  |non=>ext
  |bl b=>ext
  |int i=>ext
  |str z=>ext
theorem ja8(rs:List (List Int)):(D.lst (Jp rs)).dep<=2:=by
 have:D.depL (Jp rs)<=1:=D.depL_of λd hd=>by obtain⟨r,_,rfl⟩:=Xa.mp hd;simp[D.dep,O1]
 simp only[D.dep];omega
theorem j61{r:List Int}(h:r.length<=1000):J6 (Q7 r):=by
 simp only[J6,xg];refine⟨h,Ul λd hd=>?_⟩;obtain⟨i,_,rfl⟩:=Xa.mp hd
 trivial
theorem Qc(n:Nat):upto 0 n=(aB n).map λ(k:Nat)=>D.int (0+(k:Int)):=rfl
theorem j8o{m:Nat}(h:m<=6):(1:Int)<=2^m/\(2:Int)^m<=64:=by
 have:m=0\/m=1\/m=2\/m=3\/m=4\/m=5\/m=6:=by omega
 rcases this with e|e|e|e|e|e|e<;>subst e<;>decide
theorem Yl{p:List Int}{k:Nat}(h:k<p.length):atI (p.map D.int) (0+(k:Int))=aa (.int (p.getD k 0)):=by rw[Ph];refine Vy ?_;rw[xu,kh h,kj,kh h];rfl
end
end KL
namespace KV
open PySem
noncomputable def letters:List Nat:=[109,100,107,98,118,113,104,122,99,103,114,110,97,112,120,111,108,115,105,101,102,119,116,121,106,117]
theorem jdl:("mdkbvqhzcgrnapxolsiefwtyju":aq).cps.toList=letters:=by decide +kernel
noncomputable def lt(n:Int):Nat:=letters.getD n.toNat 0
noncomputable def sL(l:List Nat):aq:=⟨l.toArray⟩
theorem qt{l:List Nat}:(sL l).length=l.length:=by simp[sL,lO]
theorem W3{l m:List Nat}(h:sL l=sL m):l=m:=by have:=congrArg (λz=>z.cps.toList) h;simpa [sL]using this
theorem z9{l m:List Nat}:sL l++sL m=sL (l++m):=by show(⟨l.toArray++m.toArray⟩:aq)=_;simp[sL]
theorem Fx:∀l:List Nat,br ("":aq) (l.map λc=>(⟨#[c]⟩:aq))=sL l:=by
 intro l;show gD _ _=_;rw[StrLaws.glued_eq_join];induction l with
 |nil=>rfl
 |cons a r ih =>
  cases r with
  |nil=>rfl
  |cons b r =>
   rw[xx,xx,jT,<-xx (f:=λc=>(⟨#[c]⟩:aq)),ih]
   .show(⟨(#[a] ++ #[])++(b::r).toArray⟩:aq)=⟨(a::b::r).toArray⟩
    simp
   .intro z;cases z
theorem j08{l:List Nat}:(sL l).cps.toList=l:=by simp[sL]
theorem Dg{k n:Nat}:aO ah (aa (k:Int)) 1 n=aO (aa ((0:Nat):Int)) (aa (k:Int)) 1 n:=by
 have e:max (0:Int) (min 0 (n:Int))=0:=by omega
 simp[aO,e]
theorem Dh{k n:Nat}:aO (aa (k:Int)) ah 1 n=aO (aa (k:Int)) (aa (n:Int)) 1 n:=by
 have e:max (0:Int) (min (n:Int) (n:Int))=n:=by omega
 have e2:¬((n:Int)<0):=by omega
 simp[aO,e,e2]
theorem j05{l:List Nat}{a b:Nat}{lo hi:Option Int}(he:aO lo hi 1 (sL l).length=aO (aa (a:Int)) (aa (b:Int)) 1 (sL l).length)(hab:a<=b)(hb:b<=l.length):cb (sL l) lo hi=sL ((l.drop a).take (b-a)):=by
 have hb':b<=(sL l).length:=by rw[qt];exact hb
 have q:=StrLaws.sliced_plain (sL l) hab hb';rw[j08]at q;have e1:=StrLaws.strSliceIndices_plain hab hb';unfold cb;rw[he];by_cases h:((1:Int)==1&&(aO (aa (a:Int)) (aa (b:Int)) 1 (sL l).length).length==(sL l).length)=af
 .rw[if_pos h];rw[e1,qt,xg,Xh]at h;have:b-a=l.length:=by simpa using h
  have ha:a=0:=by omega
  subst ha;rw[this,cQ,cU]
 .rw[if_neg h,q];rfl
theorem Nv{l:List Nat}{k:Nat}(h:k<=l.length):cb (sL l) ah (aa (k:Int))=sL (l.take k):=by rw[j05 (a:=0) (b:=k) Dg (d5 _) h];simp
theorem Nx{l:List Nat}{k:Nat}(h:k<=l.length):cb (sL l) (aa (k:Int)) ah=sL (l.drop k):=by rw[j05 (a:=k) (b:=l.length) (by rw[Dh,qt]) h (X7 _),Tj (by rw[T6];omega)]
theorem Ms {l:List Nat} (h:l.length<=100):cu ("":aq) (l.map λc=>(⟨#[c]⟩:aq))=af:=by
 unfold cu;rw[dN];have e:∀(r:List Nat)(k:Nat),(r.map λc=>(⟨#[c]⟩:aq)).foldl (λ(x:Nat) (y:aq)=>x+y.length+("":aq).length) k=k+r.length:=by
  intro r;induction r with
  |nil=>intro k;rfl
  |cons a r ih =>intro k;rw[xx,Pz,ih,xq];show k+1+0+r.length=_;omega
 show ba _=ae;have:=e l 0;rw[iL];show ba (cV (λ(x:Nat) (y:aq)=>x+y.length+("":aq).length) 0 _)=ae;rw[this];unfold ba;simp;have:=cn;omega
noncomputable def Vl(c:Int):List Nat:=(aB 8).map λ(k:Nat)=>lt (c/(4+5*(k:Int))%26)
noncomputable def Zo(c:Int)(s:Nat):List Nat:=(aB s).map λ(k:Nat)=>lt ((c/32+3*(k:Int)*(k:Int)+(k:Int))%26)
theorem Q4(c:Int):(Vl c).length=8:=by simp[Vl]
theorem vg(c:Int)(s:Nat):(Zo c s).length=s:=by simp[Zo]
noncomputable def stN(c:Int)(m:Nat):Nat:=(c/8%(9-(m:Int))).toNat
noncomputable def szN(c:Int):Nat:=(c/4%8).toNat
noncomputable def atN(c:Int):Nat:=(c/512%((szN c:Int)+1)).toNat
noncomputable def wrd(c:Int)(m k:Nat):List Nat :=
 if c%4<2 then(if c%4=0 then(Vl c).take (stN c m+k+1) else(Vl c).drop (8-stN c m-k-1))
 else(Zo c (szN c)).take (atN c)++lt ((c/9+7*(k:Int))%26)::(Zo c (szN c)).drop (atN c)
noncomputable def Vp(c:Int)(m:Nat):List aq:=(aB m).map λ(k:Nat)=>sL (wrd c m k)
theorem jh5{a b:Int}(ha:0<=a/\a<26)(hb:0<=b/\b<26)(h:lt a=lt b):a=b:=by
 obtain⟨i,rfl⟩:∃i:Nat,a=(i:Int):=⟨a.toNat,by omega⟩
 obtain⟨j,rfl⟩:∃j:Nat,b=(j:Int):=⟨b.toNat,by omega⟩
 have key:∀i j:Fin 26,letters.getD i.val 0=letters.getD j.val 0->i=j:=by decide +kernel
 have:=key ⟨i,by omega⟩ ⟨j,by omega⟩ h;have:=congrArg Fin.val this;simp at this;omega
theorem j37{c:Int}{m:Nat}(h:m<=6):stN c m+m<=8:=by unfold stN;have h1:=Td (c/8) (show(9-(m:Int))≠0 by omega);have h2:=cO (c/8) (show(0:Int)<9-(m:Int)by omega);omega
theorem j4h(c:Int):atN c<=szN c/\szN c<=7:=by unfold atN;have h1:=Td (c/512) (show((szN c:Int)+1)≠0 by omega);have h2:=cO (c/512) (show(0:Int)<(szN c:Int)+1 by omega);refine⟨by omega,?_⟩;unfold szN;omega
theorem jc7{c:Int}{m k:Nat}(hm:m<=6)(hk:k<m):1<=(wrd c m k).length/\(wrd c m k).length<=8:=by
 have s:=j37 (c:=c) hm;have a:=j4h c;have l8:=Q4 c;have ls:=vg c (szN c);unfold wrd;split
 .split
  .rw[Xu];omega
  .rw[T6];omega
 .rw[Xe,xq,Xu,T6];omega
theorem jc8{c:Int}{m i j:Nat}(hm:m<=6)(hi:i<m)(hj:j<m)(h:wrd c m i=wrd c m j):i=j:=by
 have s:=j37 (c:=c) hm;have a:=j4h c;have l8:=Q4 c;have ls:=vg c (szN c);unfold wrd at h;split at h
 .split at h
  .have:=congrArg i9 h;rw[Xu,Xu]at this;omega
  .have:=congrArg i9 h;rw[T6,T6]at this;omega
 .have h2:=List.append_cancel_left h;have h3:=(dm h2).1;have:=jh5 nofun nofun h3;omega
end KV
open PySem (Str)
open L2
namespace KW
open KL KV PySem
noncomputable def Wb:Sx:=(.seq (.set 3 (.comp [4] (.var 4) (.range (.cons (.blt .len (.cons (.var 0) .nil)) .nil)) (.cons (.cmp .eq (.bin .mod (.bin .fdiv (.var 2) (.bin .shl (.lit (.int 1)) (.var 4))) (.lit (.int 2))) (.lit (.int 1))) .nil))) (.seq (.set 5 (.blt .sum (.cons (.comp [4] (.bin .shl (.ix (.var 0) (.var 4)) (.var 4)) (.seq (.var 3)) .nil) .nil))) (.seq (.set 6 (.blt .sum (.cons (.comp [4,7] (.bin .shl (.var 7) (.var 4)) (.enum (.var 0)) .nil) .nil))) (.seq (.ife (.cmp .eq (.var 1) (.lit (.int 1))) (.seq (.ret (.blt .int (.cons (.cmp .gt (.blt .sum (.cons (.var 0) .nil)) (.bin .mod (.bin .fdiv (.var 2) (.lit (.int 64))) (.blt .len (.cons (.var 0) .nil)))) .nil))) .nop) .nop) (.seq (.ife (.cmp .eq (.var 1) (.lit (.int 2))) (.seq (.set 8 (.bin .mod (.bin .mul (.bin .add (.var 6) (.lit (.int 1))) (.bin .add (.lit (.int 1)) (.bin .mod (.var 2) (.lit (.int 1000003))))) (.lit (.int 2147483629)))) (.seq (.ret (.blt .int (.cons (.cmp .eq (.bin .mod (.bin .fdiv (.var 8) (.lit (.int 32))) (.lit (.int 5))) (.lit (.int 0))) .nil))) .nop)) .nop) (.seq (.ife (.cmp .eq (.var 1) (.lit (.int 3))) (.seq (.set 8 (.bin .mul (.bin .add (.bin .add (.bin .mul (.var 5) (.var 5)) (.bin .mul (.lit (.int 17)) (.var 5))) (.lit (.int 69621))) (.bin .add (.lit (.int 1)) (.bin .mod (.var 2) (.lit (.int 1000003)))))) (.seq (.ret (.bin .mod (.bin .fdiv (.bin .mod (.var 8) (.lit (.int 2147483647))) (.lit (.int 16))) (.lit (.int 2)))) .nop)) .nop) (.seq (.ife (.cmp .eq (.var 1) (.lit (.int 4))) (.seq (.ret (.bin .mod (.bin .add (.blt .sum (.cons (.comp [4] (.ix (.var 0) (.var 4)) (.seq (.var 3)) .nil) .nil)) (.bin .fdiv (.var 2) (.lit (.int 64)))) (.lit (.int 2)))) .nop) .nop) (.seq (.set 8 (.bin .mul (.bin .add (.bin .mul (.var 6) (.var 6)) (.lit (.int 48271))) (.bin .add (.bin .add (.bin .mod (.var 2) (.lit (.int 1000003))) (.var 6)) (.lit (.int 1))))) (.seq (.ret (.bin .mod (.bin .fdiv (.bin .mod (.var 8) (.lit (.int 2147483647))) (.lit (.int 64))) (.lit (.int 2)))) .nop)))))))))
noncomputable def fL_bit:Fi:=⟨3,9,Wb,ae⟩
section
variable{G:aq->Option D}{T:aq->Option Fi}
theorem Ed {n:Int} (h:0<=n/\n<26):atI ("mdkbvqhzcgrnapxolsiefwtyju":aq).cps.toList n=aa (lt n):=by
 obtain⟨k,rfl⟩:∃k:Nat,n=(k:Int):=⟨n.toNat,by omega⟩
 have hk:k<letters.length:=by show k<26;omega
 rw[jdl];refine Vy ?_;unfold lt;rw[kh hk,Xb,kj,kh hk];rfl
theorem jkz:("mdkbvqhzcgrnapxolsiefwtyju":aq).length<=1000000:=by decide +kernel
theorem j00:∀{l:List Int},(∀x∈l,0<=x/\x<=32)->0<=l.sum/\l.sum<=32*(l.length:Int)
 |[],_=>by simp
 |a::r,h=>by have h1:=h a (xj ..);have h2:=j00 (l:=r) λx hx=>h x (xf _ hx);rw[Xq,xq];omega
theorem p2k{k:Nat}(h:k<=5):0<(2:Int)^k/\(2:Int)^k<=32:=by
 have:k=0\/k=1\/k=2\/k=3\/k=4\/k=5:=by omega
 rcases this with e|e|e|e|e|e<;>subst e<;>decide
noncomputable def Y9(row:List Int)(c:Int):List Nat:=(aB row.length).filter λ(k:Nat)=>decide (c/(1*2^(0+(k:Int)).toNat)%2=1)
noncomputable def Um(row:List Int)(c:Int):List Int:=(Y9 row c).map λ(k:Nat)=>row.getD k 0*2^(0+(k:Int)).toNat
noncomputable def byL(row:List Int):List Int:=row.zipIdx.map λp=>p.1*2^((p.2:Nat):Int).toNat
theorem t0k(k:Nat):(0+(k:Int)).toNat=k:=by omega
theorem Oq{row:List Int}(h01:∀x∈row,x=0\/x=1)(k:Nat):row.getD k 0=0\/row.getD k 0=1:=by
 rw[kj];cases h:row[k]? with
 |none=>exact .inl rfl
 |some v=>exact h01 v (Xv h)
theorem jdq{row:List Int}{c:Int}(h01:∀x∈row,x=0\/x=1)(hl:row.length<=6):0<=(Um row c).sum/\(Um row c).sum<=192:=by
 have h:=j00 (l:=Um row c) λx hx=>by
  obtain⟨k,hk,rfl⟩:=Xa.mp hx;have hk2:=Xc.mp (T9.mp hk).1;have p:=p2k (k:=k) nofun
  rw[t0k];rcases Oq h01 k with e|e<;>rw[e]<;>omega
 have l:(Um row c).length<=6:=by unfold Um Y9;rw[xg];exact Xg (Tq _ _) (by rw[Xh];exact hl)
 omega
theorem jlm{row:List Int}(h01:∀x∈row,x=0\/x=1)(hl:row.length<=6):0<=(byL row).sum/\(byL row).sum<=192:=by
 have h:=j00 (l:=byL row) λx hx=>by
  obtain⟨p,hp,rfl⟩:=Xa.mp hx;obtain⟨a,k⟩:=p;have hm:=jN hp;have p:=p2k (k:=k) nofun
  show 0<=a*2^((k:Nat):Int).toNat/\a*2^((k:Nat):Int).toNat<=32;rw[Xb];have:=h01 a (by rw[hm.2.2];exact Xy _);rcases this with e|e<;>rw[e]<;>omega
 have l:(byL row).length<=6:=by unfold byL;rw[xg,fe];exact hl
 omega
theorem jj0 {fu n:Nat} (hT:T "_law_bit" = aa fL_bit) {row:List Int} {kd c:Int} (h01:∀x∈row,x=0\/x=1) (hl:1<=row.length/\row.length<=6):∃b:Int,(b=0\/b=1)/\evP fu G T (n+1) "_law_bit" [.lst (row.map D.int),.int kd,.int c]=.val (.int b):=by
 rw[jt (F:=fL_bit) hT rfl];simp only[fL_bit,Wb,enter];have kb:=jdq (c:=c) h01 hl.2;have bb:=jlm h01 hl.2;have sl:(Y9 row c).length<=6:=by unfold Y9;exact Xg (Tq _ _) (by rw[Xh];exact hl.2)
 have get:∀k:Nat,k∈Y9 row c->atI (row.map D.int) (0+(k:Int))=aa (.int (row.getD k 0)):=λk hk=>Yl (Xc.mp (T9.mp hk).1);ext;rw[ql (l:=(Y9 row c).map λ(k:Nat)=>D.int (0+(k:Int))) (by rfl) (by rw[ju];omega) ?_ (.inl rfl)];rotate_left
 .rw[Xb,Qc,Y9];refine Ry λk hk'=>?_;have hk:=Xc.mp hk';have p:0<(2:Int)^(0+(k:Int)).toNat/\(2:Int)^(0+(k:Int)).toNat<=32:=by rw[t0k];exact p2k nofun
  refine Wf ?_ λ_=>?_
  .ext;simp only[W9];ext
  .ext
 ext;rw[ql (l:=(Um row c).map D.int) (by rfl) (by rw[xg];omega) ?_ (.inr (Us _))];rotate_left
 .rw[Um,X6];refine jy λk hk'=>zf (by ext) ?_;have b:=Oq h01 k;have hk:=Xc.mp (T9.mp hk').1;ext;rw[get k hk'];ext;rfl
 ext;rw[ql (l:=(byL row).map D.int) (by rfl) (by simp only[Jv,xg,fe];omega) ?_ (.inl rfl)];rotate_left
 .rw[byL,X6,Jv,List.zipIdx_map,X6];refine jy λq hq=>?_;obtain⟨a,k⟩:=q;have hm:=jN hq;have h1:=h01 a (by rw[hm.2.2];exact Xy _);show Z8 _ _ _ _ (D.tup [.int (k:Int),.int a])=_;refine j24 (by ext) ?_;ext;rfl
 ext;generalize (Um row c).sum=kept at *;generalize (byL row).sum=byr at *;by_cases k1:kd=1
 .refine⟨if decide (c/64%(row.length:Int)<row.sum)=af then 1 else 0,by split<;>simp,?_⟩;ext;simp only[jep];ext
 .by_cases k2:kd=2
  .refine⟨if decide ((byr+1)*(1+c%1000003)%2147483629/32%5=0)=af then 1 else 0,by split<;>simp,?_⟩;ext;simp only[W9];ext
  .by_cases k3:kd=3
   .refine⟨(kept*kept+17*kept+69621)*(1+c%1000003)%2147483647/16%2,by omega,?_⟩;ext
   .by_cases k4:kd=4
    .refine⟨(((Y9 row c).map λ(k:Nat)=>row.getD k 0).sum+c/64)%2,by omega,?_⟩;ext;rw[ql (l:=((Y9 row c).map λ(k:Nat)=>row.getD k 0).map D.int) (by rfl) (by rw[xg];omega) ?_ (.inr (Us _))]
     .ext
     .rw[X6];refine jy λk hk'=>zf (by ext) ?_;ext;rw[get k hk'];ext;rfl
    .refine⟨(byr*byr+48271)*(c%1000003+byr+1)%2147483647/64%2,by omega,?_⟩;ext
noncomputable def Ng(fu:Nat)(G:aq->Option D)(T:aq->Option Fi)(n:Nat)(row:List Int)(kd c:Int):Int:=match evP fu G T (n+1) "_law_bit" [.lst (row.map D.int),.int kd,.int c] with
 |.val (.int b)=>b
 |_=>0
theorem j1g {fu n:Nat} (hT:T "_law_bit" = aa fL_bit) {row:List Int} {kd c:Int} (h01:∀x∈row,x=0\/x=1) (hl:1<=row.length/\row.length<=6):(Ng fu G T n row kd c=0\/Ng fu G T n row kd c=1)/\evP fu G T (n+1) "_law_bit" [.lst (row.map D.int),.int kd,.int c]=.val (.int (Ng fu G T n row kd c)):=by obtain⟨b,hb,e⟩:=jj0 (fu:=fu) (n:=n) (G:=G) hT h01 hl (kd:=kd) (c:=c);unfold Ng;rw[e];exact⟨hb,rfl⟩
theorem Oj(m:Nat)(z:Int):∀x∈j9 2 m z,x=0\/x=1:=by
 intro x hx;obtain⟨i,hi⟩:=List.mem_iff_getElem?.mp hx;have hl:i<m:=by have:=(Xf.mp hi).1;rw[jr]at this;exact this
 rw[Zd 2 hl]at hi;cases hi;omega
noncomputable def Zr(ns:List Int)(a most:Nat):Nat:=(1+z8 ns a%(most:Int)).toNat
theorem Ld{ns:List Int}{a most:Nat}(h:1<=most/\most<=6):1<=Zr ns a most/\Zr ns a most<=most:=by unfold Zr;have h1:=Td (z8 ns a) (show(most:Int)≠0 by omega);have h2:=cO (z8 ns a) (show(0:Int)<most by omega);omega
end
end KW
namespace KB
open PySem KV PyProof.Rows
noncomputable def jn:List (List Nat)->List Nat
 |[]=>[]
 |[x]=>x
 |x::r=>x++32::jn r
theorem Lh{x:List Nat}{r:List (List Nat)}(h:r≠[]):jn (x::r)=x++32::jn r:=by
 cases r with
 |nil=>exact absurd rfl h
 |cons y r=>rfl
theorem Vm{x y:List Nat}{r:List (List Nat)}:jn (x::y::r)=x++32::jn (y::r):=rfl
theorem j8a:(" ":aq)=sL [32]:=by decide +kernel
theorem Wm(x:aq):sL x.cps.toList=x:=by cases x;simp[sL]
theorem Og:∀ls:List (List Nat),jT " " (ls.map sL)=sL (jn ls)
 |[]=>rfl
 |[x]=>rfl
 |x::y::r=>by
  rw[xx,xx,jT,<-xx (f:=sL),Og (y::r),j8a,z9,z9,Vm]
  .congr 1;simp
  .intro z;cases z
theorem j2j (ls:List (List Nat)):br " " (ls.map sL)=sL (jn ls):=by show gD _ _=_;rw[StrLaws.glued_eq_join,Og]
theorem j2y(c:Nat):∀a b:List Nat,cnt c (a++b)=cnt c a+cnt c b
 |[],b=>by rw[tu,cnt_nil];omega
 |x::a,b=>by rw[T7,i3,i3,j2y c a b];omega
theorem j16(c:Nat):∀a:List Nat,0<=cnt c a
 |[]=>by rw[cnt_nil];omega
 |x::a=>by have:=j16 c a;rw[i3];split<;>omega
theorem jbs{c:Nat}:∀{a:List Nat},cnt c a=0->c∉a
 |[],_=>by simp
 |x::a,h=>by
  rw[i3]at h;have:=j16 c a;split at h
  .omega
  .rename_i z;have:=jbs (c:=c) (a:=a) nofun
   simp only[xn,not_or];exact⟨λq=>z q.symm,this⟩
theorem j6u:∀ls:List (List Nat),ls≠[]->cnt 32 (jn ls)=(ls.map (cnt 32)).sum+(ls.length:Int)-1
 |[],h=>absurd rfl h
 |[x],_=>by simp[jn]
 |x::y::r,_=>by rw[Vm,j2y,i3,if_pos rfl,j6u (y::r) (by intro z;cases z)];simp only[xx,Xq,xq];omega
theorem j4z:∀{l:List Int},(∀x∈l,0<=x)->0<=l.sum
 |[],_=>by simp
 |a::l,h=>by rw[Xq];have:=j4z λy hy=>h y (xf _ hy);have:=h a xj;omega
theorem jb3:∀{l:List Int},(∀x∈l,0<=x)->l.sum=0->∀x∈l,x=0
 |[],_,_,_,h=>absurd h (by simp)
 |a::l,h,e,x,hx=>by
  rw[Xq]at e;have h1:=h a xj;have h2:0<=l.sum:=by exact j4z λy hy=>h y (xf _ hy)
  rcases xn.mp hx with rfl|hx
  .omega
  .exact jb3 (λy hy=>h y (xf _ hy)) nofun x hx
def bf(ls:List (List Nat)):Prop:=∀l∈ls,32∉l
theorem j6t:∀{a b c d:List Nat},32∉a->32∉c->a++32::b=c++32::d->a=c/\b=d
 |[],b,[],d,_,_,h=>by simpa using h
 |[],b,x::c,d,_,hc,h=>by have:=(dm h).1;exact absurd (xn.mpr (.inl this)) hc
 |x::a,b,[],d,ha,_,h=>by have:=(dm h).1;exact absurd (xn.mpr (.inl this.symm)) ha
 |x::a,b,y::c,d,ha,hc,h=>by obtain⟨h1,h2⟩:=dm h;obtain⟨e1,e2⟩:=j6t (a:=a) (c:=c) (λz=>ha (xf _ z)) (λz=>hc (xf _ z)) h2;exact⟨by rw[h1,e1],e2⟩
theorem j67:∀{ls ms:List (List Nat)},ls≠[]->ms≠[]->bf ls->bf ms->jn ls=jn ms->ls=ms
 |[],_,h,_,_,_,_=>absurd rfl h
 |_,[],_,h,_,_,_=>absurd rfl h
 |[x],[y],_,_,_,_,h=>by rw[show x=y from h]
 |[x],y::z::r,_,_,h1,_,h=>by rw[Vm]at h;exact absurd (show 32∈x from by rw[show x=_ from h];simp) (h1 x xj)
 |x::z::r,[y],_,_,_,h1,h=>by rw[Vm]at h;exact absurd (show 32∈y from by rw[<-show _=y from h];simp) (h1 y xj)
 |x::z::r,y::u::s,_,_,h1,h2,h=>by rw[Vm,Vm]at h;obtain⟨e1,e2⟩:=j6t (h1 x xj) (h2 y xj) h;rw[e1,j67 (by intro q;cases q) (by intro q;cases q) (λl hl=>h1 l (xf _ hl)) (λl hl=>h2 l (xf _ hl)) e2]
theorem j81 (x:aq):∃ls:List (List Nat),aK x " " = ls.map sL/\ls≠[]/\bf ls/\sL (jn ls)=x:=by
 have hl:=split_len x 32;have hj:=StrLaws.join_split x " ";rw[show(⟨#[32]⟩:aq) = " " from by decide +kernel]at hl;refine⟨(aK x " ").map λs=>s.cps.toList,?_,?_,?_,?_⟩
 .rw[X6];exact(g4 _).symm.trans (T5 λs _=>(Wm s).symm)
 .intro h;have:=split_pos x " ";rw[List.map_eq_nil_iff.mp h]at this;exact absurd this (by decide)
 .have e:sL (jn ((aK x " ").map λs=>s.cps.toList))=x:=by rw[<-Og,X6];rw[show(aK x " ").map (sL ∘ λs=>s.cps.toList)=aK x " " from(T5 λs _=>Wm s).trans (g4 _)];exact hj
  have hne:(aK x " ").map (λs=>s.cps.toList)≠[]:=by intro h;have:=split_pos x " ";rw[List.map_eq_nil_iff.mp h]at this;exact absurd this (by decide)
  have hc:=j6u _ hne;have e2:x.cps.toList=jn ((aK x " ").map λs=>s.cps.toList):=by rw[<-e,j08,e]
  rw[<-e2,xg]at hc;have h0:(((aK x " ").map λs=>s.cps.toList).map (cnt 32)).sum=0:=by omega
  intro l hl';exact jbs (jb3 (λy hy=>by obtain⟨z,_,rfl⟩:=Xa.mp hy;exact j16 _ _) h0 _ (Xa.mpr ⟨l,hl',rfl⟩))
 .rw[<-Og,X6];rw[show(aK x " ").map (sL ∘ λs=>s.cps.toList)=aK x " " from(T5 λs _=>Wm s).trans (g4 _)];exact hj
theorem j80 {ls:List (List Nat)} (h:ls≠[]) (hb:bf ls):aK (sL (jn ls)) " " = ls.map sL:=by obtain⟨ms,e,hm,hb2,ej⟩:=j81 (sL (jn ls));rw[e,j67 hm h hb2 hb (W3 ej)]
theorem j0s:∀{ls ms:List (List Nat)},ls≠[]->ms≠[]->jn (ls++ms)=jn ls++32::jn ms
 |[],_,h,_=>absurd rfl h
 |[x],ms,_,h=>by rw[eK,Lh h];rfl
 |x::y::r,ms,_,h=>by rw[T7,T7,Vm,<-T7,j0s (by intro q;cases q) h,Vm];simp
theorem j2l{α:Type}{f:α->List (List Nat)}:∀{as:List α},(∀a∈as,f a≠[])->jn (as.map λa=>jn (f a))=jn (as.flatMap f)
 |[],_=>rfl
 |[a],_=>by simp[jn]
 |a::b::r,h=>by
  have hb:(b::r).flatMap f≠[]:=by rw[Tf];intro z;exact h b (xf _ xj) (List.append_eq_nil_iff.mp z).1
  rw[xx,Lh (by simp),j2l (as:=b::r) λx hx=>h x (xf _ hx),Tf (x:=a),j0s (h a xj) hb]
end KB
section
namespace K14
open PySem PySem.Spec PyProof.Rows L2
noncomputable def top(i:Nat):aS:=PySem.Challenge.pw_leastasks_k14_whole_shown_and_read.main.body.getD i (.Pass ⟨0,0,0,0⟩)
noncomputable def Yh:Sx:=(.seq (.ret (.and (.cmp .ge (.blt .len (.cons (.var 0) .nil)) (.lit (.int 1))) (.and (.cmp .le (.blt .len (.cons (.var 0) .nil)) (.glob "LONGEST_WORD")) (.call "is_made_of" (.cons (.var 0) (.cons (.glob "LETTERS") .nil)))))) .nop)
noncomputable def Wx:Fi:=⟨1,1,Yh,ae⟩
noncomputable def Zb:Sx:=(.seq (.ret (.blt .all (.cons (.comp [2] (.cmp .isin (.var 2) (.var 1)) (.seq (.var 0)) .nil) .nil))) .nop)
noncomputable def Y5:Fi:=⟨2,3,Zb,ae⟩
noncomputable def Yg:Sx:=(.seq (.expr (.call "refuse_wrong_size" (.cons (.var 0) .nil))) (.seq (.ret (.call "all_choices" (.cons (.bin .mul (.lst (.cons (.glob "ANSWERS") .nil)) (.var 0)) .nil))) .nop))
noncomputable def Ww:Fi:=⟨1,1,Yg,ae⟩
noncomputable def Za:Sx:=(.seq (.ret (.call "number_of" (.cons (.var 0) (.cons (.blt .len (.cons (.glob "ANSWERS") .nil)) .nil)))) .nop)
noncomputable def Y4:Fi:=⟨1,1,Za,ae⟩
noncomputable def J7:Sx:=(.seq (.ife (.or (.cmp .lt (.var 0) (.glob "FEWEST_PLACES")) (.cmp .gt (.var 0) (.glob "MOST_PLACES"))) (.seq (.raise "WrongSize" (.fst (.cons (.lit (.str "there are ")) (.cons (.glob "FEWEST_PLACES") (.cons (.lit (.str " to ")) (.cons (.glob "MOST_PLACES") (.cons (.lit (.str " places, not ")) (.cons (.var 0) .nil)))))))) .nop) .nop) .nop)
noncomputable def Qd:Fi:=⟨1,1,J7,ae⟩
noncomputable def J9:Sx:=(.seq (.set 1 (.lst (.cons (.tup .nil) .nil))) (.seq (.loop [2] (.seq (.var 0)) (.seq (.set 3 (.lst .nil)) (.seq (.loop [4] (.seq (.var 1)) (.seq (.ext 3 (.comp [5] (.bin .add (.var 4) (.tup (.cons (.var 5) .nil))) (.seq (.var 2)) .nil)) .nop)) (.seq (.mov 1 3) .nop)))) (.seq (.retV 1) .nop)))
noncomputable def fP_all_choices:Fi:=⟨1,6,J9,ae⟩
noncomputable def V3:Sx:=(.seq (.set 2 (.lit (.int 0))) (.seq (.loop [3] (.seq (.var 0)) (.seq (.set 2 (.bin .add (.bin .mul (.var 2) (.var 1)) (.var 3))) .nop)) (.seq (.retV 2) .nop)))
noncomputable def Yz:Fi:=⟨2,4,V3,ae⟩
noncomputable def V4:Sx:=(.seq (.ret (.ix (.ix (.var 0) (.lit (.int 1))) (.call "row_number" (.cons (.var 1) .nil)))) .nop)
noncomputable def U0:Fi:=⟨2,2,V4,ae⟩
noncomputable def v6:Sx:=(.seq (.expr (.call "refuse_wrong_size" (.cons (.blt .len (.cons (.var 0) .nil)) .nil))) (.seq (.set 1 (.lst .nil)) (.seq (.loop [2] (.seq (.var 0)) (.seq (.ife (.not (.call "is_word" (.cons (.var 2) .nil))) (.seq (.raise "NoWord" (.fst (.cons (.rpr (.var 2)) (.cons (.lit (.str " is no word of one to eight small letters")) .nil)))) .nop) .nop) (.seq (.ife (.cmp .isin (.var 2) (.var 1)) (.seq (.raise "Twice" (.fst (.cons (.lit (.str "the place ")) (.cons (.rpr (.var 2)) (.cons (.lit (.str " stands twice")) .nil))))) .nop) .nop) (.seq (.app 1 (.var 2)) .nop)))) .nop)))
noncomputable def zy:Fi:=⟨1,3,v6,ae⟩
noncomputable def Ze:Sx:=(.seq (.ret (.bin .add (.call "row_number" (.cons (.bin .mul (.tup (.cons (.lit (.int 1)) .nil)) (.var 0)) .nil)) (.lit (.int 1)))) .nop)
noncomputable def N5:Fi:=⟨1,1,Ze,ae⟩
noncomputable def Qf:Sx:=(.seq (.expr (.call "refuse_wrong_places" (.cons (.var 1) .nil))) (.seq (.set 2 (.call "form_of" (.cons (.var 0) .nil))) (.seq (.ife (.not (.call "keeps_to" (.cons (.var 2) (.cons (.var 1) .nil)))) (.seq (.raise "NoPlace" (.lit (.str "the text has a word that is none of the places"))) .nop) .nop) (.seq (.set 3 (.comp [4] (.call "said_by" (.cons (.var 2) (.cons (.dzip (.var 1) (.var 4)) .nil))) (.seq (.call "rows_of" (.cons (.blt .len (.cons (.var 1) .nil)) .nil))) .nil)) (.seq (.ret (.tup (.cons (.blt .tuple (.cons (.var 1) .nil)) (.cons (.blt .tuple (.cons (.var 3) .nil)) .nil)))) .nop)))))
noncomputable def Zc:Fi:=⟨2,5,Qf,ae⟩
noncomputable def Jx:Sx:=(.seq (.set 1 (.comp [2] (.var 2) (.seq (.call "rows_of" (.cons (.blt .len (.cons (.ix (.var 0) (.lit (.int 0))) .nil)) .nil))) (.cons (.cmp .eq (.call "answer_to" (.cons (.var 0) (.cons (.var 2) .nil))) (.lit (.int 1))) .nil))) (.seq (.ife (.cmp .eq (.var 1) (.lst .nil)) (.seq (.set 3 (.ix (.ix (.var 0) (.lit (.int 0))) (.lit (.int 0)))) (.seq (.ret (.fst (.cons (.lit (.str "( all ")) (.cons (.var 3) (.cons (.lit (.str " ( not ")) (.cons (.var 3) (.cons (.lit (.str " ) )")) .nil))))))) .nop)) .nop) (.seq (.set 4 (.join " " (.comp [2] (.call "row_shown" (.cons (.ix (.var 0) (.lit (.int 0))) (.cons (.var 2) .nil))) (.seq (.var 1)) .nil))) (.seq (.ret (.fst (.cons (.lit (.str "( any ")) (.cons (.var 4) (.cons (.lit (.str " )")) .nil))))) .nop))))
noncomputable def Qx:Fi:=⟨1,5,Jx,ae⟩
noncomputable def V2:Sx:=(.seq (.set 2 (.join " " (.comp [3,4] (.call "place_shown" (.cons (.var 3) (.cons (.var 4) .nil))) (.zip (.var 0) (.var 1)) .nil))) (.seq (.ret (.fst (.cons (.lit (.str "( all ")) (.cons (.var 2) (.cons (.lit (.str " )")) .nil))))) .nop))
noncomputable def Yy:Fi:=⟨2,5,V2,ae⟩
noncomputable def Qu:Sx:=(.seq (.ret (.ite (.cmp .eq (.var 1) (.lit (.int 1))) (.var 0) (.fst (.cons (.lit (.str "( not ")) (.cons (.var 0) (.cons (.lit (.str " )")) .nil)))))) .nop)
noncomputable def Vd:Fi:=⟨2,2,Qu,ae⟩
noncomputable def Yi:Sx:=(.newP 1 (.var 0) (.callS 2 "form_taken" (.cons (.lit (.int 0)) .nil) (.ifAll "NoText" (.lit (.str "something stands behind the form")) (.ret (.var 2)))))
noncomputable def Wy:Fi:=⟨1,3,Yi,ae⟩
noncomputable def Y7:Sx:=(.px (.take 2 (.ifCal (.cmp .eq (.var 2) (.lit (.str "("))) "bracketed_taken" (.cons (.bin .add (.var 1) (.lit (.int 1))) .nil) (.ifRai (.not (.call "is_word" (.cons (.var 2) .nil))) "NoText" (.fst (.cons (.rpr (.var 2)) (.cons (.lit (.str " stands where a form is wanted")) .nil))) (.ret (.tup (.cons (.glob "PLACE") (.cons (.var 2) (.cons (.tup .nil) .nil)))))))))
noncomputable def Qi:Fi:=⟨3,4,Y7,ae⟩
noncomputable def Vw:Sx:=(.px (.ifRai (.cmp .gt (.var 1) (.glob "MOST_BRACKETS")) "NoText" (.fst (.cons (.lit (.str "more than ")) (.cons (.glob "MOST_BRACKETS") (.cons (.lit (.str " brackets stand unclosed at once")) .nil)))) (.take 2 (.ifRai (.cmp .notin (.var 2) (.glob "KINDS")) "NoText" (.fst (.cons (.rpr (.var 2)) (.cons (.lit (.str " is no kind")) .nil))) (.takeIf 3 (.call "wants_own" (.cons (.var 2) .nil)) (.lit (.str "")) (.set 4 (.lst .nil) (.whlA ")" (.appC 4 "form_taken" (.cons (.var 1) .nil) .nop) (.takeE (.ifRai (.or (.not (.call "takes_count" (.cons (.var 2) (.cons (.blt .len (.cons (.var 4) .nil)) .nil)))) (.not (.call "takes_own" (.cons (.var 2) (.cons (.var 3) (.cons (.blt .len (.cons (.var 4) .nil)) .nil)))))) "NoText" (.fst (.cons (.rpr (.var 2)) (.cons (.lit (.str " has not what it wants")) .nil))) (.ret (.tup (.cons (.var 2) (.cons (.var 3) (.cons (.blt .tuple (.cons (.var 4) .nil)) .nil))))))))))))))
noncomputable def Qp:Fi:=⟨3,6,Vw,ae⟩
noncomputable def Zz:Sx:=(.seq (.ret (.or (.cmp .eq (.var 0) (.lit (.str "table"))) (.cmp .isin (.var 0) (.glob "COUNTING_KINDS")))) .nop)
noncomputable def Yw:Fi:=⟨1,1,Zz,ae⟩
noncomputable def Q9:Sx:=(.seq (.ife (.cmp .eq (.var 0) (.lit (.str "not"))) (.seq (.ret (.cmp .eq (.var 1) (.lit (.int 1)))) .nop) .nop) (.seq (.ife (.cmp .eq (.var 0) (.lit (.str "table"))) (.seq (.ret (.and (.cmp .ge (.var 1) (.lit (.int 1))) (.cmp .le (.var 1) (.glob "MOST_TABLE_FORMS")))) .nop) .nop) (.seq (.ife (.cmp .isin (.var 0) (.glob "TYING_KINDS")) (.seq (.ret (.cmp .eq (.var 1) (.blt .len (.cons (.glob "TIES") .nil)))) .nop) .nop) (.seq (.ret (.cmp .ge (.var 1) (.lit (.int 1)))) .nop))))
noncomputable def Q5:Fi:=⟨2,2,Q9,ae⟩
noncomputable def V0:Sx:=(.seq (.ife (.cmp .eq (.var 0) (.lit (.str "table"))) (.seq (.ret (.and (.cmp .eq (.blt .len (.cons (.var 1) .nil)) (.call "count_of_rows" (.cons (.var 2) .nil))) (.call "is_made_of" (.cons (.var 1) (.cons (.lit (.str "01")) .nil))))) .nop) .nop) (.seq (.ife (.cmp .isin (.var 0) (.glob "COUNTING_KINDS")) (.seq (.ret (.call "is_number" (.cons (.var 1) .nil))) .nop) .nop) (.seq (.ret (.lit (.bl af))) .nop)))
noncomputable def Yx:Fi:=⟨3,3,V0,ae⟩
noncomputable def U6:Sx:=(.seq (.ife (.not (.call "is_made_of" (.cons (.var 0) (.cons (.lit (.str "0123456789")) .nil)))) (.seq (.ret (.lit (.bl ae))) .nop) .nop) (.seq (.ret (.or (.cmp .eq (.blt .len (.cons (.var 0) .nil)) (.lit (.int 1))) (.and (.cmp .eq (.blt .len (.cons (.var 0) .nil)) (.lit (.int 2))) (.cmp .ne (.ix (.var 0) (.lit (.int 0))) (.lit (.str "0")))))) .nop))
noncomputable def j0x:Fi:=⟨1,1,U6,ae⟩
noncomputable def Z7:Sx:=(.seq (.ife (.cmp .eq (.ix (.var 0) (.lit (.int 0))) (.glob "PLACE")) (.seq (.ret (.cmp .isin (.ix (.var 0) (.lit (.int 1))) (.var 1))) .nop) .nop) (.seq (.ret (.blt .all (.cons (.comp [2] (.call "keeps_to" (.cons (.var 2) (.cons (.var 1) .nil))) (.seq (.ix (.var 0) (.lit (.int 2)))) .nil) .nil))) .nop))
noncomputable def Z6:Fi:=⟨2,3,Z7,ae⟩
noncomputable def V1:Sx:=(.seq (.ife (.cmp .eq (.ix (.var 0) (.lit (.int 0))) (.glob "PLACE")) (.seq (.ret (.dix (.var 1) (.ix (.var 0) (.lit (.int 1))))) .nop) .nop) (.seq (.set 2 (.comp [3] (.call "said_by" (.cons (.var 3) (.cons (.var 1) .nil))) (.seq (.ix (.var 0) (.lit (.int 2)))) .nil)) (.seq (.ret (.ite (.call "says_yes" (.cons (.ix (.var 0) (.lit (.int 0))) (.cons (.ix (.var 0) (.lit (.int 1))) (.cons (.var 2) .nil)))) (.lit (.int 1)) (.lit (.int 0)))) .nop)))
noncomputable def Zu:Fi:=⟨2,4,V1,ae⟩
noncomputable def Qj:Sx:=(.seq (.ife (.cmp .eq (.var 0) (.lit (.str "not"))) (.seq (.ret (.cmp .eq (.ix (.var 2) (.lit (.int 0))) (.lit (.int 0)))) .nop) .nop) (.seq (.ife (.cmp .eq (.var 0) (.lit (.str "all"))) (.seq (.ret (.cmp .eq (.blt .sum (.cons (.var 2) .nil)) (.blt .len (.cons (.var 2) .nil)))) .nop) .nop) (.seq (.ife (.cmp .eq (.var 0) (.lit (.str "any"))) (.seq (.ret (.cmp .ge (.blt .sum (.cons (.var 2) .nil)) (.lit (.int 1)))) .nop) .nop) (.seq (.ife (.cmp .eq (.var 0) (.lit (.str "odd"))) (.seq (.ret (.cmp .eq (.bin .mod (.blt .sum (.cons (.var 2) .nil)) (.lit (.int 2))) (.lit (.int 1)))) .nop) .nop) (.seq (.ife (.cmp .eq (.var 0) (.lit (.str "least"))) (.seq (.ret (.cmp .ge (.blt .sum (.cons (.var 2) .nil)) (.blt .int (.cons (.var 1) .nil)))) .nop) .nop) (.seq (.ife (.cmp .eq (.var 0) (.lit (.str "just"))) (.seq (.ret (.cmp .eq (.blt .sum (.cons (.var 2) .nil)) (.blt .int (.cons (.var 1) .nil)))) .nop) .nop) (.seq (.ife (.cmp .eq (.var 0) (.lit (.str "table"))) (.seq (.ret (.cmp .eq (.ix (.var 1) (.call "row_number" (.cons (.var 2) .nil))) (.lit (.str "1")))) .nop) .nop) (.seq (.ife (.cmp .eq (.var 0) (.lit (.str "ring"))) (.seq (.ret (.call "has_ring" (.cons (.var 2) .nil))) .nop) .nop) (.seq (.ret (.cmp .eq (.call "count_of_clusters" (.cons (.var 2) .nil)) (.lit (.int 1)))) .nop)))))))))
noncomputable def Js:Fi:=⟨3,3,Qj,ae⟩
noncomputable def Uu:Sx:=(.seq (.ret (.cmp .gt (.blt .sum (.cons (.var 0) .nil)) (.bin .sub (.blt .len (.cons (.glob "TIED_SPOTS") .nil)) (.call "count_of_clusters" (.cons (.var 0) .nil))))) .nop)
noncomputable def j1t:Fi:=⟨1,1,Uu,ae⟩
noncomputable def Qg:Sx:=(.seq (.set 1 (.blt .list (.cons (.glob "TIED_SPOTS") .nil))) (.seq (.loop [2,3] (.zip (.glob "TIES") (.var 0)) (.seq (.ife (.cmp .eq (.var 3) (.lit (.int 1))) (.seq (.set 1 (.call "marks_tied" (.cons (.var 1) (.cons (.ix (.var 1) (.ix (.var 2) (.lit (.int 0)))) (.cons (.ix (.var 1) (.ix (.var 2) (.lit (.int 1)))) .nil))))) .nop) .nop) .nop)) (.seq (.ret (.lset (.var 1))) .nop)))
noncomputable def Wz:Fi:=⟨1,4,Qg,ae⟩
noncomputable def Y6:Sx:=(.seq (.ret (.comp [3] (.ite (.cmp .eq (.var 3) (.var 2)) (.var 1) (.var 3)) (.seq (.var 0)) .nil)) .nop)
noncomputable def Iv:Fi:=⟨3,4,Y6,ae⟩
noncomputable def Yn:Sx:=(.seq (.ife (.cmp .lt (.var 1) (.blt .len (.cons (.var 0) .nil))) (.seq (.ret (.ix (.var 0) (.var 1))) .nop) .nop) (.seq (.set 2 (.bin .add (.lit (.int 70001)) (.bin .mul (.bin .mul (.lit (.int 911)) (.var 1)) (.var 1)))) (.seq (.ife (.cmp .gt (.blt .len (.cons (.var 0) .nil)) (.lit (.int 0))) (.seq (.set 2 (.bin .add (.var 2) (.bin .mul (.bin .mod (.ix (.var 0) (.lit (.int 0))) (.lit (.int 9973))) (.bin .add (.bin .mul (.lit (.int 3)) (.var 1)) (.lit (.int 1)))))) .nop) .nop) (.seq (.retV 2) .nop))))
noncomputable def fL_cell:Fi:=⟨2,3,Yn,ae⟩
noncomputable def Rp:Sx:=(.seq (.set 2 (.lit (.str "mdkbvqhzcgrnapxolsiefwtyju"))) (.seq (.set 3 (.lst .nil)) (.seq (.mov 4 0) (.seq (.loop [5] (.range (.cons (.bin .mul (.var 1) (.blt .int (.cons (.cmp .ge (.var 0) (.bin .pow (.lit (.int 10)) (.lit (.int 18)))) .nil))) .nil)) (.seq (.set 6 (.bin .add (.lit (.int 1)) (.bin .mod (.var 4) (.lit (.int 8))))) (.seq (.set 4 (.bin .fdiv (.var 4) (.lit (.int 8)))) (.seq (.set 7 (.lit (.str ""))) (.seq (.loop [8] (.range (.cons (.var 6) .nil)) (.seq (.set 7 (.bin .add (.var 7) (.ix (.var 2) (.bin .mod (.var 4) (.lit (.int 26)))))) (.seq (.set 4 (.bin .fdiv (.var 4) (.lit (.int 26)))) .nop))) (.seq (.app 3 (.var 7)) .nop)))))) (.seq (.ife (.cmp .eq (.lset (.var 3)) (.var 1)) (.seq (.retV 3) .nop) .nop) (.seq (.ife (.cmp .lt (.bin .mod (.var 0) (.lit (.int 4))) (.lit (.int 2))) (.seq (.fgt 5) (.seq (.set 9 (.join "" (.comp [5] (.ix (.var 2) (.bin .mod (.bin .fdiv (.var 0) (.bin .add (.lit (.int 4)) (.bin .mul (.lit (.int 5)) (.var 5)))) (.lit (.int 26)))) (.range (.cons (.lit (.int 8)) .nil)) .nil))) (.seq (.set 10 (.bin .mod (.bin .fdiv (.var 0) (.lit (.int 8))) (.bin .sub (.lit (.int 9)) (.var 1)))) (.seq (.ife (.cmp .eq (.bin .mod (.var 0) (.lit (.int 4))) (.lit (.int 0))) (.seq (.fgt 5) (.seq (.ret (.comp [5] (.sl (.var 9) .nil (.cons (.bin .add (.bin .add (.var 10) (.var 5)) (.lit (.int 1))) .nil)) (.range (.cons (.var 1) .nil)) .nil)) .nop)) .nop) (.seq (.fgt 5) (.seq (.ret (.comp [5] (.sl (.var 9) (.cons (.bin .sub (.bin .sub (.bin .sub (.lit (.int 8)) (.var 10)) (.var 5)) (.lit (.int 1))) .nil) .nil) (.range (.cons (.var 1) .nil)) .nil)) .nop)))))) .nop) (.seq (.set 6 (.bin .mod (.bin .fdiv (.var 0) (.lit (.int 4))) (.lit (.int 8)))) (.seq (.fgt 5) (.seq (.set 11 (.join "" (.comp [5] (.ix (.var 2) (.bin .mod (.bin .add (.bin .add (.bin .fdiv (.var 0) (.lit (.int 32))) (.bin .mul (.bin .mul (.lit (.int 3)) (.var 5)) (.var 5))) (.var 5)) (.lit (.int 26)))) (.range (.cons (.var 6) .nil)) .nil))) (.seq (.set 12 (.bin .mod (.bin .fdiv (.var 0) (.lit (.int 512))) (.bin .add (.var 6) (.lit (.int 1))))) (.seq (.fgt 5) (.seq (.ret (.comp [5] (.bin .add (.bin .add (.sl (.var 11) .nil (.cons (.var 12) .nil)) (.ix (.var 2) (.bin .mod (.bin .add (.bin .fdiv (.var 0) (.lit (.int 9))) (.bin .mul (.lit (.int 7)) (.var 5))) (.lit (.int 26))))) (.sl (.var 11) (.cons (.var 12) .nil) .nil)) (.range (.cons (.var 1) .nil)) .nil)) .nop))))))))))))
noncomputable def N6:Fi:=⟨2,13,Rp,ae⟩
noncomputable def Wb:Sx:=(.seq (.set 3 (.comp [4] (.var 4) (.range (.cons (.blt .len (.cons (.var 0) .nil)) .nil)) (.cons (.cmp .eq (.bin .mod (.bin .fdiv (.var 2) (.bin .shl (.lit (.int 1)) (.var 4))) (.lit (.int 2))) (.lit (.int 1))) .nil))) (.seq (.set 5 (.blt .sum (.cons (.comp [4] (.bin .shl (.ix (.var 0) (.var 4)) (.var 4)) (.seq (.var 3)) .nil) .nil))) (.seq (.set 6 (.blt .sum (.cons (.comp [4,7] (.bin .shl (.var 7) (.var 4)) (.enum (.var 0)) .nil) .nil))) (.seq (.ife (.cmp .eq (.var 1) (.lit (.int 1))) (.seq (.ret (.blt .int (.cons (.cmp .gt (.blt .sum (.cons (.var 0) .nil)) (.bin .mod (.bin .fdiv (.var 2) (.lit (.int 64))) (.blt .len (.cons (.var 0) .nil)))) .nil))) .nop) .nop) (.seq (.ife (.cmp .eq (.var 1) (.lit (.int 2))) (.seq (.set 8 (.bin .mod (.bin .mul (.bin .add (.var 6) (.lit (.int 1))) (.bin .add (.lit (.int 1)) (.bin .mod (.var 2) (.lit (.int 1000003))))) (.lit (.int 2147483629)))) (.seq (.ret (.blt .int (.cons (.cmp .eq (.bin .mod (.bin .fdiv (.var 8) (.lit (.int 32))) (.lit (.int 5))) (.lit (.int 0))) .nil))) .nop)) .nop) (.seq (.ife (.cmp .eq (.var 1) (.lit (.int 3))) (.seq (.set 8 (.bin .mul (.bin .add (.bin .add (.bin .mul (.var 5) (.var 5)) (.bin .mul (.lit (.int 17)) (.var 5))) (.lit (.int 69621))) (.bin .add (.lit (.int 1)) (.bin .mod (.var 2) (.lit (.int 1000003)))))) (.seq (.ret (.bin .mod (.bin .fdiv (.bin .mod (.var 8) (.lit (.int 2147483647))) (.lit (.int 16))) (.lit (.int 2)))) .nop)) .nop) (.seq (.ife (.cmp .eq (.var 1) (.lit (.int 4))) (.seq (.ret (.bin .mod (.bin .add (.blt .sum (.cons (.comp [4] (.ix (.var 0) (.var 4)) (.seq (.var 3)) .nil) .nil)) (.bin .fdiv (.var 2) (.lit (.int 64)))) (.lit (.int 2)))) .nop) .nop) (.seq (.set 8 (.bin .mul (.bin .add (.bin .mul (.var 6) (.var 6)) (.lit (.int 48271))) (.bin .add (.bin .add (.bin .mod (.var 2) (.lit (.int 1000003))) (.var 6)) (.lit (.int 1))))) (.seq (.ret (.bin .mod (.bin .fdiv (.bin .mod (.var 8) (.lit (.int 2147483647))) (.lit (.int 64))) (.lit (.int 2)))) .nop)))))))))
noncomputable def fL_bit:Fi:=⟨3,9,Wb,ae⟩
noncomputable def Vo:Sx:=(.seq (.set 3 (.bin .add (.lit (.int 1)) (.bin .mod (.call "_law_cell" (.cons (.var 0) (.cons (.var 1) .nil))) (.var 2)))) (.seq (.set 4 (.call "_law_words" (.cons (.call "_law_cell" (.cons (.var 0) (.cons (.bin .add (.var 1) (.lit (.int 1))) .nil))) (.cons (.var 3) .nil)))) (.seq (.set 5 (.bin .mod (.bin .fdiv (.call "_law_cell" (.cons (.var 0) (.cons (.var 1) .nil))) (.var 2)) (.lit (.int 5)))) (.seq (.set 6 (.call "_law_cell" (.cons (.var 0) (.cons (.bin .add (.var 1) (.lit (.int 2))) .nil)))) (.seq (.set 7 (.lst .nil)) (.seq (.loop [8] (.range (.cons (.bin .shl (.lit (.int 1)) (.var 3)) .nil)) (.seq (.set 9 (.comp [10] (.bin .mod (.bin .fdiv (.var 8) (.bin .shl (.lit (.int 1)) (.bin .sub (.bin .sub (.var 3) (.var 10)) (.lit (.int 1))))) (.lit (.int 2))) (.range (.cons (.var 3) .nil)) .nil)) (.seq (.app 7 (.ix (.lst (.cons (.call "_law_bit" (.cons (.var 9) (.cons (.var 5) (.cons (.var 6) .nil)))) (.cons (.bin .mod (.bin .fdiv (.var 6) (.bin .shl (.lit (.int 1)) (.var 8))) (.lit (.int 2))) .nil))) (.blt .int (.cons (.cmp .ge (.var 6) (.bin .pow (.lit (.int 10)) (.lit (.int 18)))) .nil)))) .nop))) (.seq (.ret (.tup (.cons (.blt .tuple (.cons (.var 4) .nil)) (.cons (.blt .tuple (.cons (.var 7) .nil)) .nil)))) .nop)))))))
noncomputable def Ut:Fi:=⟨3,11,Vo,ae⟩
noncomputable def Vg:Sx:=(.seq (.ife (.isi (.var 1) ["list","tuple"]) (.seq (.ife (.or (.cmp .ne (.isi (.var 0) ["list"]) (.isi (.var 1) ["list"])) (.not (.isi (.var 0) ["list","tuple"]))) (.seq (.ret (.lit (.bl ae))) .nop) .nop) (.seq (.set 2 (.comp [3] (.var 3) (.range (.cons (.blt .min (.cons (.blt .len (.cons (.var 0) .nil)) (.cons (.blt .len (.cons (.var 1) .nil)) .nil))) .nil)) (.cons (.not (.call "_law_same" (.cons (.ix (.var 0) (.var 3)) (.cons (.ix (.var 1) (.var 3)) .nil)))) .nil))) (.seq (.ret (.and (.cmp .eq (.blt .len (.cons (.var 0) .nil)) (.blt .len (.cons (.var 1) .nil))) (.cmp .eq (.var 2) (.lst .nil)))) .nop))) .nop) (.seq (.ife (.isN (.var 1)) (.seq (.ret (.isN (.var 0))) .nop) .nop) (.seq (.ife (.or (.cmp .ne (.isi (.var 0) ["bool"]) (.isi (.var 1) ["bool"])) (.cmp .ne (.isi (.var 0) ["str"]) (.isi (.var 1) ["str"]))) (.seq (.ret (.lit (.bl ae))) .nop) .nop) (.seq (.ret (.and (.isi (.var 0) ["int","str"]) (.cmp .eq (.var 0) (.var 1)))) .nop))))
noncomputable def fL_same:Fi:=⟨2,4,Vg,ae⟩
noncomputable def Wa:Sx:=(.seq (.set 2 (.lst .nil)) (.seq (.loop [3] (.range (.cons (.var 0) .nil)) (.seq (.app 2 (.bin .mod (.bin .fdiv (.var 1) (.bin .shl (.lit (.int 1)) (.bin .sub (.bin .sub (.var 0) (.var 3)) (.lit (.int 1))))) (.lit (.int 2)))) .nop)) (.seq (.ret (.blt .tuple (.cons (.var 2) .nil))) .nop)))
noncomputable def fL_row:Fi:=⟨2,4,Wa,ae⟩
noncomputable def Rq:Sx:=(.seq (.fgt 3) (.seq (.set 2 (.comp [3] (.var 3) (.range (.cons (.var 1) .nil)) .nil)) (.seq (.set 4 (.lst .nil)) (.seq (.set 5 (.bin .mod (.var 0) (.lit (.int 2147483647)))) (.seq (.mov 6 0) (.seq (.loop [3] (.range (.cons (.var 1) .nil)) (.seq (.set 5 (.bin .mod (.bin .add (.bin .add (.bin .mul (.var 5) (.lit (.int 48271))) (.bin .mul (.lit (.int 7)) (.var 3))) (.lit (.int 1))) (.lit (.int 2147483647)))) (.seq (.set 7 (.bin .mod (.ix (.lst (.cons (.bin .fdiv (.var 5) (.lit (.int 32))) (.cons (.var 6) .nil))) (.blt .int (.cons (.cmp .ge (.var 0) (.bin .pow (.lit (.int 10)) (.lit (.int 18)))) .nil))) (.blt .len (.cons (.var 2) .nil)))) (.seq (.set 6 (.bin .fdiv (.var 6) (.blt .len (.cons (.var 2) .nil)))) (.seq (.apop 4 2 (.var 7)) .nop))))) (.seq (.retV 4) .nop)))))))
noncomputable def N7:Fi:=⟨2,8,Rq,ae⟩
noncomputable def Ot:Sx:=(.seq (.set 2 (.blt .len (.cons (.var 0) .nil))) (.seq (.set 3 (.lst .nil)) (.seq (.loop [4] (.range (.cons (.bin .shl (.lit (.int 1)) (.var 2)) .nil)) (.seq (.set 5 (.call "_law_row" (.cons (.var 2) (.cons (.var 4) .nil)))) (.seq (.ife (.cmp .eq (.ix (.var 1) (.var 4)) (.lit (.int 1))) (.seq (.set 6 (.comp [7] (.ix (.lst (.cons (.bin .add (.bin .add (.lit (.str "( not ")) (.ix (.var 0) (.var 7))) (.lit (.str " )"))) (.cons (.ix (.var 0) (.var 7)) .nil))) (.ix (.var 5) (.var 7))) (.range (.cons (.var 2) .nil)) .nil)) (.seq (.app 3 (.bin .add (.bin .add (.lit (.str "( all ")) (.join " " (.var 6))) (.lit (.str " )")))) .nop)) .nop) .nop))) (.seq (.ife (.cmp .eq (.var 3) (.lst .nil)) (.seq (.ret (.bin .add (.bin .add (.bin .add (.bin .add (.lit (.str "( all ")) (.ix (.var 0) (.lit (.int 0)))) (.lit (.str " ( not "))) (.ix (.var 0) (.lit (.int 0)))) (.lit (.str " ) )")))) .nop) .nop) (.seq (.ret (.bin .add (.bin .add (.lit (.str "( any ")) (.join " " (.var 3))) (.lit (.str " )")))) .nop)))))
noncomputable def Lp:Fi:=⟨2,8,Ot,ae⟩
noncomputable def Yj:Sx:=(.seq (.set 3 (.blt .len (.cons (.var 0) .nil))) (.seq (.set 4 (.lst .nil)) (.seq (.loop [5] (.range (.cons (.bin .shl (.lit (.int 1)) (.var 3)) .nil)) (.seq (.set 6 (.call "_law_row" (.cons (.var 3) (.cons (.var 5) .nil)))) (.seq (.set 7 (.lit (.int 0))) (.seq (.loop [8,9] (.enum (.var 2)) (.seq (.set 7 (.bin .add (.var 7) (.bin .mul (.ix (.var 6) (.var 8)) (.bin .shl (.lit (.int 1)) (.bin .sub (.bin .sub (.var 3) (.var 9)) (.lit (.int 1))))))) .nop)) (.seq (.app 4 (.ix (.var 1) (.var 7))) .nop))))) (.seq (.fgt 9) (.seq (.ret (.tup (.cons (.blt .tuple (.cons (.comp [9] (.ix (.var 0) (.var 9)) (.seq (.var 2)) .nil) .nil)) (.cons (.blt .tuple (.cons (.var 4) .nil)) .nil)))) .nop)))))
noncomputable def R8:Fi:=⟨3,10,Yj,ae⟩
noncomputable def j4g:Sx:=(.seq (.unp 1 2 (.call "_law_question" (.cons (.var 0) (.cons (.lit (.int 0)) (.cons (.lit (.int 6)) .nil))))) (.seq (.ife (.cmp .eq (.bin .mod (.call "_law_cell" (.cons (.var 0) (.cons (.lit (.int 3)) .nil))) (.lit (.int 8))) (.lit (.int 0))) (.seq (.set 2 (.blt .tuple (.cons (.comp [3] (.lit (.int 0)) (.seq (.var 2)) .nil) .nil))) .nop) .nop) (.seq (.set 4 (.call "_law_order" (.cons (.call "_law_cell" (.cons (.var 0) (.cons (.lit (.int 4)) .nil))) (.cons (.blt .len (.cons (.var 1) .nil)) .nil)))) (.seq (.set 5 (.call "_law_text" (.cons (.var 1) (.cons (.var 2) .nil)))) (.seq (.set 6 (.call "question_shown" (.cons (.tup (.cons (.var 1) (.cons (.var 2) .nil))) .nil))) (.seq (.ife (.or (.not (.call "_law_same" (.cons (.var 6) (.cons (.var 5) .nil)))) (.not (.call "_law_same" (.cons (.call "question_read" (.cons (.var 6) (.cons (.var 1) .nil))) (.cons (.tup (.cons (.var 1) (.cons (.var 2) .nil))) .nil))))) (.seq (.ret (.lit (.bl ae))) .nop) .nop) (.seq (.set 7 (.call "question_read" (.cons (.var 6) (.cons (.comp [8] (.ix (.var 1) (.var 8)) (.seq (.var 4)) .nil) .nil)))) (.seq (.ife (.not (.call "_law_same" (.cons (.var 7) (.cons (.call "_law_ordered" (.cons (.var 1) (.cons (.var 2) (.cons (.var 4) .nil)))) .nil)))) (.seq (.ret (.lit (.bl ae))) .nop) .nop) (.seq (.ret (.call "_law_same" (.cons (.call "question_shown" (.cons (.tup (.cons (.var 1) (.cons (.var 2) .nil))) .nil)) (.cons (.var 5) .nil)))) .nop)))))))))
noncomputable def j45:Fi:=⟨1,9,j4g,ae⟩
noncomputable def tbl:List (aq×Fi):=("is_word",Wx)::("is_made_of",Y5)::("rows_of",Ww)::("row_number",Y4)::("refuse_wrong_size",Qd)::("all_choices",fP_all_choices)::("number_of",Yz)::("answer_to",U0)::("refuse_wrong_places",zy)::("count_of_rows",N5)::("question_read",Zc)::("question_shown",Qx)::("row_shown",Yy)::("place_shown",Vd)::("form_of",Wy)::("@form_taken",Qi)::("@bracketed_taken",Qp)::("wants_own",Yw)::("takes_count",Q5)::("takes_own",Yx)::("is_number",j0x)::("keeps_to",Z6)::("said_by",Zu)::("says_yes",Js)::("has_ring",j1t)::("count_of_clusters",Wz)::("marks_tied",Iv)::("_law_cell",fL_cell)::("_law_words",N6)::("_law_bit",fL_bit)::("_law_question",Ut)::("_law_same",fL_same)::("_law_row",fL_row)::("_law_order",N7)::("_law_text",Lp)::("_law_ordered",R8)::("law",j45)::[]
noncomputable def T(x:aq):Option Fi:=tbl.lookup x
noncomputable def gs:List (aq×D):=[("LETTERS",.str "abcdefghijklmnopqrstuvwxyz"),("LONGEST_WORD",.int 8),("FEWEST_PLACES",.int 1),("MOST_PLACES",.int 6),("ANSWERS",.tup [.int 0,.int 1]),("KINDS",.tup [.str "not",.str "all",.str "any",.str "odd",.str "least",.str "just",.str "table",.str "ring",.str "joined"]),("COUNTING_KINDS",.tup [.str "least",.str "just"]),("TYING_KINDS",.tup [.str "ring",.str "joined"]),("PLACE",.str "place"),("MOST_BRACKETS",.int 8),("MOST_TABLE_FORMS",.int 4),("TIED_SPOTS",.tup [.int 0,.int 1,.int 2,.int 3]),("TIES",.tup [.tup [.int 0,.int 1],.tup [.int 0,.int 2],.tup [.int 0,.int 3],.tup [.int 1,.int 2],.tup [.int 1,.int 3],.tup [.int 2,.int 3]])]
noncomputable def xs:List (aq×List D):=[]
noncomputable def qs:List aq:=["Pieces"]
noncomputable abbrev G:aq->Option D:=Gof gs ae xs qs
end K14
end
section
open PySem PySem.Spec PyProof.Rows L2
local macro_rules | `(tactic| walk_at "vis")=>`(tactic| first | exact Or.inl rfl | exact Or.inr (Or.inl rfl) | exact Or.inr (Or.inr rfl))
local macro_rules | `(tactic| walk_at "loc")=>`(tactic| first | exact Or.inl rfl | exact Or.inr rfl)
local macro_rules | `(tactic| walk_at "cap")=>`(tactic| repeat (first | exact rfl | refine ⟨_,_,rfl,by rfl,by rfl,by rfl,by rfl,?_⟩))
local macro_rules | `(tactic| walk_at "ts")=>`(tactic| first
 |exact Tr.int|exact Tr.bl|exact Tr.str
 |exact Tr.var (by rfl) (by walk_at "vis") (by decide) (by decide)|exact Tr.glob (by rfl) (by decide) (by decide)
 |refine Tr.bin ?_ ?_|refine Tr.cmp (by rfl) ?_ ?_|refine Tr.bcmp (by rfl) ?_ ?_|refine Tr.isN ?_|refine Tr.bisN ?_|refine Tr.isNN ?_|refine Tr.bisNN ?_
 |refine Tr.and ?_ ?_|refine Tr.or ?_ ?_|refine Tr.one ?_|refine Tr.not ?_
 |refine Tr.wand ?_ ?_|refine Tr.wor ?_ ?_|refine Tr.wand1 ?_|refine Tr.wor1 ?_|refine Tr.bw ?_|refine Tr.bnot ?_
 |refine Tr.ite ?_ ?_ ?_|exact Tr.nil|refine Tr.cons (by rfl) ?_ ?_|refine Tr.tup ?_|refine Tr.lst ?_
 |refine Tr.ix (by intro _ _;rfl) ?_ ?_|exact Tr.oN|refine Tr.oS ?_|refine Tr.sl ?_ ?_ ?_
 |refine Tr.call (by rfl) (by decide) (by rfl) (by rfl) ?_
 |refine Tr.dzip (by rfl) (by rfl) (by rfl) (by rfl) (by rfl) (by rfl) ?_ ?_|refine Tr.dix (by intro _ _;rfl) ?_ ?_|refine Tr.lset (by rfl) (by rfl) (by rfl) (by rfl) (by rfl) ?_|refine Tr.len (by rfl) ?_|refine Tr.all (by rfl) (by rfl) ?_|refine Tr.tuple (by rfl) ?_|refine Tr.list (by rfl) ?_|refine Tr.min (by rfl) (by rfl) ?_
 |refine Tr.sum (by rfl) (by rfl) ?_|refine Tr.intc (by rfl) ?_|refine Tr.join (by rfl) (by rfl) (by rfl) (by rfl) ?_|refine Tr.lset (by rfl) (by rfl) (by rfl) (by rfl) (by rfl) ?_|refine Tr.enum (by rfl) (by rfl) ?_
 |refine Tr.isi1 (by decide) (by decide +kernel) (by rfl) (by rfl) (by decide) (by decide) (by rfl) ?_
 |refine Tr.isi2 (by decide) (by decide) (by decide +kernel) (by decide +kernel) (by rfl) (by rfl) (by rfl) (by decide) (by decide) (by decide) (by decide) (by rfl) ?_
 |exact Tr.c0|refine Tr.c1 ?_
 |refine Tr.comp1 (by rfl) (by rfl) (by rfl) (by rfl) (by rfl) (by intro _;rfl) ?_ ?_ ?_
 |refine Tr.comp2 (by rfl) (by decide) (by rfl) (by rfl) (by rfl) (by rfl) (by rfl) (by rfl) (by intro _;rfl) ?_ ?_ ?_
 |refine Tr.seq ?_|refine Tr.range (by rfl) ?_|refine Tr.zip (by rfl) (by rfl) (by rfl) ?_ ?_
 |exact Tr.p0|refine Tr.pC ?_|refine Tr.pR ?_ ?_|refine Tr.pF ?_ ?_|refine Tr.fst ?_
 |refine Tr.bval (by intro _;rfl) ?_
 |refine Ts.unp (by rfl) (by rfl) (by rfl) (by walk_at "loc") (by walk_at "loc") (by exact aZ rfl) (by exact aZ rfl) (by rfl) (by rfl) ?_
 |refine' Ts.lend (by rfl) (by decide) (by rfl) (by rfl) (by walk_at "loc") (by walk_at "loc") (by exact aZ rfl) (by exact aZ rfl) (by intro _;rfl) (by rfl) (by rfl) (by rfl) (by walk_at "vis") (by decide) (by decide) (by rfl) (by rfl) ?_ ?_|refine' Ts.lent (by rfl) (by walk_at "loc") (by walk_at "vis") (by exact aZ rfl) (by decide) (by decide) (by rfl) (by rfl) (by rfl) ?_ ?_ ?_ ?_ ?_|refine TMt.set (by rfl) (by walk_at "loc") (by rfl) (by exact aZ rfl) ?_ ?_|refine TMt.ife ?_ ?_ ?_ ?_|exact TMt.nil|exact TMs.nil|exact TMs.fail|refine TMs.set (by rfl) (by walk_at "loc") (by rfl) (by exact aZ rfl) ?_ ?_|refine TMs.ife ?_ ?_ ?_ ?_|exact⟨rfl,rfl,rfl,λ_ _=>rfl⟩
 |exact Ts.nil|refine Ts.fgt ?_|refine Ts.cons ?_ ?_|exact Ts.pass|exact Ts.doc|exact Ts.fail
 |exact Ts.mov (by rfl) (by rfl) (by walk_at "loc") (by exact aZ rfl) (by walk_at "vis") (by decide) (by decide)
 |refine Ts.setC1 (by rfl) (by rfl) (by walk_at "loc") (by exact aZ rfl) (by rfl) (by rfl) (by rfl) (by rfl) (by rfl) (by intro _;rfl) ?_ ?_ ?_
 |refine Ts.setC2 (by rfl) (by rfl) (by walk_at "loc") (by exact aZ rfl) (by rfl) (by decide) (by rfl) (by rfl) (by rfl) (by rfl) (by rfl) (by rfl) (by intro _;rfl) ?_ ?_ ?_
 |refine Ts.set (by rfl) (by walk_at "loc") (by rfl) (by exact aZ rfl) ?_
 |exact Ts.retV (by rfl) (by walk_at "vis") (by decide) (by decide)|refine Ts.ret ?_
 |refine Ts.ife ?_ ?_ ?_|refine Ts.for1 (by rfl) (by rfl) (by walk_at "loc") (by exact aZ rfl) (by intro _;rfl) ?_ ?_
 |refine Ts.for2 (by rfl) (by decide) (by rfl) (by rfl) (by walk_at "loc") (by walk_at "loc") (by exact aZ rfl) (by exact aZ rfl) (by intro _;rfl) ?_ ?_
 |refine Ts.apop (by rfl) (by walk_at "vis") (by decide) (by decide) (by rfl) (by walk_at "vis") (by decide) (by decide) (by rfl) (by rfl) (by rfl) (by rfl) (by rfl) (by rfl) (by rfl) (by rfl) (by rfl) ?_
 |refine Ts.app (by rfl) (by walk_at "vis") (by decide) (by decide) (by rfl) (by rfl) (by rfl) (by rfl) ?_
 |refine Ts.ext (by rfl) (by walk_at "vis") (by decide) (by decide) (by rfl) (by rfl) (by rfl) (by rfl) ?_
 |refine Ts.raise (by rfl) (by rfl) (by decide) (by rfl) ?_
 |refine Ts.expr (by rfl) ?_
 |refine Ts.newP (by rfl) (by rfl) (by rfl) (by rfl) (by walk_at "loc") (by rfl) (by exact aZ rfl) ?_ ?_
 |exact MP.nop|refine MP.keep (by decide) ?_
 |refine MP.setC (by decide) (by rfl) (by rfl) (by walk_at "loc") (by exact aZ rfl) (by rfl) (by rfl) (by rfl) (by rfl) (by rfl) (by intro _;rfl) ?_ ?_ ?_ ?_
 |refine MP.set (by decide) (by rfl) (by walk_at "loc") (by rfl) (by exact aZ rfl) ?_ ?_
 |refine MP.ret ?_|refine MP.ifRet ?_ ?_ ?_
 |refine MP.ifAll (by rfl) (by rfl) (by decide) (by rfl) (by rfl) (by walk_at "vis") (by decide) (by decide) (by exact⟨_,rfl⟩) (by intro _;rfl) ?_ ?_
 |refine MP.ifRai (by rfl) (by rfl) (by decide) (by rfl) ?_ ?_ ?_
 |refine MP.takeIf (by decide) (by rfl) (by walk_at "vis") (by decide) (by decide) (by exact⟨_,rfl⟩) (by rfl) (by walk_at "loc") (by rfl) (by exact aZ rfl) ?_ ?_ ?_
 |refine MP.take (by decide) (by rfl) (by walk_at "vis") (by decide) (by decide) (by exact⟨_,rfl⟩) (by rfl) (by walk_at "loc") (by rfl) (by exact aZ rfl) ?_
 |refine MP.takeE (by rfl) (by walk_at "vis") (by decide) (by decide) (by exact⟨_,rfl⟩) (by rfl) ?_
 |refine MP.callS (by decide) (by exact⟨_,_,_,_,rfl,by rfl,by walk_at "vis",by decide,by decide,by rfl,by decide,by rfl,by rfl⟩) (by rfl) (by walk_at "loc") (by rfl) (by exact aZ rfl) ?_ ?_
 |refine MP.ifCal (by exact⟨_,_,_,_,rfl,by rfl,by walk_at "vis",by decide,by decide,by rfl,by decide,by rfl,by rfl⟩) ?_ ?_ ?_
 |refine MP.appC (by decide) (by exact⟨_,_,_,_,rfl,by rfl,by walk_at "vis",by decide,by decide,by rfl,by decide,by rfl,by rfl⟩) (by rfl) (by walk_at "vis") (by decide) (by decide) (by rfl) (by rfl) (by rfl) (by rfl) (by rfl) ?_ ?_
 |refine MP.whlA (by rfl) (by walk_at "vis") (by decide) (by decide) (by exact⟨_,rfl⟩) ?_ ?_
 |intro C s H fp pn
 |intro pn xe)
local macro_rules | `(tactic| walk_at "bnd")=>`(tactic| (intro _ _ _ _ _ _ us hl; first | (obtain ⟨_,e⟩:=us1 hl; subst e; rfl) | (obtain ⟨_,_,e⟩:=us2 hl; subst e; rfl) | (obtain ⟨_,_,_,e⟩:=us3 hl; subst e; rfl)))
local macro_rules | `(tactic| walk_at "sc")=>`(tactic| exact ⟨rfl,rfl,rfl,by decide +kernel,rfl,by decide +kernel,by decide +kernel⟩)
local macro_rules | `(tactic| walk_at "lk")=>`(tactic| first | walk_at "sc" | walk_at "bnd" | decide)
namespace K14
section
variable{P:az}{w:aF}{K:k7t}{mg:k7w}{base:aH}
theorem pcS:PcS P w K mg base (inClass (top 12) 0) (inClass (top 12) 1) (inClass (top 12) 2) (inClass (top 12) 3) :=
 ⟨by walk_at "sc",by walk_at "sc",by walk_at "sc",by walk_at "sc",⟨_,_,_,_,_,_,_,_,_,_,_,_,_,rfl,rfl⟩,⟨_,_,_,_,_,_,_,_,_,_,_,_,_,_,_,_,_,rfl⟩,⟨_,_,_,_,_,_,_,_,_,_,_,_,_,_,_,rfl,λf cdv A outer s H E=>⟨_,rfl⟩⟩,⟨_,_,_,_,_,_,_,_,rfl⟩,⟨by walk_at "vis",by walk_at "vis",by walk_at "vis",by walk_at "vis",by walk_at "vis"⟩,⟨rfl,rfl,rfl⟩,(by intro _ _ _ _ _ _ us hl;obtain⟨_,_,e⟩:=us2 hl;subst e;rfl),(by intro _ _ _ _ _ _ us hl;obtain⟨_,e⟩:=us1 hl;subst e;rfl),(by intro _ _ _ _ _ _ us hl;obtain⟨_,e⟩:=us1 hl;subst e;rfl),(by intro _ _ _ _ _ _ us hl;obtain⟨_,e⟩:=us1 hl;subst e;rfl)⟩
theorem j1m:TrT P w K mg base "is_word" ["piece"] (top 10) Yh:=by
 intro f cdv A outer s H E xe;unfold Yh
 repeat' (walk_at "ts")
theorem Ce:TrT P w K mg base "is_made_of" ["piece","signs","sign"] (top 11) Zb:=by
 intro f cdv A outer s H E xe;unfold Zb
 repeat' (walk_at "ts")
theorem j1l:TrT P w K mg base "rows_of" ["many"] (top 17) Yg:=by
 intro f cdv A outer s H E xe;unfold Yg
 repeat' (walk_at "ts")
theorem Ca:TrT P w K mg base "row_number" ["row"] (top 18) Za:=by
 intro f cdv A outer s H E xe;unfold Za
 repeat' (walk_at "ts")
theorem Uy:TrT P w K mg base "refuse_wrong_size" ["many"] (top 19) J7:=by
 intro f cdv A outer s H E xe;unfold J7
 repeat' (walk_at "ts")
theorem Nr:TrT P w K mg base "all_choices" ["figures_by_spot","chosen","figures","longer","ahead","figure"] (top 20) J9:=by
 intro f cdv A outer s H E xe;unfold J9
 repeat' (walk_at "ts")
theorem Io:TrT P w K mg base "number_of" ["figures","base","number","figure"] (top 21) V3:=by
 intro f cdv A outer s H E xe;unfold V3
 repeat' (walk_at "ts")
theorem Ir:TrT P w K mg base "answer_to" ["question","row"] (top 23) V4:=by
 intro f cdv A outer s H E xe;unfold V4
 repeat' (walk_at "ts")
theorem Ub:TrT P w K mg base "refuse_wrong_places" ["places","ahead","place"] (top 24) v6:=by
 intro f cdv A outer s H E xe;unfold v6
 repeat' (walk_at "ts")
theorem Ox:TrT P w K mg base "count_of_rows" ["many"] (top 25) Ze:=by
 intro f cdv A outer s H E xe;unfold Ze
 repeat' (walk_at "ts")
theorem Ow:TrT P w K mg base "question_read" ["text","places","form","answers","row"] (top 35) Qf:=by
 intro f cdv A outer s H E xe;unfold Qf
 repeat' (walk_at "ts")
theorem M4:TrT P w K mg base "question_shown" ["question","rows","row","first","shown"] (top 36) Jx:=by
 intro f cdv A outer s H E xe;unfold Jx
 repeat' (walk_at "ts")
theorem Im:TrT P w K mg base "row_shown" ["places","row","shown","place","number"] (top 37) V2:=by
 intro f cdv A outer s H E xe;unfold V2
 repeat' (walk_at "ts")
theorem Nq:TrT P w K mg base "place_shown" ["place","number"] (top 38) Qu:=by
 intro f cdv A outer s H E xe;unfold Qu
 repeat' (walk_at "ts")
theorem j1n:TrT P w K mg base "form_of" ["text","pieces","form"] (top 39) Yi:=by
 intro f cdv A outer s H E xe;unfold Yi
 repeat' (walk_at "ts")
noncomputable def Rx:Px:=(.take 2 (.ifCal (.cmp .eq (.var 2) (.lit (.str "("))) "bracketed_taken" (.cons (.bin .add (.var 1) (.lit (.int 1))) .nil) (.ifRai (.not (.call "is_word" (.cons (.var 2) .nil))) "NoText" (.fst (.cons (.rpr (.var 2)) (.cons (.lit (.str " stands where a form is wanted")) .nil))) (.ret (.tup (.cons (.glob "PLACE") (.cons (.var 2) (.cons (.tup .nil) .nil))))))))
theorem Cg:TrM P w K mg base "form_taken" ["pieces","brackets","piece"] (top 40) Rx:=by
 intro f cdv A outer s H E xe;unfold Rx
 repeat' (walk_at "ts")
noncomputable def Vr:Px:=(.ifRai (.cmp .gt (.var 1) (.glob "MOST_BRACKETS")) "NoText" (.fst (.cons (.lit (.str "more than ")) (.cons (.glob "MOST_BRACKETS") (.cons (.lit (.str " brackets stand unclosed at once")) .nil)))) (.take 2 (.ifRai (.cmp .notin (.var 2) (.glob "KINDS")) "NoText" (.fst (.cons (.rpr (.var 2)) (.cons (.lit (.str " is no kind")) .nil))) (.takeIf 3 (.call "wants_own" (.cons (.var 2) .nil)) (.lit (.str "")) (.set 4 (.lst .nil) (.whlA ")" (.appC 4 "form_taken" (.cons (.var 1) .nil) .nop) (.takeE (.ifRai (.or (.not (.call "takes_count" (.cons (.var 2) (.cons (.blt .len (.cons (.var 4) .nil)) .nil)))) (.not (.call "takes_own" (.cons (.var 2) (.cons (.var 3) (.cons (.blt .len (.cons (.var 4) .nil)) .nil)))))) "NoText" (.fst (.cons (.rpr (.var 2)) (.cons (.lit (.str " has not what it wants")) .nil))) (.ret (.tup (.cons (.var 2) (.cons (.var 3) (.cons (.blt .tuple (.cons (.var 4) .nil)) .nil)))))))))))))
theorem Rz:TrM P w K mg base "bracketed_taken" ["pieces","brackets","kind","own","forms"] (top 41) Vr:=by
 intro f cdv A outer s H E xe;unfold Vr
 repeat' (walk_at "ts")
theorem Ik:TrT P w K mg base "wants_own" ["kind"] (top 42) Zz:=by
 intro f cdv A outer s H E xe;unfold Zz
 repeat' (walk_at "ts")
theorem Np:TrT P w K mg base "takes_count" ["kind","count"] (top 43) Q9:=by
 intro f cdv A outer s H E xe;unfold Q9
 repeat' (walk_at "ts")
theorem Il:TrT P w K mg base "takes_own" ["kind","own","count"] (top 44) V0:=by
 intro f cdv A outer s H E xe;unfold V0
 repeat' (walk_at "ts")
theorem Ip:TrT P w K mg base "is_number" ["piece"] (top 45) U6:=by
 intro f cdv A outer s H E xe;unfold U6
 repeat' (walk_at "ts")
theorem Eu:TrT P w K mg base "keeps_to" ["form","places","inner"] (top 46) Z7:=by
 intro f cdv A outer s H E xe;unfold Z7
 repeat' (walk_at "ts")
theorem j1k:TrT P w K mg base "said_by" ["form","numbers","said","inner"] (top 47) V1:=by
 intro f cdv A outer s H E xe;unfold V1
 repeat' (walk_at "ts")
theorem Et:TrT P w K mg base "says_yes" ["kind","own","said"] (top 48) Qj:=by
 intro f cdv A outer s H E xe;unfold Qj
 repeat' (walk_at "ts")
theorem Ew:TrT P w K mg base "has_ring" ["said"] (top 49) Uu:=by
 intro f cdv A outer s H E xe;unfold Uu
 repeat' (walk_at "ts")
theorem Uz:TrT P w K mg base "count_of_clusters" ["said","marks","tie","number"] (top 50) Qg:=by
 intro f cdv A outer s H E xe;unfold Qg
 repeat' (walk_at "ts")
theorem Cd:TrT P w K mg base "marks_tied" ["marks","one","other","mark"] (top 51) Y6:=by
 intro f cdv A outer s H E xe;unfold Y6
 repeat' (walk_at "ts")
theorem j7x:TrT P w K mg base "_law_cell" ["_law_script","_law_k","_law_spare"] (top 53) Yn:=by
 intro f cdv A outer s H E xe;unfold Yn
 repeat' (walk_at "ts")
theorem j4w:TrT P w K mg base "_law_words" ["_law_cell_here","_law_many","_law_letters","_law_names","_law_rest","_law_k","_law_size","_law_name","_law_turn","_law_long","_law_start","_law_stem","_law_at"] (top 54) Rp:=by
 intro f cdv A outer s H E xe;unfold Rp
 repeat' (walk_at "ts")
theorem jcg:TrT P w K mg base "_law_bit" ["_law_row_here","_law_kind","_law_cell_here","_law_some","_law_k","_law_kept","_law_by_row","_law_one","_law_mixed"] (top 55) Wb:=by
 intro f cdv A outer s H E xe;unfold Wb
 repeat' (walk_at "ts")
theorem Ey:TrT P w K mg base "_law_question" ["_law_script","_law_at","_law_most","_law_many","_law_places","_law_kind","_law_cell_here","_law_answers","_law_number","_law_row_here","_law_k"] (top 56) Vo:=by
 intro f cdv A outer s H E xe;unfold Vo
 repeat' (walk_at "ts")
theorem j7w:TrT P w K mg base "_law_same" ["_law_found","_law_due","_law_unlike","_law_k"] (top 57) Vg:=by
 intro f cdv A outer s H E xe;unfold Vg
 repeat' (walk_at "ts")
theorem jcf:TrT P w K mg base "_law_row" ["_law_many","_law_number","_law_row_here","_law_k"] (top 58) Wa:=by
 intro f cdv A outer s H E xe;unfold Wa
 repeat' (walk_at "ts")
theorem j4x:TrT P w K mg base "_law_order" ["_law_cell_here","_law_many","_law_left","_law_k","_law_order_here","_law_draw","_law_rest","_law_by"] (top 59) Rq:=by
 intro f cdv A outer s H E xe;unfold Rq
 repeat' (walk_at "ts")
theorem j7v:TrT P w K mg base "_law_text" ["_law_places","_law_answers","_law_many","_law_rows","_law_number","_law_row_here","_law_forms","_law_k"] (top 60) Ot:=by
 intro f cdv A outer s H E xe;unfold Ot
 repeat' (walk_at "ts")
theorem j1o:TrT P w K mg base "_law_ordered" ["_law_places","_law_answers","_law_order_here","_law_many","_law_told","_law_number","_law_row_here","_law_first","_law_at","_law_spot"] (top 61) Yj:=by
 intro f cdv A outer s H E xe;unfold Yj
 repeat' (walk_at "ts")
theorem jb2:TrT P w K mg base "law" ["_law_script","_law_places","_law_answers","_law_one","_law_order_here","_law_due","_law_text_here","_law_other","_law_spot"] (top 62) j4g:=by
 intro f cdv A outer s H E xe;unfold j4g
 repeat' (walk_at "ts")
end
set_option maxHeartbeats 0 in
theorem head {l:dO} {w:aF} {K:k7t} {h:aH} {mg:k7w} {fa:ao} (X:K.In h) (Gn:h.Ns ax mg) (hfa:mg "law" = aa (.ref fa))
  (h0:Lf K "is_word" (top 10))
  (h1:Lf K "is_made_of" (top 11))
  (h2:Lf K "rows_of" (top 17))
  (h3:Lf K "row_number" (top 18))
  (h4:Lf K "refuse_wrong_size" (top 19))
  (h5:Lf K "all_choices" (top 20))
  (h6:Lf K "number_of" (top 21))
  (h7:Lf K "answer_to" (top 23))
  (h8:Lf K "refuse_wrong_places" (top 24))
  (h9:Lf K "count_of_rows" (top 25))
  (h10:Lf K "question_read" (top 35))
  (h11:Lf K "question_shown" (top 36))
  (h12:Lf K "row_shown" (top 37))
  (h13:Lf K "place_shown" (top 38))
  (h14:Lf K "form_of" (top 39))
  (h15:Lf K "form_taken" (top 40))
  (h16:Lf K "bracketed_taken" (top 41))
  (h17:Lf K "wants_own" (top 42))
  (h18:Lf K "takes_count" (top 43))
  (h19:Lf K "takes_own" (top 44))
  (h20:Lf K "is_number" (top 45))
  (h21:Lf K "keeps_to" (top 46))
  (h22:Lf K "said_by" (top 47))
  (h23:Lf K "says_yes" (top 48))
  (h24:Lf K "has_ring" (top 49))
  (h25:Lf K "count_of_clusters" (top 50))
  (h26:Lf K "marks_tied" (top 51))
  (h27:Lf K "_law_cell" (top 53))
  (h28:Lf K "_law_words" (top 54))
  (h29:Lf K "_law_bit" (top 55))
  (h30:Lf K "_law_question" (top 56))
  (h31:Lf K "_law_same" (top 57))
  (h32:Lf K "_law_row" (top 58))
  (h33:Lf K "_law_order" (top 59))
  (h34:Lf K "_law_text" (top 60))
  (h35:Lf K "_law_ordered" (top 61))
  (h36:Lf K "law" (top 62))
  (bz:bOk K=af) {ts:List ao} (tz:tOk K ts=af)
  {gt0:dH} {gt1:dH} {gt2:dH} {gt3:dH} {gt5:dH} {gt6:dH} {ga4:ao} {ga4n:Nat} {ga4s:Array (Option ak)} {gt8:dH} {gt9:dH} {gt10:dH} {gt11:dH} {gt12:dH} {gt13:dH} {gt14:dH} {gt15:dH} {gt16:dH} {ga7:ao} {ga7n:Nat} {ga7s:Array (Option ak)} {gt18:dH} {gt19:dH} {ga17:ao} {ga17n:Nat} {ga17s:Array (Option ak)} {gt21:dH} {gt22:dH} {ga20:ao} {ga20n:Nat} {ga20s:Array (Option ak)} {gt23:dH} {gt24:dH} {gt25:dH} {gt27:dH} {gt28:dH} {gt29:dH} {gt30:dH} {ga26:ao} {ga26n:Nat} {ga26s:Array (Option ak)} {gt33:dH} {gt34:dH} {ga32:ao} {ga32n:Nat} {ga32s:Array (Option ak)} {gt36:dH} {gt37:dH} {ga35:ao} {ga35n:Nat} {ga35s:Array (Option ak)} {gt39:dH} {gt40:dH} {ga38:ao} {ga38n:Nat} {ga38s:Array (Option ak)} {gt42:dH} {gt43:dH} {ga41:ao} {ga41n:Nat} {ga41s:Array (Option ak)} {gt45:dH} {gt46:dH} {ga44:ao} {ga44n:Nat} {ga44s:Array (Option ak)} {gt48:dH} {gt49:dH} {ga47:ao} {ga47n:Nat} {ga47s:Array (Option ak)} {ga31:ao} {ga31n:Nat} {ga31s:Array (Option ak)}
  (gn0:bc K ax "LETTERS" = aa (aa (.str "abcdefghijklmnopqrstuvwxyz" gt0))) (gn1:bc K ax "LONGEST_WORD" = aa (aa (.int 8 gt1))) (gn2:bc K ax "FEWEST_PLACES" = aa (aa (.int 1 gt2))) (gn3:bc K ax "MOST_PLACES" = aa (aa (.int 6 gt3))) (ga4l:K.lookup ga4=aa ⟨.type "tuple",ah,.seq #[.int 0 gt5,.int 1 gt6] ga4n,ga4s⟩) (gn4:bc K ax "ANSWERS" = aa (aa (.ref ga4))) (ga7l:K.lookup ga7=aa ⟨.type "tuple",ah,.seq #[.str "not" gt8,.str "all" gt9,.str "any" gt10,.str "odd" gt11,.str "least" gt12,.str "just" gt13,.str "table" gt14,.str "ring" gt15,.str "joined" gt16] ga7n,ga7s⟩) (gn5:bc K ax "KINDS" = aa (aa (.ref ga7))) (ga17l:K.lookup ga17=aa ⟨.type "tuple",ah,.seq #[.str "least" gt18,.str "just" gt19] ga17n,ga17s⟩) (gn6:bc K ax "COUNTING_KINDS" = aa (aa (.ref ga17))) (ga20l:K.lookup ga20=aa ⟨.type "tuple",ah,.seq #[.str "ring" gt21,.str "joined" gt22] ga20n,ga20s⟩) (gn7:bc K ax "TYING_KINDS" = aa (aa (.ref ga20))) (gn8:bc K ax "PLACE" = aa (aa (.str "place" gt23))) (gn9:bc K ax "MOST_BRACKETS" = aa (aa (.int 8 gt24))) (gn10:bc K ax "MOST_TABLE_FORMS" = aa (aa (.int 4 gt25))) (ga26l:K.lookup ga26=aa ⟨.type "tuple",ah,.seq #[.int 0 gt27,.int 1 gt28,.int 2 gt29,.int 3 gt30] ga26n,ga26s⟩) (gn11:bc K ax "TIED_SPOTS" = aa (aa (.ref ga26))) (ga32l:K.lookup ga32=aa ⟨.type "tuple",ah,.seq #[.int 0 gt33,.int 1 gt34] ga32n,ga32s⟩) (ga35l:K.lookup ga35=aa ⟨.type "tuple",ah,.seq #[.int 0 gt36,.int 2 gt37] ga35n,ga35s⟩) (ga38l:K.lookup ga38=aa ⟨.type "tuple",ah,.seq #[.int 0 gt39,.int 3 gt40] ga38n,ga38s⟩) (ga41l:K.lookup ga41=aa ⟨.type "tuple",ah,.seq #[.int 1 gt42,.int 2 gt43] ga41n,ga41s⟩) (ga44l:K.lookup ga44=aa ⟨.type "tuple",ah,.seq #[.int 1 gt45,.int 3 gt46] ga44n,ga44s⟩) (ga47l:K.lookup ga47=aa ⟨.type "tuple",ah,.seq #[.int 2 gt48,.int 3 gt49] ga47n,ga47s⟩) (ga31l:K.lookup ga31=aa ⟨.type "tuple",ah,.seq #[.ref ga32,.ref ga35,.ref ga38,.ref ga41,.ref ga44,.ref ga47] ga31n,ga31s⟩) (gn12:bc K ax "TIES" = aa (aa (.ref ga31)))
  (exa:Oi K=af)
  {C:ao} (hpc:PcH K C (inClass (top 12) 0) (inClass (top 12) 1) (inClass (top 12) 2) (inClass (top 12) 3))
  {fu n:Nat} (hlaw:∀ns:List Int,ns.length<=63->evP fu G T (n+1) "law" [.lst (ns.map D.int)]=.val (.bl af)) :
  ∃fd:aN,(∀(s:ar)(v:ak),gk s fd ⟨[v],[]⟩ [("_law_script",v)])/\∀base:aH,K.In base->base.Ns ax mg->FnOk l.prog w K mg base CX0 (lv (n+1)) fa fd ["_law_script"] (Eb K):=by
 have hL:=h36;obtain⟨f,oc,od,kV,dc,pm,an,cd,ct,sl,a,lk,c,k⟩:=hL;have e:=hfa.symm.trans (P0 X Gn a);cases e;refine⟨PySem.W.fnOf "law" "law" (zr (top 62)) (jg (top 62)) (j0 (top 62)) .none kV dc pm an cd ct,λs v=>.of_eq rfl,λbase hKb hNb=>?_⟩;have pcm:∃C,mg "Pieces" = aa (.ref C)/\Nj l.prog w K mg base C:=jkl pcS hpc X Gn (jbt X Gn bz "len" (by decide));have hT:∀x F,T x=aa F->LkF l.prog w K mg base x F:=λx F hx=>by
  have all:∀p∈tbl,LkF l.prog w K mg base p.1 p.2:=by
   intro p hp;simp only[tbl,xn,cz,or_false]at hp;rcases hp with rfl|rfl|rfl|rfl|rfl|rfl|rfl|rfl|rfl|rfl|rfl|rfl|rfl|rfl|rfl|rfl|rfl|rfl|rfl|rfl|rfl|rfl|rfl|rfl|rfl|rfl|rfl|rfl|rfl|rfl|rfl|rfl|rfl|rfl|rfl|rfl|rfl
   .refine lkF (qx h0 X Gn j1m ["piece"] ?_ rfl rfl ?_ ?_) rfl ?_ ?_<;>walk_at "lk"
   .refine lkF (qx h1 X Gn Ce ["piece","signs"] ?_ rfl rfl ?_ ?_) rfl ?_ ?_<;>walk_at "lk"
   .refine lkF (qx h2 X Gn j1l ["many"] ?_ rfl rfl ?_ ?_) rfl ?_ ?_<;>walk_at "lk"
   .refine lkF (qx h3 X Gn Ca ["row"] ?_ rfl rfl ?_ ?_) rfl ?_ ?_<;>walk_at "lk"
   .refine lkF (qx h4 X Gn Uy ["many"] ?_ rfl rfl ?_ ?_) rfl ?_ ?_<;>walk_at "lk"
   .refine lkF (qx h5 X Gn Nr ["figures_by_spot"] ?_ rfl rfl ?_ ?_) rfl ?_ ?_<;>walk_at "lk"
   .refine lkF (qx h6 X Gn Io ["figures","base"] ?_ rfl rfl ?_ ?_) rfl ?_ ?_<;>walk_at "lk"
   .refine lkF (qx h7 X Gn Ir ["question","row"] ?_ rfl rfl ?_ ?_) rfl ?_ ?_<;>walk_at "lk"
   .refine lkF (qx h8 X Gn Ub ["places"] ?_ rfl rfl ?_ ?_) rfl ?_ ?_<;>walk_at "lk"
   .refine lkF (qx h9 X Gn Ox ["many"] ?_ rfl rfl ?_ ?_) rfl ?_ ?_<;>walk_at "lk"
   .refine lkF (qx h10 X Gn Ow ["text","places"] ?_ rfl rfl ?_ ?_) rfl ?_ ?_<;>walk_at "lk"
   .refine lkF (qx h11 X Gn M4 ["question"] ?_ rfl rfl ?_ ?_) rfl ?_ ?_<;>walk_at "lk"
   .refine lkF (qx h12 X Gn Im ["places","row"] ?_ rfl rfl ?_ ?_) rfl ?_ ?_<;>walk_at "lk"
   .refine lkF (qx h13 X Gn Nq ["place","number"] ?_ rfl rfl ?_ ?_) rfl ?_ ?_<;>walk_at "lk"
   .refine lkF (qx h14 X Gn j1n ["text"] ?_ rfl rfl ?_ ?_) rfl ?_ ?_<;>walk_at "lk"
   .exact j5z (g:="form_taken") (by decide +kernel) h15 X Gn Cg ["pieces","brackets"] (by walk_at "sc") rfl rfl rfl rfl (by decide) (by decide) (by walk_at "bnd") pcm
   .exact j5z (g:="bracketed_taken") (by decide +kernel) h16 X Gn Rz ["pieces","brackets"] (by walk_at "sc") rfl rfl rfl rfl (by decide) (by decide) (by walk_at "bnd") pcm
   .refine lkF (qx h17 X Gn Ik ["kind"] ?_ rfl rfl ?_ ?_) rfl ?_ ?_<;>walk_at "lk"
   .refine lkF (qx h18 X Gn Np ["kind","count"] ?_ rfl rfl ?_ ?_) rfl ?_ ?_<;>walk_at "lk"
   .refine lkF (qx h19 X Gn Il ["kind","own","count"] ?_ rfl rfl ?_ ?_) rfl ?_ ?_<;>walk_at "lk"
   .refine lkF (qx h20 X Gn Ip ["piece"] ?_ rfl rfl ?_ ?_) rfl ?_ ?_<;>walk_at "lk"
   .refine lkF (qx h21 X Gn Eu ["form","places"] ?_ rfl rfl ?_ ?_) rfl ?_ ?_<;>walk_at "lk"
   .refine lkF (qx h22 X Gn j1k ["form","numbers"] ?_ rfl rfl ?_ ?_) rfl ?_ ?_<;>walk_at "lk"
   .refine lkF (qx h23 X Gn Et ["kind","own","said"] ?_ rfl rfl ?_ ?_) rfl ?_ ?_<;>walk_at "lk"
   .refine lkF (qx h24 X Gn Ew ["said"] ?_ rfl rfl ?_ ?_) rfl ?_ ?_<;>walk_at "lk"
   .refine lkF (qx h25 X Gn Uz ["said"] ?_ rfl rfl ?_ ?_) rfl ?_ ?_<;>walk_at "lk"
   .refine lkF (qx h26 X Gn Cd ["marks","one","other"] ?_ rfl rfl ?_ ?_) rfl ?_ ?_<;>walk_at "lk"
   .refine lkF (qx h27 X Gn j7x ["_law_script","_law_k"] ?_ rfl rfl ?_ ?_) rfl ?_ ?_<;>walk_at "lk"
   .refine lkF (qx h28 X Gn j4w ["_law_cell_here","_law_many"] ?_ rfl rfl ?_ ?_) rfl ?_ ?_<;>walk_at "lk"
   .refine lkF (qx h29 X Gn jcg ["_law_row_here","_law_kind","_law_cell_here"] ?_ rfl rfl ?_ ?_) rfl ?_ ?_<;>walk_at "lk"
   .refine lkF (qx h30 X Gn Ey ["_law_script","_law_at","_law_most"] ?_ rfl rfl ?_ ?_) rfl ?_ ?_<;>walk_at "lk"
   .refine lkF (qx h31 X Gn j7w ["_law_found","_law_due"] ?_ rfl rfl ?_ ?_) rfl ?_ ?_<;>walk_at "lk"
   .refine lkF (qx h32 X Gn jcf ["_law_many","_law_number"] ?_ rfl rfl ?_ ?_) rfl ?_ ?_<;>walk_at "lk"
   .refine lkF (qx h33 X Gn j4x ["_law_cell_here","_law_many"] ?_ rfl rfl ?_ ?_) rfl ?_ ?_<;>walk_at "lk"
   .refine lkF (qx h34 X Gn j7v ["_law_places","_law_answers"] ?_ rfl rfl ?_ ?_) rfl ?_ ?_<;>walk_at "lk"
   .refine lkF (qx h35 X Gn j1o ["_law_places","_law_answers","_law_order_here"] ?_ rfl rfl ?_ ?_) rfl ?_ ?_<;>walk_at "lk"
   .refine lkF (qx h36 X Gn jb2 ["_law_script"] ?_ rfl rfl ?_ ?_) rfl ?_ ?_<;>walk_at "lk"
  exact all (x,F) (lookup_mem hx)
 have bt:=jbt X Gn bz;have gl:∀x d,gs.lookup x=aa d->∃u v,mg x=aa u/\RelV v u/\∀H,Enc K H d v:=by
  intro x d hx;have hm:=lookup_mem hx;simp only[gs,xn,cz,or_false,Prod.mk.injEq]at hm;rcases hm with ⟨e1,e2⟩|⟨e1,e2⟩|⟨e1,e2⟩|⟨e1,e2⟩|⟨e1,e2⟩|⟨e1,e2⟩|⟨e1,e2⟩|⟨e1,e2⟩|⟨e1,e2⟩|⟨e1,e2⟩|⟨e1,e2⟩|⟨e1,e2⟩|⟨e1,e2⟩
  .subst e1 e2;exact⟨.str "abcdefghijklmnopqrstuvwxyz" gt0,.str "abcdefghijklmnopqrstuvwxyz",P0 X Gn gn0,⟨_,rfl⟩,λ_=>rfl⟩
  .subst e1 e2;exact⟨.int 8 gt1,.int 8,P0 X Gn gn1,⟨_,rfl⟩,λ_=>rfl⟩
  .subst e1 e2;exact⟨.int 1 gt2,.int 1,P0 X Gn gn2,⟨_,rfl⟩,λ_=>rfl⟩
  .subst e1 e2;exact⟨.int 6 gt3,.int 6,P0 X Gn gn3,⟨_,rfl⟩,λ_=>rfl⟩
  .subst e1 e2;exact⟨.ref ga4,.ref ga4,P0 X Gn gn4,rfl,λH=>⟨ga4,[.int 0,.int 1],rfl,.inr ⟨_,_,_,ga4l,rfl,rfl,rfl,(by show 2<=av;decide),(.cons ⟨_,rfl⟩ (.cons ⟨_,rfl⟩ .nil))⟩,⟨_,_,rfl,rfl,⟨_,_,rfl,rfl,rfl⟩⟩⟩⟩
  .subst e1 e2;exact⟨.ref ga7,.ref ga7,P0 X Gn gn5,rfl,λH=>⟨ga7,[.str "not",.str "all",.str "any",.str "odd",.str "least",.str "just",.str "table",.str "ring",.str "joined"],rfl,.inr ⟨_,_,_,ga7l,rfl,rfl,rfl,(by show 9<=av;decide),(.cons ⟨_,rfl⟩ (.cons ⟨_,rfl⟩ (.cons ⟨_,rfl⟩ (.cons ⟨_,rfl⟩ (.cons ⟨_,rfl⟩ (.cons ⟨_,rfl⟩ (.cons ⟨_,rfl⟩ (.cons ⟨_,rfl⟩ (.cons ⟨_,rfl⟩ .nil)))))))))⟩,⟨_,_,rfl,rfl,⟨_,_,rfl,rfl,⟨_,_,rfl,rfl,⟨_,_,rfl,rfl,⟨_,_,rfl,rfl,⟨_,_,rfl,rfl,⟨_,_,rfl,rfl,⟨_,_,rfl,rfl,⟨_,_,rfl,rfl,rfl⟩⟩⟩⟩⟩⟩⟩⟩⟩⟩⟩
  .subst e1 e2;exact⟨.ref ga17,.ref ga17,P0 X Gn gn6,rfl,λH=>⟨ga17,[.str "least",.str "just"],rfl,.inr ⟨_,_,_,ga17l,rfl,rfl,rfl,(by show 2<=av;decide),(.cons ⟨_,rfl⟩ (.cons ⟨_,rfl⟩ .nil))⟩,⟨_,_,rfl,rfl,⟨_,_,rfl,rfl,rfl⟩⟩⟩⟩
  .subst e1 e2;exact⟨.ref ga20,.ref ga20,P0 X Gn gn7,rfl,λH=>⟨ga20,[.str "ring",.str "joined"],rfl,.inr ⟨_,_,_,ga20l,rfl,rfl,rfl,(by show 2<=av;decide),(.cons ⟨_,rfl⟩ (.cons ⟨_,rfl⟩ .nil))⟩,⟨_,_,rfl,rfl,⟨_,_,rfl,rfl,rfl⟩⟩⟩⟩
  .subst e1 e2;exact⟨.str "place" gt23,.str "place",P0 X Gn gn8,⟨_,rfl⟩,λ_=>rfl⟩
  .subst e1 e2;exact⟨.int 8 gt24,.int 8,P0 X Gn gn9,⟨_,rfl⟩,λ_=>rfl⟩
  .subst e1 e2;exact⟨.int 4 gt25,.int 4,P0 X Gn gn10,⟨_,rfl⟩,λ_=>rfl⟩
  .subst e1 e2;exact⟨.ref ga26,.ref ga26,P0 X Gn gn11,rfl,λH=>⟨ga26,[.int 0,.int 1,.int 2,.int 3],rfl,.inr ⟨_,_,_,ga26l,rfl,rfl,rfl,(by show 4<=av;decide),(.cons ⟨_,rfl⟩ (.cons ⟨_,rfl⟩ (.cons ⟨_,rfl⟩ (.cons ⟨_,rfl⟩ .nil))))⟩,⟨_,_,rfl,rfl,⟨_,_,rfl,rfl,⟨_,_,rfl,rfl,⟨_,_,rfl,rfl,rfl⟩⟩⟩⟩⟩⟩
  .subst e1 e2;exact⟨.ref ga31,.ref ga31,P0 X Gn gn12,rfl,λH=>⟨ga31,[.ref ga32,.ref ga35,.ref ga38,.ref ga41,.ref ga44,.ref ga47],rfl,.inr ⟨_,_,_,ga31l,rfl,rfl,rfl,(by show 6<=av;decide),(.cons rfl (.cons rfl (.cons rfl (.cons rfl (.cons rfl (.cons rfl .nil))))))⟩,⟨_,_,rfl,(λH=>⟨ga32,[.int 0,.int 1],rfl,.inr ⟨_,_,_,ga32l,rfl,rfl,rfl,(by show 2<=av;decide),(.cons ⟨_,rfl⟩ (.cons ⟨_,rfl⟩ .nil))⟩,⟨_,_,rfl,rfl,⟨_,_,rfl,rfl,rfl⟩⟩⟩) H,⟨_,_,rfl,(λH=>⟨ga35,[.int 0,.int 2],rfl,.inr ⟨_,_,_,ga35l,rfl,rfl,rfl,(by show 2<=av;decide),(.cons ⟨_,rfl⟩ (.cons ⟨_,rfl⟩ .nil))⟩,⟨_,_,rfl,rfl,⟨_,_,rfl,rfl,rfl⟩⟩⟩) H,⟨_,_,rfl,(λH=>⟨ga38,[.int 0,.int 3],rfl,.inr ⟨_,_,_,ga38l,rfl,rfl,rfl,(by show 2<=av;decide),(.cons ⟨_,rfl⟩ (.cons ⟨_,rfl⟩ .nil))⟩,⟨_,_,rfl,rfl,⟨_,_,rfl,rfl,rfl⟩⟩⟩) H,⟨_,_,rfl,(λH=>⟨ga41,[.int 1,.int 2],rfl,.inr ⟨_,_,_,ga41l,rfl,rfl,rfl,(by show 2<=av;decide),(.cons ⟨_,rfl⟩ (.cons ⟨_,rfl⟩ .nil))⟩,⟨_,_,rfl,rfl,⟨_,_,rfl,rfl,rfl⟩⟩⟩) H,⟨_,_,rfl,(λH=>⟨ga44,[.int 1,.int 3],rfl,.inr ⟨_,_,_,ga44l,rfl,rfl,rfl,(by show 2<=av;decide),(.cons ⟨_,rfl⟩ (.cons ⟨_,rfl⟩ .nil))⟩,⟨_,_,rfl,rfl,⟨_,_,rfl,rfl,rfl⟩⟩⟩) H,⟨_,_,rfl,(λH=>⟨ga47,[.int 2,.int 3],rfl,.inr ⟨_,_,_,ga47l,rfl,rfl,rfl,(by show 2<=av;decide),(.cons ⟨_,rfl⟩ (.cons ⟨_,rfl⟩ .nil))⟩,⟨_,_,rfl,rfl,⟨_,_,rfl,rfl,rfl⟩⟩⟩) H,rfl⟩⟩⟩⟩⟩⟩⟩⟩
 have qn:∀f∈qs,∃fa,mg f=aa (.ref fa)/\PySem.W.keepIn K (.ref fa)=af:=by
  intro f hf;simp only[qs,xn,cz,or_false]at hf;rcases hf with rfl
  .exact jkg hpc X Gn
 have tb:Tb l.prog w K mg base G:=jju bt gl exa (λp hp=>nomatch hp) (λz=>by cases z) hKb hNb qn (λp hp=>nomatch hp) (jks tz X Gn) (pc:=λ_=>pcm);exact jh9 hT tb (F:=j45) (by rfl) rfl hfa (Zt lk c k) _ (by walk_at "sc") rfl rfl (jb2 _) hlaw
end K14
end
open PySem (Str sizeLine argBest)
open L2
namespace K14
open KL KW KV KB
theorem j6p(a:List aq):D.depL (a.map D.str)<=90:=by
 induction a with
 |nil=>simp[D.depL]
 |cons x a ih=>rw[xx,D.depL];simp[D.dep];exact ih
theorem gF:G "FEWEST_PLACES" = aa (.int 1):=by rfl
theorem gM:G "MOST_PLACES" = aa (.int 6):=by rfl
theorem gL:G "LETTERS" = aa (.str "abcdefghijklmnopqrstuvwxyz"):=by rfl
theorem gW8:G "LONGEST_WORD" = aa (.int 8):=by rfl
noncomputable def low(c:Nat):Bool:=decide (97<=c)&&decide (c<=122)
noncomputable def isW(l:List Nat):Bool:=(decide (1<=l.length)&&decide (l.length<=8))&&l.all low
def asc(l:List Nat):Prop:=∀c∈l,c<128
theorem jl6 {c:Nat} (h:c<128):inS (ch1 c) "abcdefghijklmnopqrstuvwxyz" = low c:=by
 have key:∀i:Fin 128,inS (ch1 i.val) "abcdefghijklmnopqrstuvwxyz" = low i.val:=by decide +kernel
 exact key ⟨c,h⟩
theorem jj3{l:List Nat}(h:asc l):ascii (sL l)=af:=by unfold ascii sL;rw[Array.all_eq_true'];intro c hc;simpa using h c (by simpa using hc)
theorem jis{l:List Nat}:chs (sL l)=l.map λc=>D.str (ch1 c):=by unfold chs;rw[j08]
theorem j5v {n:Nat} {l:List Nat} (h:asc l) (hl:l.length<=1000):evP 1000 G T (n+1) "is_made_of" [.str (sL l),.str "abcdefghijklmnopqrstuvwxyz"]=.val (.bl (l.all low)):=by
 rw[jt (F:=Y5) (by rfl) rfl];simp only[Y5,Zb,enter];ext;rw[jfs (jj3 h),jis,ql (l:=(l.map low).map D.bl) (by rfl) (by rw[xg];omega) ?_ (.inl rfl)]
 .ext;rw[gZ];rfl
 .rw[X6];refine jy λc hc=>zf (by ext) ?_;ext;rw[jl6 (h c hc)];rfl
theorem M3 {n:Nat} {l:List Nat} (h:asc l) (hl:l.length<=1000):evP 1000 G T (n+2) "is_word" [.str (sL l)]=.val (.bl (isW l)):=by
 rw[jt (F:=Wx) (by rfl) rfl];simp only[Wx,Yh,enter];have sl:(sL l).length=l.length:=qt;have sl':(sL l).length<=1000000:=by omega
 by_cases h1:1<=l.length
 .by_cases h2:l.length<=8
  .ext;simp only[gW8];ext;simp only[gL];ext;rw[j5v h hl];ext;simp[isW,h1,h2]
  .ext;simp only[gW8];ext;simp[isW,h1,h2]
 .ext;simp[isW,h1]
noncomputable abbrev tx(l:List Nat):D:=.str (sL l)
theorem jel(L:List (List Nat)):D.depL (L.map tx)<=90:=by have:=j6p (L.map sL);rw[X6]at this;exact this
theorem j2p{L:List (List Nat)}{l:List Nat}(s:List D->D)(hs:s=D.tup\/s=D.lst):Je .isin (tx l) (s (L.map tx))=aa (L.contains l):=by
 have e:(L.map tx).any (λe=>deq e (tx l))=L.contains l:=by
  induction L with
  |nil=>rfl
  |cons x L ih =>
   rw[xx,Tw,ih,List.contains_cons,j11];congr 1;by_cases z:x=l
   .subst z;simp
   .have h1:(sL x==sL l)=ae:=by simpa using λq=>z (W3 q)
    have h2:(l==x)=ae:=by simpa using λq=>z q.symm
    rw[h1,h2]
 have d:=jel L;have d2:(tx l).dep<=90:=by simp[D.dep]
 rcases hs with rfl|rfl
 .show(if D.depL (L.map tx)<=90/\(tx l).dep<=90 then aa ((L.map tx).any λe=>deq e (tx l))else ah)=_;rw[if_pos ⟨d,d2⟩,e]
 .show(if D.depL (L.map tx)<=90/\(tx l).dep<=90 then aa ((L.map tx).any λe=>deq e (tx l))else ah)=_;rw[if_pos ⟨d,d2⟩,e]
theorem jh4(n:Int):lt n=0\/low (lt n)=af:=by
 unfold lt;have h:∀c∈letters,low c=af:=by decide
 rw[kj];cases e:letters[n.toNat]? with
 |none=>exact .inl rfl
 |some c=>exact .inr (h c (Xv e))
theorem Oe{n:Int}(h:0<=n/\n<26):low (lt n)=af:=by
 rcases jh4 n with z|z
 .obtain⟨i,rfl⟩:∃i:Nat,n=(i:Int):=⟨n.toNat,by omega⟩
  have key:∀i:Fin 26,letters.getD i.val 0≠0:=by decide
  exact absurd z (key ⟨i,by omega⟩)
 .exact z
theorem jdo{c:Nat}(h:low c=af):c<128:=by unfold low at h;rw[X8]at h;have:=of_decide_eq_true h.2;omega
theorem jc6{c:Int}{m k:Nat}:∀x∈wrd c m k,low x=af:=by
 have hl:∀x∈Vl c,low x=af:=λx hx=>by obtain⟨k,_,rfl⟩:=Xa.mp hx;exact Oe nofun
 have hs:∀x∈Zo c (szN c),low x=af:=λx hx=>by obtain⟨k,_,rfl⟩:=Xa.mp hx;exact Oe nofun
 intro x hx;unfold wrd at hx;split at hx
 .split at hx
  .exact hl x (eP hx)
  .exact hl x (i8 hx)
 .rcases Pn.mp hx with z|z
  .exact hs x (eP z)
  .rcases xn.mp z with z|z
   .rw[z];exact Oe nofun
   .exact hs x (i8 z)
noncomputable def wL(c:Int)(m:Nat):List (List Nat):=(aB m).map λk=>wrd c m k
theorem j7o(c:Int)(m:Nat):(Vp c m).map D.str=(wL c m).map tx:=by unfold Vp wL;rw[X6,X6];rfl
theorem jf6{c:Int}{m:Nat}(hm:m<=6):∀l∈wL c m,isW l=af:=λl hl=>by obtain⟨k,hk,rfl⟩:=Xa.mp hl;have h:=jc7 (c:=c) hm (Xc.mp hk);unfold isW;rw[decide_eq_true h.1,decide_eq_true h.2,gN,k8,Xp];exact jc6
theorem j7p{c:Int}{m:Nat}(hm:m<=6):(wL c m).Nodup:=by unfold wL;unfold gp;rw[dJ];exact fw (λhi hj h e=>h (jc8 hm (Xc.mp hi) (Xc.mp hj) e)) (ja (n:=m))
theorem O1(l:List Int):D.depL (l.map D.int)<=0:=D.depL_of λd hd=>by obtain⟨x,_,rfl⟩:=Xa.mp hd;simp[D.dep]
theorem ja9(L:List (List Nat)):D.depL (L.map tx)<=0:=D.depL_of λd hd=>by obtain⟨x,_,rfl⟩:=Xa.mp hd;simp[D.dep]
theorem j94{L:List (List Nat)}(h:L.length<=1000):J6 (.tup (L.map tx)):=by simp only[J6];refine⟨by rw[xg];exact h,Ul λd hd=>?_⟩;obtain⟨x,_,rfl⟩:=Xa.mp hd;simp[J6]
noncomputable def qT(L:List (List Nat))(A:List Int):D:=.tup [.tup (L.map tx),.tup (A.map D.int)]
theorem placesOk {n:Nat} {P:D} (hT:∀l:List Nat,asc l->l.length<=100->evP 1000 G T n "is_word" [tx l]=.val (.bl (isW l))):∀(r pre:List (List Nat)) (s:Sv),pre.length+r.length<=200->(∀l∈r,(asc l/\l.length<=100)/\isW l=af)->(pre++r).Nodup ->
  ∃s',J1 (Uq [2] (run 1000 (evP 1000 G T n) G (.seq (.ife (.not (.call "is_word" (.cons (.var 2) .nil))) (.seq (.raise "NoWord" (.fst (.cons (.rpr (.var 2)) (.cons (.lit (.str " is no word of one to eight small letters")) .nil)))) .nop) .nop) (.seq (.ife (.cmp .isin (.var 2) (.var 1)) (.seq (.raise "Twice" (.fst (.cons (.lit (.str "the place ")) (.cons (.rpr (.var 2)) (.cons (.lit (.str " stands twice")) .nil))))) .nop) .nop) (.seq (.app 1 (.var 2)) .nop))))) (r.map tx) [.val P,.own (pre.map tx),s]=.next [.val P,.own ((pre++r).map tx),s']
 |[],pre,s,_,_,_=>⟨s,by rw[cA,j5x,Xo]⟩
 |l::r,pre,s,hl,hr,hn=>by
  obtain⟨⟨ha,hb⟩,hw⟩:=hr l (xj ..);have w:=hT l ha hb;rw[hw]at w;have ii:=j2p (L:=pre) (l:=l) D.lst (.inr rfl);have hc:pre.contains l=ae:=by
   have:l∉pre:=λz=>by rw[iW]at hn;exact hn.2.2 l z l (xj ..) rfl
   simpa using this
  rw[hc]at ii;have ih:=placesOk (n:=n) (P:=P) hT r (pre++[l]) (.val (tx l)) (by rw[Xe];simp at hl ⊢;omega) (λx hx=>hr x (xf _ hx)) (by rw[pq];exact hn);have hpl:(pre.map tx).length<=1000:=by rw[xg];simp at hl;omega
  rw[xx,Fv (ρ':=[.val P,.own ((pre++[l]).map tx),.val (tx l)])]
  .rw[pq]at ih;exact ih
  .simp only[Ji];ext;erw[w,ii];rw[Xw];rfl
theorem j3i {n:Nat} {m:Int} (hm:1<=m/\m<=6):evP 1000 G T (n+1) "refuse_wrong_size" [.int m]=.val .non:=by rw[jt (F:=Qd) (by rfl) rfl];simp only[Qd,J7,enter];ext;simp only[gF];ext;simp only[gM];ext
theorem jk8 {n:Nat} {L:List (List Nat)} (h1:1<=L.length/\L.length<=6) (hw:∀l∈L,isW l=af) (ho:∀l∈L,asc l/\l.length<=100) (hn:L.Nodup):evP 1000 G T (n+3) "refuse_wrong_places" [.lst (L.map tx)]=.val .non:=by rw[jt (F:=zy) (by rfl) rfl];simp only[zy,v6,enter];ext;rw[j3i nofun];ext;obtain⟨s',e⟩:=placesOk (n:=n+2) (P:=.lst (L.map tx)) (λl ha hl=>M3 ha nofun) L [] .un (by simp;omega) (λl hl=>⟨ho l hl,hw l hl⟩) (by simpa using hn);rw[tu]at e;rw[show([]:List D)=([]:List (List Nat)).map tx from rfl,e];ext
theorem gP:G "PLACE" = aa (.str "place"):=by rfl
theorem gMB:G "MOST_BRACKETS" = aa (.int 8):=by rfl
theorem gK:G "KINDS" = aa (.tup [.str "not",.str "all",.str "any",.str "odd",.str "least",.str "just",.str "table",.str "ring",.str "joined"]):=by rfl
noncomputable def lp:List Nat:=[40]
noncomputable def rp:List Nat:=[41]
noncomputable def nt:List Nat:=[110,111,116]
theorem lpS:("(":aq)=sL lp:=by decide +kernel
theorem rpS:(")":aq)=sL rp:=by decide +kernel
noncomputable def plD(w:List Nat):D:=.tup [.str "place",tx w,.tup []]
section
variable{ls:List aq}{j:Nat}{x:List Nat}{r a b:List (List Nat)}
theorem Do(h:ls.drop j=(x::r).map sL):ls[j]?=aa (sL x):=by
 have:(ls.drop j)[0]?=aa (sL x):=by rw[h];rfl
 rwa [List.getElem?_drop,Nat.add_zero]at this
theorem j6o(h:ls.drop j=(a++b).map sL):ls.drop (j+a.length)=b.map sL:=by rw[<-List.drop_drop,h,Xw,List.drop_left' (by rw[xg])]
theorem jil(h:ls.drop j=(x::r).map sL):ls.drop (j+1)=r.map sL:=j6o (a:=[x]) h
end
theorem j0t{w:List Nat}(h:isW w=af):w≠lp/\w≠rp/\32∉w:=by
 unfold isW at h;rw[X8]at h;have z:∀c∈w,low c=af:=Xp.mp h.2;refine⟨λe=>?_,λe=>?_,λe=>?_⟩
 .have:=z 40 (by rw[e];exact xj);exact absurd this (by decide)
 .have:=z 41 (by rw[e];exact xj);exact absurd this (by decide)
 .exact absurd (z 32 e) (by decide)
theorem jfv{a b:List Nat}(h:a≠b):(sL a==sL b)=ae:=by simpa using λq=>h (W3 q)
structure Wd(v:List Nat):Prop where
 w:isW v=af
 a:asc v
 l:v.length<=100
theorem j6j {n j:Nat} {b:Int} {ls:List aq} {w:List Nat} {r:List (List Nat)} (hd:ls.drop j=(w::r).map sL) (h:Wd w):evP 1000 G T (n+4) (mq "form_taken") [.lst (ls.map D.str),.int (j:Int),.int b]=.mval (plD w) (j+1):=by have z:=jfv (j0t h.w).1;rw[jt (F:=Qi) (by rfl) rfl];simp only[Qi,Y7,enter];ext;rw[j3k];simp only[di,cQ];ext;rw[mget (Do hd),lpS,z];ext;rw[M3 h.a (by have:=h.l;omega),h.w];ext;simp only[gP];ext;rfl
theorem K6 {α:Type} {pcs:α->List (List Nat)} {frm:α->D} {n:Nat} {bk:Int} {ls:List aq} {e0 e2 e3:Sv} {g:En->Nat->Sm}:∀(its:List α)(j:Nat)(acc:List D)(m:Nat)(rest:List (List Nat)),its.length<m->acc.length+its.length<=1000->(∀it∈its,(∀j r,ls.drop j=(pcs it++r).map sL->evP 1000 G T n (mq "form_taken") [.lst (ls.map D.str),.int (j:Int),.int bk]=.mval (frm it) (j+(pcs it).length))/\∃x t,pcs it=x::t/\x≠rp) ->
  ls.drop j=(its.flatMap pcs++rp::rest).map sL ->
  Zm (λρ k=>jd 1000 (evP 1000 G T n) G ls (.appC 4 "form_taken" (.cons (.var 1) .nil) .nop) ρ k) g ")" ls m [e0,.val (.int bk),e2,e3,.own acc] j=g [e0,.val (.int bk),e2,e3,.own (acc++its.map frm)] (j+(its.flatMap pcs).length)
 |[],j,acc,m,rest,hm,_,_,hd=>by
  obtain⟨m,rfl⟩:∃q,m=q+1:=⟨m-1,by simp at hm;omega⟩
  unfold Zm;rw[if_pos (by rw[mget (Do hd),rpS])];simp
 |it::its,j,acc,m,rest,hm,hl,hF,hd=>by
  obtain⟨m,rfl⟩:∃q,m=q+1:=⟨m-1,by simp at hm;omega⟩
  obtain⟨f1,x,t,ex,hx⟩:=hF it (xj ..);rw[Tf,pq]at hd;have hd0:=hd;rw[ex,T7]at hd0;have hlen:acc.length<=1000:=by simp at hl;omega
  unfold Zm;rw[if_neg (by rw[mget (Do hd0),rpS];exact λq=>hx (W3 q))];have e:jd 1000 (evP 1000 G T n) G ls (.appC 4 "form_taken" (.cons (.var 1) .nil) .nop) [e0,.val (.int bk),e2,e3,.own acc] j=.next [e0,.val (.int bk),e2,e3,.own (acc++[frm it])] (j+(pcs it).length):=by ext;rw[f1 j _ hd];ext
  rw[e];dsimp only;rw[K6 its (j+(pcs it).length) (acc++[frm it]) m rest (by simp at hm;omega) (by simp at hl ⊢;omega) (λi hi=>hF i (xf _ hi)) (j6o hd)];rw[pq,Tf,Xe,Nat.add_assoc];rfl
theorem jai {α:Type} {pcs:α->List (List Nat)} {frm:α->D} {n j:Nat} {bk:Int} {ls:List aq} {kd:List Nat} {its:List α} {rest:List (List Nat)} (hb:bk<=8) (hk:Je .notin (tx kd) (.tup [.str "not",.str "all",.str "any",.str "odd",.str "least",.str "just",.str "table",.str "ring",.str "joined"])=aa ae)
  (hw:evP 1000 G T n "wants_own" [tx kd]=.val (.bl ae)) (hc:evP 1000 G T n "takes_count" [tx kd,.int its.length]=.val (.bl af)) (ho:evP 1000 G T n "takes_own" [tx kd,.str "",.int its.length]=.val (.bl af)) (hl:its.length<=100)
  (hF:∀it∈its,(∀j r,ls.drop j=(pcs it++r).map sL->evP 1000 G T n (mq "form_taken") [.lst (ls.map D.str),.int (j:Int),.int bk]=.mval (frm it) (j+(pcs it).length))/\∃x t,pcs it=x::t/\x≠rp)
  (hd:ls.drop j=(kd::(its.flatMap pcs++rp::rest)).map sL):evP 1000 G T (n+1) (mq "bracketed_taken") [.lst (ls.map D.str),.int (j:Int),.int bk]=.mval (.tup [tx kd,.str "",.tup (its.map frm)]) (j+1+(its.flatMap pcs).length+1):=by
 rw[jt (F:=Qp) (by rfl) rfl];simp only[Qp,Vw,enter];ext;rw[j3k];simp only[di,cQ];ext;simp only[gMB];ext;rw[mget (Do hd)];simp only[gK];ext;erw[hk,hw];rw[j57,K6 its (j+1) [] 1000 rest nofun (by simp;omega) hF (jil hd)];erw[tu,hc,ho]
structure KdOk(n:Nat)(kd:List Nat)(c:Nat):Prop where
 hk:Je .notin (tx kd) (.tup [.str "not",.str "all",.str "any",.str "odd",.str "least",.str "just",.str "table",.str "ring",.str "joined"])=aa ae
 hw:evP 1000 G T n "wants_own" [tx kd]=.val (.bl ae)
 hc:evP 1000 G T n "takes_count" [tx kd,.int c]=.val (.bl af)
 ho:evP 1000 G T n "takes_own" [tx kd,.str "",.int c]=.val (.bl af)
theorem gCK:G "COUNTING_KINDS" = aa (.tup [.str "least",.str "just"]):=by rfl
theorem gTK:G "TYING_KINDS" = aa (.tup [.str "ring",.str "joined"]):=by rfl
noncomputable def al:List Nat:=[97,108,108]
noncomputable def an:List Nat:=[97,110,121]
noncomputable def plain(kd:List Nat):Bool:=!(sL kd == "table")&&(Je .isin (tx kd) (.tup [.str "least",.str "just"])==aa ae)&&(Je .isin (tx kd) (.tup [.str "ring",.str "joined"])==aa ae)
theorem Bm {n:Nat} {kd:List Nat} (h:plain kd=af):evP 1000 G T (n+1) "wants_own" [tx kd]=.val (.bl ae):=by
 unfold plain at h;rw[X8,X8]at h;rw[jt (F:=Yw) (by rfl) rfl];simp only[Yw,Zz,enter];have h1:(sL kd==("table":aq))=ae:=by simpa using h.1.1
 ext;rw[h1];ext;simp only[gCK];ext;rw[beq_iff_eq.mp h.1.2];ext
theorem j0g {n:Nat} {kd:List Nat} {c:Int} (h:plain kd=af):evP 1000 G T (n+1) "takes_own" [tx kd,.str "",.int c]=.val (.bl af):=by
 unfold plain at h;rw[X8,X8]at h;rw[jt (F:=Yx) (by rfl) rfl];simp only[Yx,V0,enter];have h1:(sL kd==("table":aq))=ae:=by simpa using h.1.1
 ext;rw[h1];ext;simp only[gCK];ext;rw[beq_iff_eq.mp h.1.2];ext
theorem j14 {n:Nat} {kd:List Nat} {c:Int} (h:plain kd=af) (hn:(sL kd==("not":aq))=ae) (hc:1<=c):evP 1000 G T (n+1) "takes_count" [tx kd,.int c]=.val (.bl af):=by
 unfold plain at h;rw[X8,X8]at h;rw[jt (F:=Q5) (by rfl) rfl];simp only[Q5,Q9,enter];have h1:(sL kd==("table":aq))=ae:=by simpa using h.1.1
 ext;erw[hn,h1];simp only[gTK];ext;rw[beq_iff_eq.mp h.2];ext
theorem jen {n:Nat}:evP 1000 G T (n+1) "takes_count" [tx nt,.int ((1:Nat):Int)]=.val (.bl af):=by rw[jt (F:=Q5) (by rfl) rfl];simp only[Q5,Q9,enter];ext;rw[show(sL nt==("not":aq))=af from by decide +kernel];ext
theorem jn2{n:Nat}:KdOk (n+1) nt 1:=⟨by decide +kernel,Bm (by decide +kernel),jen,j0g (by decide +kernel)⟩
theorem jn4{n c:Nat}(h:1<=c):KdOk (n+1) al c:=⟨by decide +kernel,Bm (by decide +kernel),j14 (by decide +kernel) (by decide +kernel) nofun,j0g (by decide +kernel)⟩
theorem jn3{n c:Nat}(h:1<=c):KdOk (n+1) an c:=⟨by decide +kernel,Bm (by decide +kernel),j14 (by decide +kernel) (by decide +kernel) nofun,j0g (by decide +kernel)⟩
section
variable{α:Type}{pcs:α->List (List Nat)}{frm:α->D}
noncomputable def brP(pcs:α->List (List Nat))(kd:List Nat)(its:List α):List (List Nat):=lp::kd::(its.flatMap pcs++[rp])
noncomputable def brF(frm:α->D)(kd:List Nat)(its:List α):D:=.tup [tx kd,.str "",.tup (its.map frm)]
def Reads(n:Nat)(bk:Int)(ps:List (List Nat))(d:D):Prop:=(∀(ls:List aq)(j:Nat)(r:List (List Nat)),ls.drop j=(ps++r).map sL->evP 1000 G T n (mq "form_taken") [.lst (ls.map D.str),.int (j:Int),.int bk]=.mval d (j+ps.length))/\∃x t,ps=x::t/\x≠rp
theorem Fg{n:Nat}{bk:Int}{w:List Nat}(h:Wd w):Reads (n+4) bk [w] (plD w):=⟨λls j r hd=>j6j hd h,w,[],rfl,(j0t h.w).2.1⟩
theorem Bs{n:Nat}{bk:Int}{kd:List Nat}{its:List α}(hb:bk+1<=8)(K:KdOk n kd its.length)(hl:its.length<=100)(hF:∀it∈its,Reads n (bk+1) (pcs it) (frm it)):Reads (n+2) bk (brP pcs kd its) (brF frm kd its):=by
 refine⟨λls j r hd=>?_,lp,_,rfl,by decide⟩;have hd1:ls.drop j=(lp::kd::(its.flatMap pcs++rp::r)).map sL:=by rw[hd];unfold brP;simp
 have bs:=jai (n:=n) (j:=j+1) (bk:=bk+1) (kd:=kd) (its:=its) (rest:=r) hb K.hk K.hw K.hc K.ho hl (λit hit=>⟨λj r hd=>(hF it hit).1 ls j r hd,(hF it hit).2⟩) (jil hd1);rw[jt (F:=Qi) (by rfl) rfl];simp only[Qi,Y7,enter];ext;rw[j3k];simp only[di,cQ];ext;rw[mget (Do hd1),lpS];ext;rw[bs];ext;unfold brF brP;congr 1;simp only[xq,Xe,Tp];omega
end
theorem gA:G "ANSWERS" = aa (.tup [.int 0,.int 1]):=by rfl
theorem Di:T "_law_cell" = aa KL.fL_cell:=by rfl
theorem jbj:T "_law_same" = aa KL.fL_same:=by rfl
theorem j9v:T "all_choices" = aa KL.fP_all_choices:=by rfl
theorem jhx:T "_law_bit" = aa KW.fL_bit:=by rfl
theorem jhw:T "_law_row" = aa KL.fL_row:=by rfl
noncomputable def b2i(b:Bool):Int:=if b then 1 else 0
noncomputable abbrev It:=Bool×List Nat
noncomputable def pcs:It->List (List Nat)
 |(af,w)=>[lp,nt,w,rp]
 |(ae,w)=>[w]
noncomputable def frm:It->D
 |(af,w)=>brF plD nt [w]
 |(ae,w)=>plD w
theorem j8k{n:Nat}{bk:Int}{it:It}(hb:bk+1<=8)(h:Wd it.2):Reads (n+6) bk (pcs it) (frm it):=by
 obtain⟨t,w⟩:=it;cases t with
 |false=>exact Fg (n:=n+2) h
 |true=>exact Bs (n:=n+4) (pcs:=λw=>[w]) (frm:=plD) (its:=[w]) hb jn2 (by simp) λx hx=>by rw[X4.mp hx];exact Fg h
noncomputable def vp(its:List It):List (List Nat):=brP pcs al its
noncomputable def Cu(its:List It):D:=brF frm al its
theorem Ke{n:Nat}{bk:Int}{its:List It}(hb:bk+2<=8)(h:∀it∈its,Wd it.2)(hl:1<=its.length/\its.length<=100):Reads (n+8) bk (vp its) (Cu its) :=
 Bs (n:=n+6) nofun (jn4 hl.1) hl.2 λit hi=>j8k nofun (h it hi)
theorem j5d{n:Nat}{bk:Int}{rs:List (List It)}(hb:bk+3<=8)(h:∀r∈rs,(∀it∈r,Wd it.2)/\1<=r.length/\r.length<=100)(hl:1<=rs.length/\rs.length<=100):Reads (n+10) bk (brP vp an rs) (brF Cu an rs) :=
 Bs (n:=n+8) nofun (jn3 hl.1) hl.2 λr hr=>Ke nofun (h r hr).1 (h r hr).2
theorem Dv{a b c:D}:atI [a,b,c] 0=aa a:=rfl
theorem j4i{a b c:D}:atI [a,b,c] 1=aa b:=rfl
theorem jbv{a b c:D}:atI [a,b,c] 2=aa c:=rfl
def Keeps(n:Nat)(s:List D->D)(L:List (List Nat))(d:D):Prop:=evP 1000 G T n "keeps_to" [d,s (L.map tx)]=.val (.bl af)
theorem Fw{n:Nat}{w:List Nat}{s:List D->D}(hs:s=D.tup\/s=D.lst){L:List (List Nat)}(h:w∈L):Keeps (n+1) s L (plD w):=by unfold Keeps;rw[jt (F:=Z6) (by rfl) rfl];simp only[Z6,Z7,enter,plD];ext;rw[Dv];simp only[gP];ext;rw[j4i];ext;rw[j2p (L:=L) (l:=w) s hs,List.contains_iff_mem.mpr h];ext
theorem j9a {n:Nat} {k:aq} {fs:List D} {s:List D->D} {L:List (List Nat)} (hk:(k == "place")=ae) (hl:fs.length<=1000) (h:∀f∈fs,Keeps n s L f):Keeps (n+1) s L (.tup [.str k,.str "",.tup fs]):=by
 unfold Keeps at h ⊢;rw[jt (F:=Z6) (by rfl) rfl];simp only[Z6,Z7,enter];ext;rw[Dv];simp only[gP];ext;erw[hk,jbv];rw[ql (l:=(fs.map λ_=>af).map D.bl) (by rfl) nofun ?_ (.inl rfl)]
 .ext;rw[Xp.mpr λb hb=>by obtain⟨_,_,e⟩:=Xa.mp hb;exact e▸rfl]
 .rw[X6];have:=jy (α:=D) (h:=id) (g:=λ_=>D.bl af) (L:=fs) (f:=Z8 [2] (ev (evP 1000 G T n) G .nil) (ev (evP 1000 G T n) G (.call "keeps_to" (.cons (.var 2) (.cons (.var 1) .nil)))) [.val (.tup [.str k,.str "",.tup fs]),.val (s (L.map tx)),.un]) λf hf=>zf (by ext) (by
   ext
   rw[show id f=f from rfl,h f hf]
   ext)
  rw[g4]at this;exact this
theorem Le {α:Type} {n:Nat} {frm:α->D} {kd:List Nat} {its:List α} {s:List D->D} {L:List (List Nat)} (hk:(sL kd==("place":aq))=ae) (hl:its.length<=1000) (h:∀it∈its,Keeps n s L (frm it)):Keeps (n+1) s L (brF frm kd its) :=
 j9a hk (by rw[xg];exact hl) λf hf=>by obtain⟨it,hi,rfl⟩:=Xa.mp hf;exact h it hi
theorem jdr{n:Nat}{it:It}{s:List D->D}(hs:s=D.tup\/s=D.lst){L:List (List Nat)}(h:it.2∈L):Keeps (n+2) s L (frm it):=by
 obtain⟨t,w⟩:=it;cases t with
 |false=>exact Fw hs h
 |true=>exact Le (by decide +kernel) (by simp) λf hf=>by rw[X4.mp hf];exact Fw hs h
theorem j0q{n:Nat}{its:List It}{s:List D->D}(hs:s=D.tup\/s=D.lst){L:List (List Nat)}(h:∀it∈its,it.2∈L)(hl:its.length<=100):Keeps (n+3) s L (Cu its):=Le (by decide +kernel) nofun λit hi=>jdr hs (h it hi)
theorem j99{n:Nat}{rs:List (List It)}{s:List D->D}(hs:s=D.tup\/s=D.lst){L:List (List Nat)}(h:∀r∈rs,(∀it∈r,it.2∈L)/\r.length<=100)(hl:rs.length<=100):Keeps (n+4) s L (brF Cu an rs):=Le (by decide +kernel) nofun λr hr=>j0q hs (h r hr).1 (h r hr).2
def U9(n:Nat)(kv:List (aq×Int))(d:D)(v:Int):Prop:=evP 1000 G T n "said_by" [d,.sct kv]=.val (.int v)
theorem Fd{n:Nat}{w:List Nat}{kv:List (aq×Int)}{v:Int}(h:Qy kv (sL w)=aa v):U9 (n+1) kv (plD w) v:=by unfold U9;rw[jt (F:=Zu) (by rfl) rfl];simp only[Zu,V1,enter,plD];ext;rw[Dv];simp only[gP];ext;erw[j4i,jim h]
theorem j89 {n:Nat} {k:aq} {fs:List D} {kv:List (aq×Int)} {vs:List Int} {b:Bool} (hk:(k == "place")=ae) (hl:fs.length<=1000) (h:Jw (Z8 [3] (ev (evP 1000 G T n) G .nil) (ev (evP 1000 G T n) G (.call "said_by" (.cons (.var 3) (.cons (.var 1) .nil)))) [.val (.tup [.str k,.str "",.tup fs]),.val (.sct kv),.un,.un]) fs=aa (vs.map D.int))
  (hs:evP 1000 G T n "says_yes" [.str k,.str "",.lst (vs.map D.int)]=.val (.bl b)):U9 (n+1) kv (.tup [.str k,.str "",.tup fs]) (b2i b):=by
 unfold U9;rw[jt (F:=Zu) (by rfl) rfl];simp only[Zu,V1,enter];ext;rw[Dv];simp only[gP];ext;erw[hk,jbv,ql (l:=vs.map D.int) (by rfl) nofun h (.inl rfl)];rw[Dv,j4i];ext;rw[Oo (xs:=[.e (.str k),.e (.str ""),.w (vs.map D.int)]) rfl];simp only[xx,cA,d_e,d_w];rw[hs];cases b
 .ext;rfl
 .ext;rfl
theorem Cr {α:Type} {n:Nat} {frm:α->D} {kd:List Nat} {its:List α} {kv:List (aq×Int)} {v:α->Int} {b:Bool} (hk:(sL kd==("place":aq))=ae) (hl:its.length<=1000) (h:∀it∈its,U9 n kv (frm it) (v it))
  (hs:evP 1000 G T n "says_yes" [tx kd,.str "",.lst ((its.map v).map D.int)]=.val (.bl b)):U9 (n+1) kv (brF frm kd its) (b2i b) :=
 j89 hk (by rw[xg];exact hl) (by
  rw[X6]
  exact jy λit hit=>zf (by ext) (by
   ext
   rw[h it hit]
   ext
   rfl)) hs
theorem j87 {n:Nat} {v:Int}:evP 1000 G T (n+1) "says_yes" [tx nt,.str "",.lst [.int v]]=.val (.bl (decide (v=0))):=by rw[jt (F:=Js) (by rfl) rfl];simp only[Js,Qj,enter];ext;erw[show(sL nt==("not":aq))=af from by decide +kernel,show atI [D.int v] 0=aa (.int v)from rfl];rw[W9];rfl
theorem j55 {n:Nat} {vs:List Int}:evP 1000 G T (n+1) "says_yes" [tx al,.str "",.lst (vs.map D.int)]=.val (.bl (decide (vs.sum=vs.length))):=by
 rw[jt (F:=Js) (by rfl) rfl];simp only[Js,Qj,enter];ext;erw[show(sL al==("not":aq))=ae from by decide +kernel,show(sL al==("all":aq))=af from by decide +kernel];rw[W9]
 try ext
theorem j54 {n:Nat} {vs:List Int}:evP 1000 G T (n+1) "says_yes" [tx an,.str "",.lst (vs.map D.int)]=.val (.bl (decide (1<=vs.sum))):=by
 rw[jt (F:=Js) (by rfl) rfl];simp only[Js,Qj,enter];ext;erw[show(sL an==("not":aq))=ae from by decide +kernel,show(sL an==("all":aq))=ae from by decide +kernel,show(sL an==("any":aq))=af from by decide +kernel];rw[Ri]
 try ext
noncomputable def iv(f:List Nat->Int)(it:It):Int:=if it.1 then b2i (decide (f it.2=0))else f it.2
theorem jcn{n:Nat}{it:It}{kv:List (aq×Int)}{f:List Nat->Int}(h:Qy kv (sL it.2)=aa (f it.2)):U9 (n+2) kv (frm it) (iv f it):=by
 obtain⟨t,w⟩:=it;cases t with
 |false=>exact Fd h
 |true=>exact Cr (n:=n+1) (frm:=plD) (its:=[w]) (v:=f) (by decide +kernel) (by simp) (λx hx=>by rw[X4.mp hx];exact Fd h) j87
noncomputable def rv(f:List Nat->Int)(its:List It):Bool:=decide ((its.map (iv f)).sum=((its.map (iv f)).length:Int))
theorem j07{n:Nat}{its:List It}{kv:List (aq×Int)}{f:List Nat->Int}(h:∀it∈its,Qy kv (sL it.2)=aa (f it.2))(hl:its.length<=100):U9 (n+3) kv (Cu its) (b2i (rv f its)) :=
 Cr (n:=n+2) (v:=iv f) (by decide +kernel) nofun (λit hi=>jcn (h it hi)) j55
theorem j88{n:Nat}{rs:List (List It)}{kv:List (aq×Int)}{f:List Nat->Int}(h:∀r∈rs,(∀it∈r,Qy kv (sL it.2)=aa (f it.2))/\r.length<=100)(hl:rs.length<=100):U9 (n+4) kv (brF Cu an rs) (b2i (decide (1<=(rs.map λr=>b2i (rv f r)).sum))) :=
 Cr (n:=n+3) (v:=λr=>b2i (rv f r)) (by decide +kernel) nofun (λr hr=>j07 (h r hr).1 (h r hr).2) j54
theorem Zd{b:Int}:∀{m i:Nat}{z:Int},i<m->(j9 b m z)[i]?=aa (z/b^(m-1-i)%b)
 |m+1,0,z,_=>by rw[j9,gR];simp
 |m+1,i+1,z,h=>by rw[j9,Tg,Zd nofun];congr 3;congr 1;omega
theorem j1s{f:D->En->So}{ds:List D}{ρ:En}{g:En->So}{Q:Rc->Prop}(W:Nat->En->Prop)(h0:W 0 ρ)(hs:∀i d ρ,ds[i]?=aa d->W i ρ->∃ρ',f d ρ=.next ρ'/\W (i+1) ρ')(hk:∀ρ',W ds.length ρ'->Q (fin (g ρ'))):Q (fin (Cp (J1 f ds ρ) g)):=by
 obtain⟨ρ',e,w⟩:=Qn (f:=f) W (k:=0) (ds:=ds) (ρ:=ρ) h0 λi d ρ hi w=>by rw[Pk]at w ⊢;exact hs i d ρ hi w
 rw[e];rw[Pk]at w;exact hk ρ' w
theorem j6s:∀(ts acc:List aq),acc.Nodup->(ts.foldl ddS acc).length=acc.length+ts.length->(acc++ts).Nodup
 |[],acc,hn,_=>by rw[Xo];exact hn
 |v::ts,acc,hn,h=>by
  rw[Pz,xq]at h;have hl:=Dp ts (ddS acc v);by_cases e:acc.any (· == v)=af
  .have ed:ddS acc v=acc:=if_pos e;rw[ed]at hl h;omega
  .have ed:ddS acc v=acc++[v]:=if_neg e;rw[ed]at h;have nv:v∉acc:=λz=>e (List.any_eq_true.mpr ⟨v,z,beq_self_eq_true v⟩);have:=j6s ts (acc++[v]) (by
    rw[iW]
    exact⟨hn,by simp,λx hx y hy=>by rw[X4.mp hy];exact λz=>nv (z▸hx)⟩) (by rw[h,Xe,i5];omega)
   rw[pq]at this;exact this
theorem jaa{ns:List aq}(h:(dd ns).length=ns.length):ns.Nodup:=j6s ns [] jS (by rw[show([]:List aq).length=0 from rfl,Pk];exact h)
theorem j7n {n m:Nat} {c:Int} (hm:1<=m/\m<=6):∃ws:List (List Nat),(ws.Nodup/\ws.length=m/\∀l∈ws,isW l=af)/\evP 1000 G T (n+1) "_law_words" [.int c,.int m]=.fresh (ws.map tx):=by
 rw[jt (F:=N6) (by rfl) rfl];simp only[N6,Rp,enter];have ll:=jkz;have tot:∀k:Bool,((m:Int)*(if k then 1 else 0)).toNat=if k then m else 0:=λk=>by cases k<;>simp
 ext;simp only[Ri];ext;obtain⟨k,ek⟩:∃k:Bool,decide ((1000000000000000000:Int)<=c)=k:=⟨_,rfl⟩
 rw[ek];have kb:-4611686018427387904<=(m:Int)*(if k then 1 else 0)/\(m:Int)*(if k then 1 else 0)<4611686018427387904:=by cases k<;>simp<;>omega
 ext;rw[tot];refine j1s (Q:=λr=>∃ws:List (List Nat),(ws.Nodup/\ws.length=m/\∀l∈ws,isW l=af)/\r=.fresh (ws.map tx)) (λi ρ=>∃(ns:List (List Nat)) (r:Int) (s5 s6 s7 s8:Sv),(ns.length=i/\∀l∈ns,isW l=af)/\ρ=[.val (.int c),.val (.int m),.val (.str "mdkbvqhzcgrnapxolsiefwtyju"),.own (ns.map tx),.val (.int r),s5,s6,s7,s8,.un,.un,.un,.un]) ⟨[],c,.un,.un,.un,.un,⟨rfl,λl h=>nomatch h⟩,rfl⟩ ?_ ?_
 .rintro i d ρ hi ⟨ns,r,s5,s6,s7,s8,⟨hl,hw⟩,rfl⟩;have hi2:i<7:=by have:=(Xf.mp hi).1;rw[ju]at this;cases k<;>simp at this<;>omega
  simp only[Ji];ext;refine Kc (λj ρ=>∃(x:List Nat)(r2:Int)(s8:Sv),(x.length=j/\∀c∈x,low c=af)/\ρ=[.val (.int c),.val (.int m),.val (.str "mdkbvqhzcgrnapxolsiefwtyju"),.own (ns.map tx),.val (.int r2),.val d,.val (.int (1+r%8)),.val (.str (sL x)),s8,.un,.un,.un,.un]) ⟨[],r/8,s8,⟨rfl,λc h=>nomatch h⟩,rfl⟩ ?_ ?_
  .rintro j e ρ hj ⟨x,r2,s8',⟨hx,hlw⟩,rfl⟩;have hj2:j<8:=by have:=(Xf.mp hj).1;rw[ju]at this;omega
   have lx:(sL x).length=j:=by rw[qt,hx]
   simp only[Ji];ext;rw[Ed nofun];ext;have l1:(⟨#[lt (r2%26)]⟩:aq).length=1:=rfl;ext;refine⟨_,rfl,x++[lt (r2%26)],r2/26,.val e,⟨by simp[hx],λc hc=>?_⟩,?_⟩
   .rcases Pn.mp hc with z|z
    .exact hlw c z
    .rw[X4.mp z];exact Oe nofun
   .rw[show(⟨#[lt (r2%26)]⟩:aq)=sL [lt (r2%26)]from rfl,z9]
  .rintro ρ2 ⟨x,r2,s8',⟨hx,hlw⟩,rfl⟩;ext;refine⟨_,rfl,ns++[x],r2,.val d,.val (.int (1+r%8)),.val (.str (sL x)),s8',⟨by simp[hl],λl h=>?_⟩,?_⟩
   .rcases Pn.mp h with z|z
    .exact hw l z
    .rw[X4.mp z];rw[ju]at hx;unfold isW;rw[decide_eq_true nofun,decide_eq_true nofun,gN,k8,Xp];exact hlw
   .rw[Xw];rfl
 rintro ρ' ⟨ns,r,s5,s6,s7,s8,⟨hl,hw⟩,rfl⟩;rw[ju]at hl;have nl:ns.length<=6:=by rw[hl];split<;>omega
 ext;have en:ns.map tx=(ns.map sL).map D.str:=by rw[X6];rfl
 have e2:Ws (aa (.v (.w (ns.map tx))))=aa (.v (.e (.int (dd (ns.map sL)).length))):=by rw[en];exact jdn (by rw[xg];omega)
 rw[e2];by_cases hd:((dd (ns.map sL)).length:Int)=(m:Int)
 .have lm:ns.length=m:=by
   cases k with
   |true=>simpa using hl
   |false =>have:ns=[]:=g6 (by simpa using hl);subst this;have z:(dd []).length=0:=rfl;rw[cA,z]at hd;omega
  ext;refine⟨ns,⟨?_,lm,hw⟩,rfl⟩;have hnd:=jaa (ns:=ns.map sL) (by rw[xg];omega);unfold gp at hnd;rw[dJ]at hnd;exact gn (λh e=>h (congrArg sL e)) hnd
 refine⟨wL c m,⟨j7p hm.2,by simp[wL],jf6 hm.2⟩,?_⟩;rw[<-j7o];by_cases h:c%4<2
 .ext;rw[ql (l:=((Vl c).map λx=>(⟨#[x]⟩:aq)).map D.str) (by rfl) (by rw[ju];decide) ?_ (.inl rfl)];rotate_left
  .rw[Qc,Vl,X6,X6];refine jy λk hk'=>zf (by ext) ?_;have hk:=Xc.mp hk';ext;rw[Ed nofun];ext;simp
  rw[Oh (Ms (by rw[Q4];decide)),Fx];have st:=j37 (c:=c) hm.2;obtain⟨s,hs⟩:∃s:Nat,s=stN c m:=⟨_,rfl⟩
  have es:c/8%(9-(m:Int))=(s:Int):=by rw[hs];unfold stN;have:=Td (c/8) (show(9-(m:Int))≠0 by omega);omega
  have lg:(sL (Vl c)).length=8:=by rw[qt,Q4]
  by_cases h0:c%4=0
  .ext;rw[es,ql (l:=(Vp c m).map D.str) (by rfl) (by rw[ju];omega) ?_ (.inl rfl)]
   .ext
   .rw[Xb,Qc,Vp,X6];refine jy λk hk'=>zf (by ext) ?_;have hk:=Xc.mp hk';ext;have e:(s:Int)+(0+(k:Int))+1=((s+k+1:Nat):Int):=by omega
    have hh:wrd c m k=(Vl c).take (stN c m+k+1):=by unfold wrd;rw[if_pos h,if_pos h0]
    rw[e,Nv (by rw[Q4];omega)];simp only[cB,hh,hs]
  .ext;rw[es,ql (l:=(Vp c m).map D.str) (by rfl) (by rw[ju];omega) ?_ (.inl rfl)]
   .ext
   .rw[Xb,Qc,Vp,X6];refine jy λk hk'=>zf (by ext) ?_;have hk:=Xc.mp hk';ext;have e:8-(s:Int)-(0+(k:Int))-1=((8-s-k-1:Nat):Int):=by omega
    have hh:wrd c m k=(Vl c).drop (8-stN c m-k-1):=by unfold wrd;rw[if_pos h,if_neg h0]
    rw[e,Nx (by rw[Q4];omega)];simp only[cB,hh,hs]
 .have a:=j4h c;obtain⟨s,hs⟩:∃s:Nat,s=szN c:=⟨_,rfl⟩
  have es:c/4%8=(s:Int):=by rw[hs];unfold szN;omega
  obtain⟨q,hq⟩:∃q:Nat,q=atN c:=⟨_,rfl⟩
  have eq:c/512%((s:Int)+1)=(q:Int):=by rw[hq];unfold atN;have:=Td (c/512) (show((s:Int)+1)≠0 by omega);rw[<-hs];omega
  ext;rw[es,ql (l:=((Zo c s).map λx=>(⟨#[x]⟩:aq)).map D.str) (by rfl) (by rw[ju];omega) ?_ (.inl rfl)];rotate_left
  .rw[Xb,Qc,Zo,X6,X6];refine jy λk hk'=>zf (by ext) ?_;have hk:=Xc.mp hk';ext;rw[Ed nofun];ext;simp
  rw[Oh (Ms (by rw[vg];omega)),Fx];have lg:(sL (Zo c s)).length=s:=by rw[qt,vg]
  ext;rw[eq,ql (l:=(Vp c m).map D.str) (by rfl) (by rw[ju];omega) ?_ (.inl rfl)]
  .ext
  .rw[Xb,Qc,Vp,X6];refine jy λk hk'=>zf (by ext) ?_;have hk:=Xc.mp hk';ext;rw[Ed nofun];ext;rw[Nv (by rw[vg];omega),Nx (by rw[vg];omega)];have e1:(⟨#[lt ((c/9+7*(0+(k:Int)))%26)]⟩:aq)=sL [lt ((c/9+7*(0+(k:Int)))%26)]:=rfl;have l1:(sL ((Zo c s).take q)).length=q:=by rw[qt,Xu,vg];omega
   have l2:(sL ((Zo c s).drop q)).length=s-q:=by rw[qt,T6,vg]
   have l3:(sL [lt ((c/9+7*(0+(k:Int)))%26)]).length=1:=rfl;have l4:(sL ((Zo c s).take q)++sL [lt ((c/9+7*(0+(k:Int)))%26)]).length=q+1:=by rw[z9,qt,Xe,Xu,vg,xq,Tp];omega
   rw[e1];ext;rw[z9,z9];simp only[cB,wrd,h,if_false,<-hs,<-hq,pq,eK,Ph]
noncomputable def U7(n:Nat)(ns:List Int)(a most:Nat):List Int :=
 (aB (2^Zr ns a most)).map λ(k:Nat)=>if decide ((1000000000000000000:Int)<=z8 ns (a+2))=af then z8 ns (a+2)/(1*2^(0+(k:Int)).toNat)%2 else Ng 1000 G T n (j9 2 (Zr ns a most) (0+(k:Int))) (z8 ns a/(most:Int)%5) (z8 ns (a+2))
theorem jf0{n:Nat}{ns:List Int}{a most:Nat}(hm:1<=most/\most<=6):∀x∈U7 n ns a most,x=0\/x=1:=by
 intro x hx;obtain⟨k,_,rfl⟩:=Xa.mp hx;have mb:=Ld (ns:=ns) (a:=a) hm;split
 .omega
 .exact(j1g jhx (Oj _ _) (by rw[jr];omega)).1
theorem p2n{k:Nat}(h:k<64):0<(2:Int)^k/\(2:Int)^k<18446744073709551616:=by
 refine⟨d6 (by decide),?_⟩;have h1:2^k<2^64:=Nat.pow_lt_pow_right (by decide) h;have h2:(2:Nat)^64=18446744073709551616:=by decide
 rw[h2]at h1;have h3:((2^k:Nat):Int)=(2:Int)^k:=by simp
 omega
theorem j1q{n:Nat}{ns:List Int}{a most:Nat}(ha:a<=50)(hm:1<=most/\most<=6):∃ws:List (List Nat),(ws.Nodup/\ws.length=Zr ns a most/\∀l∈ws,isW l=af) /\
  evP 1000 G T (n+2) "_law_question" [.lst (ns.map D.int),.int a,.int most]=.val (.tup [.tup (ws.map tx),.tup ((U7 n ns a most).map D.int)]):=by
 rw[jt (F:=Ut) (by rfl) rfl];simp only[Ut,Vo,enter];have mb:=Ld (ns:=ns) (a:=a) hm;obtain⟨m,em⟩:∃m:Nat,m=Zr ns a most:=⟨_,rfl⟩
 have em2:1+z8 ns a%(most:Int)=(m:Int):=by rw[em];unfold Zr;have h1:=Td (z8 ns a) (show(most:Int)≠0 by omega);omega
 rw[<-em]at mb;have p2:=j8o (m:=m) nofun
 have pc:((2^m:Nat):Int)=(2:Int)^m:=by simp
 have e3:(1*2^m:Int).toNat=2^m:=by rw[eW,<-pc];exact Xb _
 have c0:evP 1000 G T (n+1) "_law_cell" [.lst (ns.map D.int),.int a]=.val (.int (z8 ns a)):=Vu Di nofun
 have c1:evP 1000 G T (n+1) "_law_cell" [.lst (ns.map D.int),.int ((a:Int)+1)]=.val (.int (z8 ns (a+1))):=Vu Di (k:=a+1) nofun
 have c2:evP 1000 G T (n+1) "_law_cell" [.lst (ns.map D.int),.int ((a:Int)+2)]=.val (.int (z8 ns (a+2))):=Vu Di (k:=a+2) nofun
 obtain⟨ws,⟨wnd,wl,wiw⟩,we⟩:=j7n (n:=n) (c:=z8 ns (a+1)) (m:=m) nofun
 refine⟨ws,⟨wnd,by rw[wl,em],wiw⟩,?_⟩;ext;rw[c0];ext;rw[em2,c1];ext;erw[we,c0,c2,Xb];rw[e3];rw[Bw (λi=>[.val (.lst (ns.map D.int)),.val (.int a),.val (.int most),.val (.int m),.own (ws.map tx),.val (.int (z8 ns a/(most:Int)%5)),.val (.int (z8 ns (a+2))),.own (((U7 n ns a most).take i).map D.int),if i=0 then .un else .val (.int ((i:Int)-1)),if i=0 then .un else .own ((j9 2 m ((i:Int)-1)).map D.int),.un]) (by simp)]
 .ext;rw[ju,Tj (by simp[U7,<-em])]
 .intro i d hi;obtain⟨h1,rfl⟩:=V9 hi;have hz:=Oj m (0+(i:Int));have hlz:=jr 2 m (0+(i:Int));obtain⟨hb,eb⟩:=j1g (fu:=1000) (n:=n) (G:=G) jhx hz nofun (kd:=z8 ns a/(most:Int)%5) (c:=z8 ns (a+2))
  have lt64:2^m<=64:=by omega
  have pw:=p2n (k:=(0+(i:Int)).toNat) nofun
  have al:(U7 n ns a most).length=2^m:=by simp[U7,<-em]
  have ag:(U7 n ns a most)[i]?=aa (if decide ((1000000000000000000:Int)<=z8 ns (a+2))=af then z8 ns (a+2)/(1*2^(0+(i:Int)).toNat)%2 else Ng 1000 G T n (j9 2 m (0+(i:Int))) (z8 ns a/(most:Int)%5) (z8 ns (a+2))):=by unfold U7;rw[<-em,xu,T4 h1];rfl
  simp only[Ji];ext;rw[ql (l:=(j9 2 m (0+(i:Int))).map D.int) (by rfl) (by rw[ju];omega) ?_ (.inl rfl)];rotate_left
  .have ed:j9 2 m (0+(i:Int))=(aB m).map λ(k:Nat)=>(0+(i:Int))/2^(m-1-k)%2:=by
    refine Py λk=>?_;by_cases hk:k<m
    .rw[Zd hk,xu,T4 hk];rfl
    .rw[Xj (by rw[jr];omega),Xj (by simp;omega)]
   rw[Xb,Qc,ed,X6];refine jy λk hk'=>zf (by ext) ?_;have hk:=Xc.mp hk';have et:((m:Int)-(0+(k:Int))-1).toNat=m-1-k:=by omega
   have p:=p2k (k:=m-1-k) nofun
   rw[<-et]at p;ext;rw[et,eW];rfl
  ext;rw[jaf,eb];ext;rw[jdm rfl];simp only[Ri];ext;have pick:∀(k:Bool)(x y:Int),atI [D.int x,.int y] (if k then 1 else 0)=aa (.int (if k=af then y else x)):=λk x y=>by cases k<;>rfl
  rw[pick];ext;rw[S6,ag];simp
theorem Kv{α β:Type}(f:α->β):∀(l:List α)(k:Nat),(l.map f).eraseIdx k=(l.eraseIdx k).map f
 |[],_=>rfl
 |_::_,0=>rfl
 |x::l,k+1=>by rw[xx,gU,gU,xx,Kv f l k]
theorem jhl{n:Nat}{z:Int}(h:0<=z/\z<n):ixN n z=aa z.toNat:=by unfold ixN;rw[if_pos h.1,if_pos h.2]
theorem Dl{α:Type}:∀(l:List α)(k:Nat)(h:k<l.length),(l[k]::l.eraseIdx k).Perm l
 |[],_,h=>absurd h (jR _)
 |x::l,0,_=>List.Perm.refl _
 |x::l,k+1,h=>(List.Perm.swap x _ _).trans ((Dl l k (by simpa using h)).cons x)
noncomputable def oD(k:Nat):D:=.int (k:Int)
theorem j8s {n m:Nat} {c:Int} (hm:1<=m/\m<=6):∃os:List Nat,os.Perm (aB m)/\evP 1000 G T (n+1) "_law_order" [.int c,.int (m:Int)]=.fresh (os.map oD):=by
 obtain⟨ρ',e1,d,r,s3,s7,left,out,er,h1,h2⟩:=Qn (f:=Uq [3] (run 1000 (evP 1000 G T n) G (.seq (.set 5 (.bin .mod (.bin .add (.bin .add (.bin .mul (.var 5) (.lit (.int 48271))) (.bin .mul (.lit (.int 7)) (.var 3))) (.lit (.int 1))) (.lit (.int 2147483647)))) (.seq (.set 7 (.bin .mod (.ix (.lst (.cons (.bin .fdiv (.var 5) (.lit (.int 32))) (.cons (.var 6) .nil))) (.blt .int (.cons (.cmp .ge (.var 0) (.bin .pow (.lit (.int 10)) (.lit (.int 18)))) .nil))) (.blt .len (.cons (.var 2) .nil)))) (.seq (.set 6 (.bin .fdiv (.var 6) (.blt .len (.cons (.var 2) .nil)))) (.seq (.apop 4 2 (.var 7)) .nop))))))
   (λi ρ=>∃(d r:Int)(s3 s7:Sv)(left out:List Nat),ρ=[.val (.int c),.val (.int m),.own (left.map oD),s3,.own (out.map oD),.val (.int d),.val (.int r),s7]/\left.length+i=m/\(left++out).Perm (aB m))
   (ds:=upto 0 m) (ρ:=[.val (.int c),.val (.int m),.own ((aB m).map oD),.un,.own [],.val (.int (c%2147483647)),.val (.int c),.un]) (k:=0) ⟨_,_,_,_,aB m,[],rfl,by simp,by rw[Xo]⟩ λi x ρ hi ⟨d,r,s3,s7,left,out,er,h1,h2⟩=>by
  obtain⟨hi6,ex⟩:=V9 hi;subst er ex;have hl:0<left.length:=by omega
  obtain⟨u,eu⟩:∃u:Int,u=(d*48271+7*(0+(i:Int))+1)%2147483647:=⟨_,rfl⟩
  obtain⟨k0,ek0⟩:∃k:Bool,decide ((1000000000000000000:Int)<=c)=k:=⟨_,rfl⟩
  obtain⟨y,ey⟩:∃y:Int,y=(if k0=af then r else u/32):=⟨_,rfl⟩
  have hb:0<=y%(left.length:Int)/\y%(left.length:Int)<(left.length:Int):=⟨Td _ nofun,cO _ nofun⟩
  obtain⟨k,ek⟩:∃k:Nat,k=(y%(left.length:Int)).toNat:=⟨_,rfl⟩
  have hk:k<left.length:=by omega
  have ol:out.length<=6:=by have:=h2.length_eq;rw[Xe,Xh]at this;omega
  have pick:∀(k:Bool)(x y:Int),atI [D.int x,.int y] (if k then 1 else 0)=aa (.int (if k=af then y else x)):=λk x y=>by cases k<;>rfl
  refine⟨[.val (.int c),.val (.int m),.own ((left.eraseIdx k).map oD),.val (.int (0+(i:Int))),.own ((out++[left[k]]).map oD),.val (.int u),.val (.int (r/(left.length:Int))),.val (.int (y%(left.length:Int)))],?_,u,_,_,_,left.eraseIdx k,out++[left[k]],rfl,?_,?_⟩
  .simp only[Ji];ext;rw[<-eu];simp only[Ri];ext;rw[ek0,pick,<-ey];ext;rw[jey (k:=k) (d:=oD left[k]) (by rw[xg,jhl hb,ek]) (by rw[xu,kh hk];rfl) (by decide) (by rw[xg];omega) (by rw[xg];omega)];ext;rw[Kv,Xw];rfl
  .rw[List.length_eraseIdx_of_lt hk];omega
  .refine List.Perm.trans ?_ h2;rw[<-pq];refine(List.perm_append_comm (l₁:=left.eraseIdx k++out) (l₂:=[left[k]])).trans ?_;rw[eK,<-T7];exact(Dl left k hk).append_right out
 have hlen:left=[]:=by rw[Pk,ju]at h1;exact g6 nofun
 rw[hlen,tu]at h2;refine⟨out,h2,?_⟩;rw[jt (F:=N7) (by rfl) rfl];simp only[N7,Rq,enter];ext;rw[ql (l:=(aB m).map oD) (by rfl) (by rw[ju,Xb];omega) ?_ (.inl rfl)]
 .ext;rw[Xb,e1,er];ext
 .rw[Xb,Qc];refine jy λk hk'=>zf (by ext) ?_;ext;rw[Ph];rfl
theorem j1r {fu n m:Nat} {z b:Int} (hm:m<=6) (hb:b=2\/b=3) (hz:0<=z/\z<b^m):evP fu G T (n+1) "number_of" [.tup ((j9 b m z).map .int),.int b]=.val (.int z):=by
 rw[jt (F:=Yz) (by rfl) rfl];simp only[Yz,V3,enter];ext;have z0:z/b^m=0:=cR hz.1 hz.2;refine Wh (λi ρ=>∃s3,ρ=[.val (.tup ((j9 b m z).map .int)),.val (.int b),.val (.int (z/b^(m-i))),s3]) ⟨.un,by rw[Nat.sub_zero,z0]⟩ ?_ ?_
 .rintro i d ρ hi ⟨s3,rfl⟩;obtain⟨v,hv,rfl⟩:=By hi;have hlt:i<m:=by have:=(Xf.mp hv).1;rw[jr]at this;exact this
  rw[Zd hlt]at hv;cases hv;simp only[Ji];ext;refine⟨_,rfl,?_⟩;have e1:m-i=(m-1-i)+1:=by omega
  have e2:m-(i+1)=m-1-i:=by omega
  have e3:z/b^(m-i)*b+z/b^(m-1-i)%b=z/b^(m-(i+1)):=by rw[e1,e2,<-j0z z b nofun,fN];exact Int.mul_ediv_add_emod _ _
  rw[e3];exact⟨_,rfl⟩
 .rintro ρ' ⟨s3,rfl⟩;ext;simp[jr]
theorem j2b {n m:Nat} (h:1<=m/\m<=6):evP 1000 G T (n+2) "rows_of" [.int m]=.fresh (Jp (Jj m)):=by
 rw[jt (F:=Ww) (by rfl) rfl];simp only[Ww,Yg,enter];ext;rw[j3i (n:=n) nofun];ext;simp only[gA];have hrep:(aA (m:Int).toNat [D.tup [.int 0,.int 1]]).flatten=Jp (aA m [0,1]):=by
  rw[Xb];have:∀k:Nat,(aA k [D.tup [.int 0,.int 1]]).flatten=Jp (aA k [0,1]):=by
   intro k;induction k with
   |zero=>rfl
   |succ k ih=>rw[Pb,Te,ih];rfl
  exact this m
 ext;rw[hrep,j17 j9v (λf hf=>by rw[(List.mem_replicate.mp hf).2];decide) (by rw[eM];omega)];ext;have hc:vf (aA m [0,1])=Jj m:=by
  rw[j4c];have:∀k:Nat,Wo (aA k [0,1])=Jj k:=by
   intro k;induction k with
   |zero=>rfl
   |succ k ih=>rw[Pb,Wo,ih,Jj];simp
  exact this m
 rw[hc]
theorem j5a {n m:Nat} {z:Int} (h:1<=m/\m<=6) (hz:0<=z/\z<2^m):evP 1000 G T (n+2) "row_number" [Q7 (j9 2 m z)]=.val (.int z):=by
 rw[jt (F:=Y4) (by rfl) rfl];simp only[Y4,Za,enter];ext;simp only[gA];ext;have e:evP 1000 G T (n+1) "number_of" [Q7 (j9 2 m z),.int 2]=.val (.int z):=j1r h.2 (.inl rfl) hz;have e2:(((0+1+1:Nat):Int))=2:=rfl
 first|rw[e]|(rw[e2,e])
 ext
theorem jn8{p:List Int}{k:Nat}(h:k<p.length):atI (p.map D.int) (k:Int)=aa (.int (p.getD k 0)):=by
 have:=Yl h
 rwa [Ph]at this
theorem Mr{sep:aq}{ts:List aq}(hs:sep.length<=10)(h:∀t∈ts,t.length<=10000)(hl:ts.length<=100):cu sep ts=af:=by
 unfold cu;rw[dN];have e:∀(r:List aq)(k:Nat),(∀t∈r,t.length<=10000)->r.foldl (λ(x:Nat) (y:aq)=>x+y.length+sep.length) k<=k+10010*r.length:=by
  intro r;induction r with
  |nil=>intro k _;simp
  |cons a r ih =>intro k h;rw[Pz,xq];have:=ih (k+a.length+sep.length) λt ht=>h t (xf _ ht);have:=h a (xj ..);omega
 have:=e ts 0 h;show ba _=ae;rw[iL];show ba (cV (λ(x:Nat) (y:aq)=>x+y.length+sep.length) 0 _)=ae;unfold ba;simp only[decide_eq_false_iff_not];have:=cn;omega
theorem j2k{sep:aq}{ts:List aq}(h:cu sep ts=af):Uo sep (aa (.v (.w (ts.map D.str))))=aa (.v (.e (.str (br sep ts)))):=by simp only[Uo,Rk.d,Zn,h,if_true]
theorem Dc:∀ls:List (List Nat),(jn ls).length<=(ls.map λl=>l.length+1).sum
 |[]=>by simp[jn]
 |[x]=>by simp[jn]
 |x::y::r=>by rw[Vm,xx,Xq];have:=Dc (y::r);simp only[Xe,xq]at this ⊢;omega
theorem len_app(a b:aq):(a++b).length=a.length+b.length:=by rw[<-Wm a,<-Wm b,z9,qt,qt,qt,Xe]
theorem j1c{a b c:aq}(h:a.length+b.length+c.length<=1000000):Qz .add (Qz .add (aa (.v (.e (.str a)))) (aa (.v (.e (.str b))))) (aa (.v (.e (.str c))))=aa (.v (.e (.str (a++b++c)))):=by rw[j1b nofun,j1b (by rw[len_app];omega)]
noncomputable def Nt(it:It):aq:=sL (jn (pcs it))
theorem jb5(it:It):pcs it≠[]:=by obtain⟨t,w⟩:=it;cases t<;>(intro h;cases h)
theorem O8 {α:Type} {pcs:α->List (List Nat)} {kd:List Nat} {its:List α} (h:its≠[]) (hp:∀a,pcs a≠[]):sL (40::32::(kd++[32]))++br " " (its.map λit=>sL (jn (pcs it))) ++ " )" = sL (jn (brP pcs kd its)):=by
 have hf:its.flatMap pcs≠[]:=by
  cases its with
  |nil=>exact absurd rfl h
  |cons it its =>rw[Tf];intro z;exact hp it (List.append_eq_nil_iff.mp z).1
 have e1:(its.map λit=>sL (jn (pcs it)))=(its.map λit=>jn (pcs it)).map sL:=by rw[X6];rfl
 rw[e1,j2j,j2l (f:=pcs) λa _=>hp a,show(" )":aq)=sL [32,41]from by decide +kernel,z9,z9];congr 1;unfold brP;rw[Vm,Lh (by intro z;exact absurd (List.append_eq_nil_iff.mp z).2 (by intro q;cases q)),j0s hf (by intro q;cases q)];simp[lp,rp,jn]
theorem notS {w:List Nat}:("( not ":aq)++sL w++(" )":aq)=Nt (af,w):=by rw[show("( not ":aq)=sL [40,32,110,111,116,32]from by decide +kernel,show(" )":aq)=sL [32,41]from by decide +kernel,z9,z9];rfl
theorem jja:("( all ":aq)=sL (40::32::(al++[32])):=by decide +kernel
theorem jj6:("( any ":aq)=sL (40::32::(an++[32])):=by decide +kernel
noncomputable def wt(ls:List (List Nat)):Nat:=(ls.map λl=>l.length+1).sum
theorem Ep(a b:List (List Nat)):wt (a++b)=wt a+wt b:=by unfold wt;rw[Xw,jM]
theorem j23{α:Type}{f:α->List (List Nat)}{c:Nat}:∀{as:List α},(∀a∈as,wt (f a)<=c)->wt (as.flatMap f)<=c*as.length
 |[],_=>by simp[wt]
 |a::as,h=>by rw[Tf,Ep,xq,lJ];have:=h a (xj ..);have:=j23 (as:=as) λx hx=>h x (xf _ hx);omega
theorem Nm{it:It}(h:it.2.length<=8):wt (pcs it)<=17:=by obtain⟨t,w⟩:=it;have:w.length<=8:=h;cases t<;>simp[wt,pcs,lp,rp,nt]<;>omega
theorem jaz{α:Type}{pcs:α->List (List Nat)}{kd:List Nat}{its:List α}{c:Nat}(h:∀a∈its,wt (pcs a)<=c)(hk:kd.length<=3):wt (brP pcs kd its)<=8+c*its.length:=by
 have:=j23 h;unfold brP;rw[show lp::kd::(its.flatMap pcs++[rp])=[lp,kd]++(its.flatMap pcs++[rp])from rfl,Ep,Ep];have e1:wt [lp,kd]<=6:=by simp[wt,lp];omega
 have e2:wt [rp]=2:=by simp[wt,rp]
 omega
theorem j4r{its:List It}(h:∀it∈its,it.2.length<=8)(hl:its.length<=6):wt (vp its)<=110:=by have:=jaz (pcs:=pcs) (kd:=al) (its:=its) (c:=17) (λa ha=>Nm (h a ha)) (by decide);unfold vp;omega
theorem jl(ls:List (List Nat)):(sL (jn ls)).length<=wt ls:=by rw[qt];exact Dc ls
theorem jds {α:Type} {f:α->List (List Nat)} {its:List α}:(br " " (its.map λit=>sL (jn (f it)))).length<=((its.map λit=>jn (f it)).map λl=>l.length+1).sum:=by
 have e1:(its.map λit=>sL (jn (f it)))=(its.map λit=>jn (f it)).map sL:=by rw[X6];rfl
 rw[e1,j2j,qt];exact Dc _
theorem Lg {α:Type} {f:α->List (List Nat)} {its:List α} {c:Nat} (h:∀it∈its,wt (f it)<=c):(br " " (its.map λit=>sL (jn (f it)))).length<=(c+1)*its.length:=by
 refine Xg jds ?_;induction its with
 |nil=>simp
 |cons a its ih =>rw[xx,xx,Xq,xq,lJ];have:=h a (xj ..);have:=Dc (f a);have:=ih λx hx=>h x (xf _ hx);unfold wt at *;omega
theorem j9y{a b c:aq}(ha:a.length<=10000)(hb:b.length<=10000)(hc:c.length<=10000):Mv (aa (.a [.e (.str a),.e (.str b),.e (.str c)]))=aa (.v (.e (.str (a++b++c)))):=by
 rw[j6h (ys:=[a,b,c]) (by simp) (by
  have e1:Jd (.str a)=aa a:=if_pos ha
  have e2:Jd (.str b)=aa b:=if_pos hb
  have e3:Jd (.str c)=aa c:=if_pos hc
  simp only[Jf,Rk.d,e1,e2,e3])]
 show aa (W.v (.e (.str (((bJ++a)++b)++c))))=_;rw[show bJ++a=a from by rw[<-Wm a,show bJ=sL []from rfl,z9,tu]]
theorem place_spec {n:Nat} {w:List Nat} {b:Int} (h:w.length<=100):evP 1000 G T (n+1) "place_shown" [tx w,.int b]=.val (.str (Nt (!decide (b=1),w))):=by
 rw[jt (F:=Vd) (by rfl) rfl];simp only[Vd,Qu,enter];by_cases z:b=1
 .subst z;ext;rfl
 .ext;rw[j9y (by decide +kernel) (by rw[qt];omega) (by decide +kernel),notS];ext;simp[z]
noncomputable def J5(L:List (List Nat))(r:List Int):List It:=(L.zip r).map λp=>(!decide (p.2=1),p.1)
theorem j22:∀(L:List (List Nat)) (r:List Int),Zk (L.map tx) (r.map D.int)=(L.zip r).map λp=>D.tup [tx p.1,.int p.2]
 |[],_=>by simp[Zk]
 |_::_,[]=>by simp[Zk]
 |x::L,a::r=>by have:=j22 L r;simp only[Zk,xx,fc]at this ⊢;rw[this]
theorem Wu{L:List (List Nat)}{r:List Int}{it:It}(h:it∈J5 L r):it.2∈L:=by obtain⟨p,hp,rfl⟩:=Xa.mp h;exact(cL (a:=p.1) (b:=p.2) hp).1
theorem Bx{L:List (List Nat)}{r:List Int}(h:L.length=r.length):(J5 L r).length=L.length:=by unfold J5;rw[xg,Tt];omega
theorem jg1 {n:Nat} {L:List (List Nat)} {r:List Int} (h:L.length=r.length) (h1:1<=L.length/\L.length<=6) (hw:∀l∈L,l.length<=8):evP 1000 G T (n+2) "row_shown" [.tup (L.map tx),Q7 r]=.val (.str (sL (jn (vp (J5 L r))))):=by
 rw[jt (F:=Yy) (by rfl) rfl];simp only[Yy,V2,enter];have il:=Bx h;have iw:∀it∈J5 L r,it.2.length<=8:=λit hi=>hw _ (Wu hi);have jb:=Lg (f:=pcs) (its:=J5 L r) (c:=17) λit hi=>Nm (iw it hi);have jo:=Mr (sep:=" ") (ts:=(J5 L r).map λit=>sL (jn (pcs it))) (by decide +kernel) (λt ht=>by
  obtain⟨it,hi,rfl⟩:=Xa.mp ht
  have:=jl (pcs it)
  have:=Nm (iw it hi)
  omega) (by rw[xg];omega)
 ext;rw[j22,ql (l:=((J5 L r).map λit=>sL (jn (pcs it))).map D.str) (by rfl) (by rw[xg,Tt];omega) ?_ (.inl rfl)]
 .rw[Oh jo];ext;rw[j9y (by decide +kernel) nofun (by decide +kernel),jja,O8 (by intro z;rw[z]at il;simp at il;omega) jb5];ext;rfl
 .unfold J5;rw[X6,X6];refine jy λp hp=>j24 (by ext) ?_;have:=hw p.1 (cL (a:=p.1) (b:=p.2) hp).1;ext;rw[place_spec nofun];ext;rfl
noncomputable def idx(a:List Int)(m:Nat):List Nat:=(aB (2^m)).filter λk=>decide (a.getD k 0=1)
noncomputable def za(L:List (List Nat))(a:List Int)(m:Nat):List (List It):=(idx a m).map λ(k:Nat)=>J5 L (j9 2 m (k:Int))
noncomputable def noR(L:List (List Nat)):List It:=[(ae,L.getD 0 []),(af,L.getD 0 [])]
noncomputable def zu(L:List (List Nat))(a:List Int)(m:Nat):List (List Nat):=if idx a m=[]then vp (noR L)else brP vp an (za L a m)
theorem j2r{a:List Int}{m:Nat}(hm:m<=6):(idx a m).length<=64:=by have h1:(idx a m).length<=(aB (2^m)).length:=Tq _ _;rw[Xh]at h1;have:2^m<=2^6:=Pr (by decide) hm;omega
theorem jj7 {n m k:Nat} {L:List (List Nat)} {a:List Int} (hm:1<=m/\m<=6) (ha:a.length=2^m) (hk:k<2^m):evP 1000 G T (n+3) "answer_to" [qT L a,Q7 (j9 2 m (k:Int))]=.val (.int (a.getD k 0)):=by
 rw[jt (F:=U0) (by rfl) rfl];simp only[U0,V4,enter,qT];have pc:((2^m:Nat):Int)=(2:Int)^m:=by simp
 have i1:atI [D.tup (L.map tx),.tup (a.map D.int)] 1=aa (.tup (a.map D.int)):=rfl;ext;erw[i1,j5a (n:=n) hm nofun,jn8 nofun]
theorem none_text {w:List Nat}:("( all ":aq)++sL w ++ " ( not " ++ sL w ++ " ) )" = sL (jn (vp [(ae,w),(af,w)])):=by rw[show("( all ":aq)=sL [40,32,97,108,108,32]from by decide +kernel,show(" ( not ":aq)=sL [32,40,32,110,111,116,32]from by decide +kernel,show(" ) )":aq)=sL [32,41,32,41]from by decide +kernel,z9,z9,z9,z9];congr 1;simp[vp,brP,pcs,jn,lp,rp,nt,al]
theorem jnb{a b c d e:aq}(ha:a.length<=10000)(hb:b.length<=10000)(hc:c.length<=10000)(hd:d.length<=10000)(he:e.length<=10000):Mv (aa (.a [.e (.str a),.e (.str b),.e (.str c),.e (.str d),.e (.str e)]))=aa (.v (.e (.str (a++b++c++d++e)))):=by
 rw[j6h (ys:=[a,b,c,d,e]) (by simp) (by
  have e1:Jd (.str a)=aa a:=if_pos ha
  have e2:Jd (.str b)=aa b:=if_pos hb
  have e3:Jd (.str c)=aa c:=if_pos hc
  have e4:Jd (.str d)=aa d:=if_pos hd
  have e5:Jd (.str e)=aa e:=if_pos he
  simp only[Jf,Rk.d,e1,e2,e3,e4,e5])]
 show aa (W.v (.e (.str (((((bJ++a)++b)++c)++d)++e))))=_;rw[show bJ++a=a from by rw[<-Wm a,show bJ=sL []from rfl,z9,tu]]
theorem Fq:∀l:List aq,qw (l.map D.str)=af
 |[]=>rfl
 |_::l=>by rw[xx,qw,Fq l];rfl
theorem j5b(its:List It):vp its≠[]:=by unfold vp brP;intro z;cases z
section
variable{n m:Nat}{L:List (List Nat)}{a:List Int}
theorem Br (hm:1<=m/\m<=6) (hL:L.length=m) (hw:∀l∈L,l.length<=8):(za L a m).length<=64/\(∀r∈za L a m,(∀it∈r,it.2∈L)/\r.length=m)/\(∀r∈za L a m,wt (vp r)<=110)/\(br " " ((za L a m).map λr=>sL (jn (vp r)))).length<=111*64/\cu " " ((za L a m).map λr=>sL (jn (vp r)))=af:=by
 have h1:(za L a m).length<=64:=by unfold za;rw[xg];exact j2r hm.2
 have h2:∀r∈za L a m,(∀it∈r,it.2∈L)/\r.length=m:=λr hr=>by obtain⟨k,_,rfl⟩:=Xa.mp hr;exact⟨λit hi=>Wu hi,by rw[Bx (by rw[jr,hL]),hL]⟩
 have h3:∀r∈za L a m,wt (vp r)<=110:=λr hr=>j4r (λit hi=>hw _ ((h2 r hr).1 it hi)) (by rw[(h2 r hr).2];omega);refine⟨h1,h2,h3,?_,Mr (by decide +kernel) (λt ht=>?_) (by rw[xg];omega)⟩
 .have:=Lg (f:=vp) h3;have h4:(110+1)*(za L a m).length<=111*64:=iI 111 h1;omega
 .obtain⟨r,hr,rfl⟩:=Xa.mp ht;have:=jl (vp r);have:=h3 r hr;omega
theorem Nz (hm:1<=m/\m<=6) (hL:L.length=m) (ha:a.length=2^m) (hw:∀l∈L,l.length<=8):evP 1000 G T (n+4) "question_shown" [qT L a]=.val (.str (sL (jn (zu L a m)))):=by
 rw[jt (F:=Qx) (by rfl) rfl];simp only[Qx,Jx,enter];obtain⟨b1,b2,b3,b4,b5⟩:=Br (a:=a) hm hL hw;have q0:∀{x:D},atI [D.tup (L.map tx),x] 0=aa (.tup (L.map tx)):=rfl;have p64:2^m<=64:=Xg (Pr (by decide) hm.2) (by decide);ext;unfold qT;ext;rw[q0];ext;rw[show(L.length:Int)=(m:Int)from by rw[hL],j2b (n:=n+1) hm];ext;rw[<-Va,show Jp ((aB (2^m)).map λn=>j9 2 m ((n:Nat):Int))=(aB (2^m)).map λ(k:Nat)=>Q7 (j9 2 m (k:Int))from by rw[Jp,X6];rfl];rw[ql (l:=(idx a m).map λ(k:Nat)=>Q7 (j9 2 m (k:Int))) (by rfl) (by rw[xg,Xh];omega) ?_ (.inl rfl)]
 .by_cases hz:idx a m=[]
  .have hs:zu L a m=vp (noR L):=if_pos hz;have a0:atI (L.map tx) 0=aa (tx (L.getD 0 [])):=Zj (j:=0) (by rw[xu,kj,kh nofun];rfl);have w0:(sL (L.getD 0 [])).length<=8:=by rw[qt,kj,kh nofun];exact hw _ (Xy _)
   rw[hs,hz];ext;erw[q0,a0];rw[jnb (by decide +kernel) nofun (by decide +kernel) nofun (by decide +kernel),none_text];ext;rfl
  .have hs:zu L a m=brP vp an (za L a m):=if_neg hz;have ne:Je .eq (.lst ((idx a m).map λ(k:Nat)=>Q7 (j9 2 m (k:Int)))) (.lst [])=aa ae:=by
    have dp:=ja8 ((idx a m).map λ(k:Nat)=>j9 2 m (k:Int));rw[Jp,X6]at dp;rw[Nf (by exact Xg dp (by decide)) (by simp[D.dep,D.depL])];cases e:idx a m with
    |nil=>exact absurd e hz
    |cons x l=>rfl
   erw[hs,ne];rw[ql (l:=((za L a m).map λr=>sL (jn (vp r))).map D.str) (by rfl) (by rw[xg];have:=j2r (a:=a) hm.2;omega) ?_ (.inr (Fq _))]
   .rw[Oh b5];ext;rw[j9y (by decide +kernel) nofun (by decide +kernel),jj6,O8 (by
     unfold za
     intro z
     exact hz (List.map_eq_nil_iff.mp z)) j5b]
    ext
   .unfold za;rw[X6,X6];refine jy λk hk=>zf (by ext) ?_;ext;erw[q0,jg1 (n:=n+1) (by rw[jr,hL]) nofun hw];rfl
 .refine Ry (p:=λk=>decide (a.getD k 0=1)) λk hk=>Wf (b:=decide (a.getD k 0=1)) ?_ λ_=>?_
  .ext;have:=jj7 (n:=n) (L:=L) hm ha (Xc.mp hk);unfold qT at this;rw[this];ext;rw[W9];rfl
  .ext
end
theorem j43{m:Nat}{L:List (List Nat)}{r:List Int}(hL:L.length=m)(hr:r.length=m):J5 L r=(aB m).map λ(k:Nat)=>(!decide (r.getD k 0=1),L.getD k []):=by
 refine Py λk=>?_;unfold J5;by_cases h:k<m
 .rw[xu,xu,T4 h,kh (show k<(L.zip r).length by rw[Tt];omega),jv];rw[T3,T3,kj,kh nofun,kj,kh nofun];rfl
 .rw[Xj (by rw[xg,Tt];omega),Xj (by rw[xg,Xh];omega)]
theorem j6q(l:List aq):D.depL (l.map D.str)<=0:=D.depL_of λd hd=>by obtain⟨x,_,rfl⟩:=Xa.mp hd;simp[D.dep]
theorem j46{l:List aq}:Je .eq (.lst (l.map D.str)) (.lst [])=aa l.isEmpty:=by have:=j6q l;rw[Nf (by simp only[D.dep];omega) (by simp[D.dep,D.depL])];cases l<;>rfl
section
variable{n m:Nat}{L:List (List Nat)}{a:List Int}
noncomputable def jg2(L:List (List Nat))(m:Nat)(k:Nat):aq:=sL (jn (vp (J5 L (j9 2 m (k:Int)))))
noncomputable def U8(L:List (List Nat))(a:List Int)(m i:Nat):List aq:=((aB i).filter λk=>decide (a.getD k 0=1)).map (jg2 L m)
theorem jav{i:Nat}:(U8 L a m i).length<=i:=by unfold U8;rw[xg];exact Xg (Tq _ _) (by rw[Xh];exact X7 _)
theorem jjb{i:Nat}(h:a.getD i 0=1):U8 L a m (i+1)=U8 L a m i++[jg2 L m i]:=by unfold U8;rw[eJ,dt,Xw,jB,if_pos (decide_eq_true h)];rfl
theorem jjc{i:Nat}(h:a.getD i 0≠1):U8 L a m (i+1)=U8 L a m i:=by unfold U8;rw[eJ,dt,Xw,jB,if_neg (by simpa using h)];simp
theorem K9 (hm:1<=m/\m<=6) (hL:L.length=m) (ha:a.length=2^m) (h01:∀x∈a,x=0\/x=1) (hw:∀l∈L,l.length<=8):evP 1000 G T (n+2) "_law_text" [.tup (L.map tx),.tup (a.map D.int)]=.val (.str (sL (jn (zu L a m)))):=by
 have p64:2^m<=64:=Xg (Pr (by decide) hm.2) (by decide);have pc:((2^m:Nat):Int)=(2:Int)^m:=by simp
 have e3:(1*2^m:Int).toNat=2^m:=by rw[eW,<-pc];exact Xb _
 have p2:=j8o (m:=m) hm.2;obtain⟨b1,b2,b3,b4,b5⟩:=Br (a:=a) hm hL hw;have eacc:U8 L a m (2^m)=(za L a m).map λr=>sL (jn (vp r)):=by unfold U8 za idx;rw[X6];rfl
 rw[jt (F:=Lp) (by rfl) rfl];simp only[Lp,Ot,enter];ext;rw[show(L.length:Int)=(m:Int)from by rw[hL],Xb];ext;rw[e3];refine Wh (λi ρ=>∃s4 s5 s6:Sv,ρ=[.val (.tup (L.map tx)),.val (.tup (a.map D.int)),.val (.int (m:Int)),.own ((U8 L a m i).map D.str),s4,s5,s6,.un]) ⟨_,_,_,rfl⟩ (λi d ρ hi=>?_) λρ'=>?_
 .rintro⟨s4,s5,s6,rfl⟩;obtain⟨hi2,rfl⟩:=V9 hi;rw[Ph];have al:=jav (L:=L) (a:=a) (m:=m) (i:=i);have gi:atI (a.map D.int) (i:Int)=aa (.int (a.getD i 0)):=by have:=Yl (p:=a) (k:=i) nofun;rwa [Ph]at this
  have dl:=jr 2 m (i:Int);have rs:evP 1000 G T (n+1) "_law_row" [.int (m:Int),.int (i:Int)]=.val (.tup ((j9 2 m (i:Int)).map D.int)):=j09 jhw hm.2;have il:=Bx (L:=L) (r:=j9 2 m (i:Int)) (by rw[dl,hL]);have iw:∀it∈J5 L (j9 2 m (i:Int)),it.2.length<=8:=λit hi=>hw _ (Wu hi);have jb:=Lg (f:=pcs) (its:=J5 L (j9 2 m (i:Int))) (c:=17) λit hi=>Nm (iw it hi);have jo:=Mr (sep:=" ") (ts:=(J5 L (j9 2 m (i:Int))).map λit=>sL (jn (pcs it))) (by decide +kernel) (λt ht=>by
   obtain⟨it,hi,rfl⟩:=Xa.mp ht
   have:=jl (pcs it)
   have:=Nm (iw it hi)
   omega) (by rw[xg];omega)
  simp only[Ji];ext;erw[rs,gi];by_cases h1:a.getD i 0=1
  .rw[h1];ext;rw[ql (l:=((J5 L (j9 2 m (i:Int))).map λit=>sL (jn (pcs it))).map D.str) (by rfl) (by rw[ju,Xb];omega) ?_ (.inl rfl)]
   .ext;rw[j2k jo,j1c (by rw[show("( all ":aq).length=6 from by decide +kernel,show(" )":aq).length=2 from by decide +kernel];omega),jja,O8 (by intro z;rw[z]at il;simp at il;omega) jb5];ext;refine⟨_,rfl,.val (.int (i:Int)),.val (.tup ((j9 2 m (i:Int)).map D.int)),.own (((J5 L (j9 2 m (i:Int))).map λit=>sL (jn (pcs it))).map D.str),?_⟩;rw[jjb h1,Xw];rfl
   .rw[j43 hL dl,X6,X6,Xb,Qc];refine jy λk hk'=>zf (by ext) ?_;have hk:=Xc.mp hk';have g1:atI (L.map tx) (0+(k:Int))=aa (tx (L.getD k [])):=by rw[Ph];exact Zj (by rw[xu,kj,kh nofun];rfl)
    have g2:atI ((j9 2 m (i:Int)).map D.int) (0+(k:Int))=aa (.int ((j9 2 m (i:Int)).getD k 0)):=Yl nofun
    have w8:(sL (L.getD k [])).length<=8:=by rw[qt,kj,kh nofun];exact hw _ (Xy _)
    ext;rw[g1,g2];ext;rw[j1c (a:="( not ") (b:=sL (L.getD k [])) (c:=" )") (by rw[show("( not ":aq).length=6 from by decide +kernel,show(" )":aq).length=2 from by decide +kernel];omega),notS];ext;rcases Oq (Oj m (i:Int)) k with z|z
    .rw[z,show atI [D.str (Nt (af,L.getD k [])),tx (L.getD k [])] 0=aa (.str (Nt (af,L.getD k [])))from rfl];ext;simp only[cB,z];rfl
    .rw[z,show atI [D.str (Nt (af,L.getD k [])),tx (L.getD k [])] 1=aa (tx (L.getD k []))from rfl];ext;simp only[cB,z];rfl
  .ext;exact⟨_,rfl,.val (.int (i:Int)),.val (.tup ((j9 2 m (i:Int)).map D.int)),s6,by rw[jjc h1]⟩
 .rintro⟨s4,s5,s6,rfl⟩;rw[ju,eacc];ext;rw[j46];by_cases hz:idx a m=[]
  .have hs:zu L a m=vp (noR L):=if_pos hz;have hr:za L a m=[]:=by unfold za;rw[hz];rfl
   have a0:atI (L.map tx) 0=aa (tx (L.getD 0 [])):=Zj (j:=0) (by rw[xu,kj,kh nofun];rfl);have w0:(sL (L.getD 0 [])).length<=8:=by rw[qt,kj,kh nofun];exact hw _ (Xy _)
   rw[hs,hr,cA,show([]:List aq).isEmpty=af from rfl];ext;erw[a0,j1c (by rw[show("( all ":aq).length=6 from by decide +kernel,show(" ( not ":aq).length=7 from by decide +kernel];omega),j1c (by rw[len_app,len_app,show("( all ":aq).length=6 from by decide +kernel,show(" ( not ":aq).length=7 from by decide +kernel,show(" ) )":aq).length=4 from by decide +kernel];omega),none_text];rfl
  .have hs:zu L a m=brP vp an (za L a m):=if_neg hz;have hne:za L a m≠[]:=by unfold za;intro z;exact hz (List.map_eq_nil_iff.mp z)
   have he:((za L a m).map λr=>sL (jn (vp r))).isEmpty=ae:=by
    cases e:za L a m with
    |nil=>exact absurd e hne
    |cons x l=>rfl
   rw[hs,he];ext;rw[j2k b5,j1c (by rw[show("( any ":aq).length=6 from by decide +kernel,show(" )":aq).length=2 from by decide +kernel];omega),jj6,O8 hne j5b];ext
end
theorem jg0 {n:Nat} {s:List D->D} (hs:s=D.tup\/s=D.lst) {L:List (List Nat)} (h1:1<=L.length/\L.length<=6) (hw:∀l∈L,Wd l) (hn:L.Nodup):evP 1000 G T (n+3) "refuse_wrong_places" [s (L.map tx)]=.val .non:=by
 rcases hs with rfl|rfl
 .rw[jt (F:=zy) (by rfl) rfl];simp only[zy,v6,enter];ext;rw[j3i nofun];ext;obtain⟨s',e⟩:=placesOk (n:=n+2) (P:=.tup (L.map tx)) (λl ha hl=>M3 ha nofun) L [] .un (by simp;omega) (λl hl=>⟨⟨(hw l hl).a,(hw l hl).l⟩,(hw l hl).w⟩) (by simpa using hn);rw[tu]at e;rw[show([]:List D)=([]:List (List Nat)).map tx from rfl,e];ext
 .exact jk8 h1 (λl hl=>(hw l hl).w) (λl hl=>⟨(hw l hl).a,(hw l hl).l⟩) hn
theorem gQ:G (qm "Pieces")=aa .non:=by rfl
theorem jhz {n:Nat} {ps:List (List Nat)} {d:D} (R:Reads n 0 ps d) (hb:bf ps) (hl:wt ps<=100000):evP 1000 G T (n+1) "form_of" [.str (sL (jn ps))]=.val d:=by
 have hne:ps≠[]:=by obtain⟨x,t,e,_⟩:=R.2;rw[e];intro z;cases z
 have sp:=j80 hne hb;have hlen:ps.length<=wt ps:=by
  clear R hb hl hne sp;unfold wt;induction ps with
  |nil=>simp
  |cons x ps ih=>rw[xx,Xq,xq];omega
 have top:=R.1 (ps.map sL) 0 [] (by rw[Xo];rfl);rw[jt (F:=Wy) (by rfl) rfl];simp only[Wy,Yi,enter];ext;rw[gQ,show decide (1<(2+1))=af from rfl,jgz (Xg (jl ps) hl) (by rw[sp,xg];omega),sp];ext;rw[show((0:Nat):Int)=0 from rfl]at top ⊢;rw[top];ext;rw[j3g,if_pos (by rw[xg];omega)];ext
theorem Ls:∀{L:List (List Nat)} {r:List Int} {i:Nat},L.Nodup->L.length=r.length->i<L.length->Qy ((L.map sL).zip r) (sL (L.getD i []))=aa (r.getD i 0)
 |[],_,i,_,_,h=>absurd h (jR _)
 |x::L,[],i,_,h,_=>by simp at h
 |x::L,a::r,0,_,_,_=>by unfold Qy;rw[xx,fc,d8];simp
 |x::L,a::r,i+1,hn,hl,hi=>by
  have hx:x≠L.getD i []:=λe=>by
   have:L.getD i []∈L:=by rw[kj,kh (by simpa using hi)];exact Xy _
   exact(Xl.mp hn).1 (e▸this)
  have ih:=Ls (L:=L) (r:=r) (i:=i) (Xl.mp hn).2 (by simpa using hl) (by simpa using hi);unfold Qy at ih ⊢;rw[xx,fc,f6,d8,f6];rw[show decide (sL x=sL (L.getD i []))=ae from decide_eq_false λq=>hx (W3 q)];exact ih
theorem j27{L:List (List Nat)}:strsOf (L.map tx)=aa (L.map sL):=by rw[show L.map tx=(L.map sL).map D.str from by rw[X6];rfl];exact Zn
theorem jek{s:List D->D}(hs:s=D.tup\/s=D.lst){L:List (List Nat)}{row:List Int}(hn:L.Nodup)(hl:L.length=row.length)(h6:L.length<=6):Ra (aa (.v (.e (s (L.map tx))))) (aa (.v (.e (Q7 row))))=aa (.v (.e (.sct ((L.map sL).zip row)))):=by
 have hnd:(L.map sL).Nodup:=by unfold gp;rw[dJ];exact gn (λh e=>h (W3 e)) hn
 have hc:(L.map sL).Nodup/\(L.map sL).length=row.length/\jm (L.map sL).length=af:=⟨hnd,by rw[xg];omega,by simp only[jm,xg];exact decide_eq_true (J4 nofun)⟩
 rcases hs with rfl|rfl
 .simp only[Ra,Rk.st,fJ,D.sqv,j27,Yd];rw[if_pos hc]
 .simp only[Ra,Rk.st,fJ,D.sqv,j27,Yd];rw[if_pos hc]
noncomputable def fv(L:List (List Nat))(row:List Int)(w:List Nat):Int:=(Qy ((L.map sL).zip row) (sL w)).getD 0
theorem Ei{L:List (List Nat)}{row:List Int}{i:Nat}(hn:L.Nodup)(hl:L.length=row.length)(hi:i<L.length):fv L row (L.getD i [])=row.getD i 0:=by unfold fv;rw[Ls hn hl hi];rfl
theorem jbm{L:List (List Nat)}{row:List Int}{w:List Nat}(hn:L.Nodup)(hl:L.length=row.length)(h:w∈L):Qy ((L.map sL).zip row) (sL w)=aa (fv L row w):=by
 obtain⟨i,hi,e⟩:=dh h;have:w=L.getD i []:=by rw[kj,kh hi];exact e.symm
 unfold fv;rw[this,Ls hn hl hi];rfl
theorem jb4{n m:Nat}{s:List D->D}(hs:s=D.tup\/s=D.lst){L:List (List Nat)}{ps:List (List Nat)}{d:D}{g:List Int->Int}(hm:1<=m/\m<=6)(hL:L.length=m)(hw:∀l∈L,Wd l)(hn:L.Nodup)(R:Reads (n+10) 0 ps d)(hb:bf ps)(hl:wt ps<=100000)(K:Keeps (n+11) s L d)
  (S:∀row∈Jj m,U9 (n+11) ((L.map sL).zip row) d (g row)):evP 1000 G T (n+12) "question_read" [.str (sL (jn ps)),s (L.map tx)]=.val (.tup [.tup (L.map tx),.tup ((Jj m).map λrow=>D.int (g row))]):=by
 have ff:=jhz R hb hl;have rp:=jg0 (n:=n+8) hs nofun hw hn;have ln:J0 .len (aa (.a [.e (s (L.map tx))]))=aa (.v (.e (.int (m:Int)))):=by
  rcases hs with rfl|rfl
  .rw[jbg,xg,hL]
  .rw[jbh,xg,hL]
 have tp:J0 .tuple (aa (.a [.e (s (L.map tx))]))=aa (.v (.e (.tup (L.map tx)))):=by rcases hs with rfl|rfl<;>rfl
 unfold Keeps at K;rw[jt (F:=Zc) (by rfl) rfl];simp only[Zc,Qf,enter];ext;erw[rp,ff,K,ln,j2b (n:=n+9) hm];rw[ql (l:=(Jj m).map λrow=>D.int (g row)) (by rfl) (by rw[xg,M8];have:2^m<=2^6:=Pr (by decide) hm.2;omega) ?_ (.inl rfl)]
 .ext;rw[tp];ext
 .refine jy λrow hr=>zf (by ext) ?_;have rl:row.length=m:=by rw[<-Va]at hr;obtain⟨k,_,rfl⟩:=Xa.mp hr;exact jr _ _ _
  have sr:=S row hr;unfold U9 at sr;ext;erw[jek hs hn nofun nofun,sr]
noncomputable def vl:List Int->Int
 |[]=>0
 |x::r=>x*2^r.length+vl r
theorem Iz:∀{r:List Int},(∀x∈r,x=0\/x=1)->0<=vl r/\vl r<2^r.length
 |[],_=>by simp[vl]
 |x::r,h=>by have ih:=Iz (r:=r) λy hy=>h y (xf _ hy);have p:(0:Int)<2^r.length:=d6 (by decide);rw[vl,xq,fM];rcases h x (xj ..)with z|z<;>rw[z]<;>omega
theorem j2t:∀{r:List Int},(∀x∈r,x=0\/x=1)->j9 2 r.length (vl r)=r
 |[],_=>rfl
 |x::r,h=>by
  have h':=λy hy=>h y (xf _ hy);have ih:=j2t (r:=r) h';have bd:=Iz (r:=r) h';have p:(0:Int)<2^r.length:=d6 (by decide);rw[xq,j9,vl];congr 1
  .rw[i6,Int.add_mul_ediv_right _ _ nofun,cR bd.1 bd.2,Ph];rcases h x (xj ..)with z|z<;>rw[z]<;>rfl
  .rw[show x*2^r.length+vl r=vl r+2^r.length*x from by rw[fN,i6],Rb (by decide) _ _ (X7 _),ih]
theorem Dw:∀(m:Nat)(z:Int),0<=z->z<2^m->vl (j9 2 m z)=z:=by
  intro m;induction m with
  |zero=>intro z h1 h2;simp at h2;rw[j9,vl];omega
  |succ m ih =>
   intro z h1 h2;have p:(0:Int)<2^m:=d6 (by decide);rw[fM]at h2;have e:z=z%2^m+2^m*(z/2^m):=(Int.emod_add_mul_ediv z (2^m)).symm;have q1:0<=z/2^m:=Int.ediv_nonneg h1 nofun
   have q2:z/2^m<2:=Int.ediv_lt_of_lt_mul p nofun
   have d1:j9 2 m z=j9 2 m (z%2^m):=by
    conv=>lhs;rw[e]
    exact Rb (by decide) _ _ (X7 _)
   rw[j9,vl,jr,d1,ih _ (Td _ nofun) (cO _ p),show z/2^m%2=z/2^m from Int.emod_eq_of_lt q1 q2,fN];omega
theorem ja7{m j k:Nat}(hj:j<2^m)(hk:k<2^m)(h:j9 2 m (j:Int)=j9 2 m (k:Int)):j=k:=by
 have pc:((2^m:Nat):Int)=(2:Int)^m:=by simp
 have pj:(j:Int)<2^m:=by omega
 have pk:(k:Int)<2^m:=by omega
 have:=congrArg vl h;rw[Dw m j nofun pj,Dw m k nofun pk]at this;omega
theorem jn5{f:List Nat->Int}{it:It}(h:f it.2=0\/f it.2=1):iv f it=0\/iv f it=1:=by
 unfold iv b2i;split
 .split
  .exact .inr rfl
  .exact .inl rfl
 .exact h
theorem Ez:∀{l:List Int},(∀x∈l,x=0\/x=1)->((l.sum=(l.length:Int)) ↔ ∀x∈l,x=1)
 |[],_=>by simp
 |x::l,h=>by
  have h':=λy hy=>h y (xf _ hy);have ih:=Ez (l:=l) h';have ub:∀{l:List Int},(∀x∈l,x=0\/x=1)->l.sum<=(l.length:Int):=by
   intro l;induction l with
   |nil=>intro _;simp
   |cons y l ih =>intro h;have:=ih λz hz=>h z (xf _ hz);rw[Xq,xq];rcases h y (xj ..)with z|z<;>rw[z]<;>omega
  have u:=ub h';rw[Xq,xq];constructor
  .intro e;rcases h x (xj ..)with z|z
   .rw[z]at e;omega
   .intro y hy;rcases xn.mp hy with rfl|hy
    .exact z
    .exact(ih.mp (by rw[z]at e;omega)) y hy
  .intro e;have e1:=e x (xj ..);have e2:=ih.mpr λy hy=>e y (xf _ hy);rw[e1,e2];omega
theorem jfx:∀{L:List (List Nat)} {r:List Int} {f:List Nat->Int},L.length=r.length->(∀x∈r,x=0\/x=1)->(∀w∈L,f w=0\/f w=1)->rv f (J5 L r)=decide (r=L.map f):=λ{L r f} hl hr hf=>by
 unfold rv;have h01:∀x∈(J5 L r).map (iv f),x=0\/x=1:=λx hx=>by obtain⟨it,hi,rfl⟩:=Xa.mp hx;exact jn5 (hf _ (Wu hi))
 have key:(∀x∈(J5 L r).map (iv f),x=1)↔r=L.map f:=by
  clear h01;induction L generalizing r with
  |nil =>
   cases r with
   |nil=>simp[J5]
   |cons=>simp at hl
  |cons w L ih =>
   cases r with
   |nil=>simp at hl
   |cons a r =>
    have ih:=ih (r:=r) (by simpa using hl) (λx hx=>hr x (xf _ hx)) λx hx=>hf x (xf _ hx);have e:(J5 (w::L) (a::r)).map (iv f)=iv f (!decide (a=1),w)::(J5 L r).map (iv f):=rfl;rw[e,xx];have h1:iv f (!decide (a=1),w)=1↔a=f w:=by unfold iv b2i;rcases hr a (xj ..)with z|z<;>rcases hf w (xj ..)with y|y<;>simp[z,y]
    constructor
    .intro h;rw[h1.mp (h _ (xj ..)),ih.mp λx hx=>h x (xf _ hx)]
    .intro h;obtain⟨e1,e2⟩:=dm h;intro x hx;rcases xn.mp hx with rfl|hx
     .exact h1.mpr e1
     .exact(ih.mpr e2) x hx
 rw[decide_eq_decide];exact(Ez h01).trans key
theorem jj2{α:Type}{p:α->Bool}(l:List α):0<=(l.map λx=>b2i (p x)).sum:=by
 induction l with
 |nil=>simp
 |cons y l ih =>
  rw[xx,Xq];have:0<=b2i (p y):=by cases p y<;>decide
  omega
theorem j26{α:Type}{p:α->Bool}:∀{l:List α},decide (1<=(l.map λx=>b2i (p x)).sum)=l.any p
 |[]=>rfl
 |x::l=>by
  have:=jj2 (p:=p) l;rw[xx,Xq,Tw,<-j26 (l:=l)];cases p x
  .rw[show b2i ae=0 from rfl,Ph,k9]
  .rw[show b2i af=1 from rfl,Bool.true_or,decide_eq_true nofun]
theorem jez{m k:Nat}{L:List (List Nat)}{a:List Int}{f:List Nat->Int}(hL:L.length=m)(hk:k<2^m)(hf:L.map f=j9 2 m (k:Int))(h01:∀w∈L,f w=0\/f w=1):((za L a m).any λr=>rv f r)=decide (a.getD k 0=1):=by
 rw[d9,List.any_eq_true,decide_eq_true_iff];have rr:∀j:Nat,rv f (J5 L (j9 2 m (j:Int)))=decide (j9 2 m (j:Int)=L.map f):=λj=>jfx (by rw[jr,hL]) (Oj m _) h01;constructor
 .rintro⟨r,hr,e⟩;obtain⟨j,hj,rfl⟩:=Xa.mp hr;obtain⟨hj1,hj2⟩:=T9.mp hj;rw[rr,decide_eq_true_iff,hf]at e;rw[<-ja7 (Xc.mp hj1) hk e];exact of_decide_eq_true hj2
 .intro h;refine⟨_,Xa.mpr ⟨k,T9.mpr ⟨Xc.mpr hk,decide_eq_true h⟩,rfl⟩,?_⟩;rw[rr,decide_eq_true_iff,hf]
theorem jgy{L:List (List Nat)}{f:List Nat->Int}(h:f (L.getD 0 [])=0\/f (L.getD 0 [])=1):rv f (noR L)=ae:=by unfold rv noR;generalize L.getD 0 []=w at *;simp only[xx,cA,iv,Xx,if_false,if_true,Xq,List.sum_nil,xq,Tp];rcases h with z|z<;>rw[z]<;>rfl
theorem jbu{it:It}(h:Wd it.2):bf (pcs it):=by
 obtain⟨t,w⟩:=it;have hw:32∉w:=(j0t h.w).2.2;cases t
 .intro l hl;rw[X4.mp hl];exact hw
 .intro l hl;simp only[pcs,xn,cz,or_false]at hl;rcases hl with z|z|z|z
  .rw[z];decide
  .rw[z];decide
  .rw[z];exact hw
  .rw[z];decide
theorem j4f{α:Type}{pcs:α->List (List Nat)}{kd:List Nat}{its:List α}(hk:32∉kd)(h:∀a∈its,bf (pcs a)):bf (brP pcs kd its):=λl hl=>by
 unfold brP at hl;rcases xn.mp hl with z|hl
 .rw[z];decide
 rcases xn.mp hl with z|hl
 .rw[z];exact hk
 rcases Pn.mp hl with hl|z
 .obtain⟨a,ha,hx⟩:=List.mem_flatMap.mp hl;exact h a ha l hx
 .rw[X4.mp z];decide
theorem getD_mem{L:List (List Nat)}{o:Nat}(h:o<L.length):L.getD o []∈L:=by rw[kj,kh h];exact Xy h
theorem bd8{w:List Nat}(h:Wd w):w.length<=8:=by have:=h.w;unfold isW at this;rw[X8,X8]at this;exact of_decide_eq_true this.1.2
theorem qr{n m:Nat}{s:List D->D}(hs:s=D.tup\/s=D.lst){L L':List (List Nat)}{a:List Int}(hm:1<=m/\m<=6)(hL:L.length=m)(hL':L'.length=m)(hw:∀l∈L',Wd l)(hn:L'.Nodup)(hsub:∀w∈L,w∈L')(ha:a.length=2^m)(h01:∀x∈a,x=0\/x=1) :
  evP 1000 G T (n+12) "question_read" [.str (sL (jn (zu L a m))),s (L'.map tx)]=.val (.tup [.tup (L'.map tx),.tup ((Jj m).map λrow=>D.int (a.getD (vl (L.map (fv L' row))).toNat 0))]):=by
 have hW:∀w∈L,Wd w:=λw h=>hw w (hsub w h);obtain⟨b1,b2,b3,b4,b5⟩:=Br (a:=a) hm hL λl hl=>bd8 (hW l hl);have row01:∀row∈Jj m,row.length=m/\(∀w∈L,fv L' row w=0\/fv L' row w=1)/\∃k:Nat,k<2^m/\L.map (fv L' row)=j9 2 m (k:Int)/\(vl (L.map (fv L' row))).toNat=k:=λrow hr=>by
  have rl:row.length=m/\∀x∈row,x=0\/x=1:=by rw[<-Va]at hr;obtain⟨k,_,rfl⟩:=Xa.mp hr;exact⟨jr _ _ _,Oj m _⟩
  have f01:∀w∈L,fv L' row w=0\/fv L' row w=1:=λw hw'=>by
   obtain⟨i,hi,e⟩:=dh (hsub w hw');have ew:w=L'.getD i []:=by rw[kj,kh hi];exact e.symm
   rw[ew,Ei hn nofun hi];exact Oq rl.2 i
  have l01:∀x∈L.map (fv L' row),x=0\/x=1:=λx hx=>by obtain⟨w,hw',rfl⟩:=Xa.mp hx;exact f01 w hw'
  have bd:=Iz l01;have dv:=j2t l01;rw[xg,hL]at bd dv;have pc:((2^m:Nat):Int)=(2:Int)^m:=by simp
  refine⟨rl.1,f01,(vl (L.map (fv L' row))).toNat,by omega,?_,rfl⟩;rw[fb bd.1,dv]
 have g01:∀k:Nat,k<2^m->a.getD k 0=0\/a.getD k 0=1:=λk hk=>Oq h01 k;by_cases hz:idx a m=[]
 .have hsn:zu L a m=vp (noR L):=if_pos hz;have w0:Wd (L.getD 0 []):=hW _ (getD_mem nofun);have m0:L.getD 0 []∈L':=hsub _ (getD_mem nofun);have inR:∀it∈noR L,it.2=L.getD 0 []:=λit hi=>by unfold noR at hi;simp only[xn,cz,or_false]at hi;rcases hi with rfl|rfl<;>rfl
  rw[hsn];refine jb4 hs hm hL' hw hn (Ke (n:=n+2) (by decide) (λit hi=>by rw[inR it hi];exact w0) (by simp[noR])) (j4f (by decide) λit hi=>jbu (by rw[inR it hi];exact w0)) (by have:=j4r (its:=noR L) (λit hi=>by rw[inR it hi];exact bd8 w0) (by simp[noR]);omega) (j0q (n:=n+8) hs (λit hi=>by rw[inR it hi];exact m0) (by simp[noR])) λrow hr=>?_;obtain⟨rl,f01,k,hk,hf,ek⟩:=row01 row hr;have:=j07 (n:=n+8) (its:=noR L) (kv:=(L'.map sL).zip row) (f:=fv L' row) (λit hi=>by rw[inR it hi];exact jbm hn nofun m0) (by simp[noR]);rw[jgy (f01 _ (getD_mem nofun))]at this;rw[ek];have hk0:a.getD k 0=0:=by
   rcases g01 k hk with z|z
   .exact z
   .have:k∈idx a m:=T9.mpr ⟨Xc.mpr hk,decide_eq_true z⟩;rw[hz]at this;exact absurd this (by simp)
  rw[hk0];exact this
 .have hsn:zu L a m=brP vp an (za L a m):=if_neg hz;have hne:1<=(za L a m).length:=by
   unfold za;rw[xg];cases e:idx a m with
   |nil=>exact absurd e hz
   |cons x l=>simp
  rw[hsn];refine jb4 hs hm hL' hw hn (j5d (n:=n) (by decide) (λr hr=>⟨λit hi=>hW _ ((b2 r hr).1 it hi),by rw[(b2 r hr).2];omega,by rw[(b2 r hr).2];omega⟩) ⟨hne,by omega⟩) (j4f (by decide) λr hr=>j4f (by decide) λit hi=>jbu (hW _ ((b2 r hr).1 it hi))) (by
   have:=jaz (pcs:=vp) (kd:=an) (its:=za L a m) (c:=110) b3 (by decide)
   have h4:110*(za L a m).length<=110*64:=iI 110 b1
   omega) (j99 (n:=n+7) hs (λr hr=>⟨λit hi=>hsub _ ((b2 r hr).1 it hi),by rw[(b2 r hr).2];omega⟩) nofun) λrow hr=>?_
  obtain⟨rl,f01,k,hk,hf,ek⟩:=row01 row hr;have:=j88 (n:=n+7) (rs:=za L a m) (kv:=(L'.map sL).zip row) (f:=fv L' row) (λr hr=>⟨λit hi=>jbm hn nofun (hsub _ ((b2 r hr).1 it hi)),by rw[(b2 r hr).2];omega⟩) nofun
  rw[j26,jez hL hk hf f01]at this;rw[ek];have e:b2i (decide (a.getD k 0=1))=a.getD k 0:=by rcases g01 k hk with z|z<;>rw[z]<;>rfl
  rw[e]at this;exact this
theorem j5f{n m:Nat}{s:List D->D}(hs:s=D.tup\/s=D.lst){L:List (List Nat)}{a:List Int}(hm:1<=m/\m<=6)(hL:L.length=m)(hw:∀l∈L,Wd l)(hn:L.Nodup)(ha:a.length=2^m)(h01:∀x∈a,x=0\/x=1) :
  evP 1000 G T (n+12) "question_read" [.str (sL (jn (zu L a m))),s (L.map tx)]=.val (qT L a):=by
 rw[qr (L':=L) hs hm hL hL hw hn (λ_ h=>h) ha h01];have e:((Jj m).map λrow=>D.int (a.getD (vl (L.map (fv L row))).toNat 0))=a.map D.int:=by
  rw[<-Va,X6];refine Py λk=>?_;rw[xu,xu];by_cases hk:k<2^m
  .have pc:((2^m:Nat):Int)=(2:Int)^m:=by simp
   have er:L.map (fv L (j9 2 m (k:Int)))=j9 2 m (k:Int):=by
    refine Py λi=>?_;have dl:=jr 2 m (k:Int);by_cases hi:i<m
    .rw[xu,kh (by omega:i<L.length),kh (by omega:i<(j9 2 m (k:Int)).length),T3];have:=Ei (L:=L) (row:=j9 2 m (k:Int)) (i:=i) hn nofun nofun
     rw[kj,kh (by omega:i<L.length),kj,kh (by omega:i<(j9 2 m (k:Int)).length)]at this;exact congrArg aa this
    .rw[Xj (by rw[xg];omega),Xj nofun]
   rw[T4 hk,kh (by omega:k<a.length),T3,T3];simp only[cB];rw[er,Dw m k nofun nofun,Xb,kj,kh (by omega:k<a.length)];rfl
  .rw[Xj (by rw[Xh];omega),Xj nofun];rfl
 rw[e];rfl
theorem j8q{l1 l2:List Int}(h:l1.Perm l2):l1.sum=l2.sum:=by
 induction h with
 |nil=>rfl
 |cons x _ ih=>rw[Xq,Xq,ih]
 |swap x y l=>rw[Xq,Xq,Xq,Xq];omega
 |trans _ _ h1 h2=>exact h1.trans h2
theorem j4t:∀r:List Int,vl r=((aB r.length).map λj=>r.getD j 0*2^(r.length-j-1)).sum
 |[]=>rfl
 |x::r=>by rw[vl,j4t r,xq,cP,xx,Xq,X6];congr 1;refine congrArg mh (T5 λj hj=>?_);have:=Xc.mp hj;show _=(x::r).getD (j+1) 0*2^(r.length+1-(j+1)-1);rw[f6,show r.length+1-(j+1)-1=r.length-j-1 from by omega]
noncomputable def plc(L:List (List Nat))(os:List Nat):List (List Nat):=os.map λo=>L.getD o []
noncomputable def Qw(os:List Nat)(m:Nat)(row:List Int)(i:Nat):Int:=((aB i).map λt=>row.getD t 0*2^(m-os.getD t 0-1)).sum
theorem j9x{os:List Nat}{m:Nat}{row:List Int}{i:Nat}:Qw os m row (i+1)=Qw os m row i+row.getD i 0*2^(m-os.getD i 0-1):=by unfold Qw;rw[eJ,Xw,jM];simp
section
variable{m:Nat}{L:List (List Nat)}{os:List Nat}{row:List Int}
theorem jb7(hp:os.Perm (aB m)){t:Nat}(ht:t<m):os.getD t 0<m:=by
 have hl:os.length=m:=by rw[hp.length_eq,Xh]
 rw[kj,kh nofun];exact Xc.mp (hp.mem_iff.mp (Xy _))
theorem jd5(hp:os.Perm (aB m)){t:Nat}(ht:t<m):(plc L os).getD t []=L.getD (os.getD t 0) []:=by
 have hl:os.length=m:=by rw[hp.length_eq,Xh]
 unfold plc;rw[kj,xu,kj (l:=os),kh nofun];rfl
theorem Ug(hp:os.Perm (aB m))(hL:L.length=m)(hn:L.Nodup):(plc L os).Nodup:=by unfold plc gp;rw[dJ];have hnd:os.Nodup:=hp.nodup_iff.mpr ja;refine fw (λ{x y} hx hy h e=>h ?_) hnd;have h1:=Xc.mp (hp.mem_iff.mp hx);have h2:=Xc.mp (hp.mem_iff.mp hy);rw[kj,kh nofun,kj,kh nofun]at e;exact(jA hn).mp e
theorem Cw(hp:os.Perm (aB m))(hL:L.length=m):∀w∈L,w∈plc L os:=λw hw=>by obtain⟨i,hi,e⟩:=dh hw;refine Xa.mpr ⟨i,hp.mem_iff.mpr (Xc.mpr nofun),?_⟩;rw[kj,kh hi];exact e
theorem Vb(hp:os.Perm (aB m)):(plc L os).length=m:=by unfold plc;rw[xg,hp.length_eq,Xh]
theorem j6f(hp:os.Perm (aB m))(hL:L.length=m)(hn:L.Nodup)(hr:row.length=m):Qw os m row m=vl (L.map (fv (plc L os) row)):=by
 have hl:os.length=m:=by rw[hp.length_eq,Xh]
 obtain⟨r,er⟩:∃r,r=L.map (fv (plc L os) row):=⟨_,rfl⟩
 have rl:r.length=m:=by rw[er,xg,hL]
 have rg:∀o,o<m->r.getD o 0=fv (plc L os) row (L.getD o []):=λo ho=>by rw[er,kj,xu,kj (l:=L),kh nofun];rfl
 rw[<-er,j4t,rl,<-j8q (hp.map λj=>r.getD j 0*2^(m-j-1))];unfold Qw;refine congrArg mh (Py λt=>?_);rw[xu,xu];by_cases ht:t<m
 .have h1:=Ei (L:=plc L os) (row:=row) (i:=t) (Ug hp hL hn) (by rw[Vb hp,hr]) (by rw[Vb hp];exact ht);rw[jd5 hp ht,<-rg _ (jb7 hp ht)]at h1;rw[T4 ht,kh (by omega:t<os.length),T3,T3,<-h1,kj (l:=os),kh (by omega:t<os.length)];rfl
 .rw[Xj (by rw[Xh];omega),Xj nofun];rfl
end
theorem jhy{n m:Nat}{os:List Nat}{row:List Int}{P A tl s5 s8 s9:Sv}(hm:1<=m/\m<=6)(hp:os.Perm (aB m))(hr:row.length=m):∃s8' s9':Sv,J1 (Uq [8,9] (run 1000 (evP 1000 G T n) G (.seq (.set 7 (.bin .add (.var 7) (.bin .mul (.ix (.var 6) (.var 8)) (.bin .shl (.lit (.int 1)) (.bin .sub (.bin .sub (.var 3) (.var 9)) (.lit (.int 1))))))) .nop))) (Jv (os.map oD))
   [P,A,.val (.lst (os.map oD)),.val (.int (m:Int)),tl,s5,.val (Q7 row),.val (.int 0),s8,s9]=.next [P,A,.val (.lst (os.map oD)),.val (.int (m:Int)),tl,s5,.val (Q7 row),.val (.int (Qw os m row m)),s8',s9']:=by
 have hl:os.length=m:=by rw[hp.length_eq,Xh]
 obtain⟨ρ',e1,s8',s9',er⟩:=Qn (f:=Uq [8,9] (run 1000 (evP 1000 G T n) G (.seq (.set 7 (.bin .add (.var 7) (.bin .mul (.ix (.var 6) (.var 8)) (.bin .shl (.lit (.int 1)) (.bin .sub (.bin .sub (.var 3) (.var 9)) (.lit (.int 1))))))) .nop)))
  (λi ρ=>∃s8 s9:Sv,ρ=[P,A,.val (.lst (os.map oD)),.val (.int (m:Int)),tl,s5,.val (Q7 row),.val (.int (Qw os m row i)),s8,s9]) (ds:=Jv (os.map oD)) (k:=0) (ρ:=[P,A,.val (.lst (os.map oD)),.val (.int (m:Int)),tl,s5,.val (Q7 row),.val (.int 0),s8,s9]) ⟨_,_,rfl⟩ λi d ρ hi ⟨s8,s9,er⟩=>by
  rw[Pk]at er ⊢;have hi2:i<m:=by have:=(Xf.mp hi).1;simpa [Jv,hl]using this
  rw[Kw,xu,kh (by omega:i<os.length)]at hi;have ed:d=.tup [.int (i:Int),oD (os.getD i 0)]:=by rw[kj,kh (by omega:i<os.length)];exact(aE hi).symm
  subst er ed;have ol:=jb7 hp hi2;have g2:atI (row.map D.int) (i:Int)=aa (.int (row.getD i 0)):=by have:=Yl (p:=row) (k:=i) nofun;rwa [Ph]at this
  have et:((m:Int)-((os.getD i 0:Nat):Int)-1).toNat=m-os.getD i 0-1:=by omega
  have p:=p2k (k:=m-os.getD i 0-1) nofun
  refine⟨_,?_,.val (.int (i:Int)),.val (oD (os.getD i 0)),rfl⟩;simp only[jev,oD];rw[<-et]at p;ext;rw[g2];ext;rw[et,eW,j9x]
  try rfl
 refine⟨s8',s9',?_⟩;rw[e1,er,Pk];congr 1;simp[Jv,hl]
section
variable{n m:Nat}{L:List (List Nat)}{a:List Int}{os:List Nat}
noncomputable def Jc(a:List Int)(os:List Nat)(m i:Nat):List Int:=(aB i).map λ(k:Nat)=>a.getD (Qw os m (j9 2 m (k:Int)) m).toNat 0
theorem Mi (hm:1<=m/\m<=6) (hL:L.length=m) (hn:L.Nodup) (ha:a.length=2^m) (hp:os.Perm (aB m)) (hb:∀k:Nat,k<2^m->0<=Qw os m (j9 2 m (k:Int)) m/\Qw os m (j9 2 m (k:Int)) m<2^m):evP 1000 G T (n+2) "_law_ordered" [.tup (L.map tx),.tup (a.map D.int),.lst (os.map oD)]=.val (.tup [.tup ((plc L os).map tx),.tup ((Jc a os m (2^m)).map D.int)]):=by
 have hl:os.length=m:=by rw[hp.length_eq,Xh]
 have p64:2^m<=64:=Xg (Pr (by decide) hm.2) (by decide);have pc:((2^m:Nat):Int)=(2:Int)^m:=by simp
 have e3:(1*2^m:Int).toNat=2^m:=by rw[eW,<-pc];exact Xb _
 have p2:=j8o (m:=m) hm.2;rw[jt (F:=R8) (by rfl) rfl];simp only[R8,Yj,enter];ext;rw[show(L.length:Int)=(m:Int)from by rw[hL],Xb];ext;rw[e3];refine Wh (λi ρ=>∃s5 s6 s7 s8 s9:Sv,ρ=[.val (.tup (L.map tx)),.val (.tup (a.map D.int)),.val (.lst (os.map oD)),.val (.int (m:Int)),.own ((Jc a os m i).map D.int),s5,s6,s7,s8,s9]) ⟨_,_,_,_,_,rfl⟩ (λi d ρ hi=>?_) λρ'=>?_
 .rintro⟨s5,s6,s7,s8,s9,rfl⟩;obtain⟨hi2,rfl⟩:=V9 hi;rw[Ph];have rs:evP 1000 G T (n+1) "_law_row" [.int (m:Int),.int (i:Int)]=.val (.tup ((j9 2 m (i:Int)).map D.int)):=j09 jhw hm.2;obtain⟨s8',s9',fi⟩:=jhy (n:=n+1) (os:=os) (row:=j9 2 m (i:Int)) (P:=.val (.tup (L.map tx))) (A:=.val (.tup (a.map D.int))) (tl:=.own ((Jc a os m i).map D.int)) (s5:=.val (.int (i:Int))) (s8:=s8) (s9:=s9) hm hp (jr _ _ _);have bd:=hb i hi2;have tl:(Jc a os m i).length<=1000:=by simp[Jc];omega
  have gi:atI (a.map D.int) (Qw os m (j9 2 m (i:Int)) m)=aa (.int (a.getD (Qw os m (j9 2 m (i:Int)) m).toNat 0)):=by
   have:=Yl (p:=a) (k:=(Qw os m (j9 2 m (i:Int)) m).toNat) nofun
   rwa [Ph,fb bd.1]at this
  simp only[Ji];ext;erw[rs,fi,gi];refine⟨_,rfl,.val (.int (i:Int)),.val (Q7 (j9 2 m (i:Int))),.val (.int (Qw os m (j9 2 m (i:Int)) m)),s8',s9',?_⟩;unfold Jc;rw[eJ,Xw,Xw];rfl
 .rintro⟨s5,s6,s7,s8,s9,rfl⟩;rw[ju];ext;rw[ql (l:=(plc L os).map tx) (by rfl) (by rw[xg];omega) ?_ (.inl rfl)]
  .ext
  .unfold plc;rw[X6];refine jy λo ho=>zf (by ext) ?_;have:=Xc.mp (hp.mem_iff.mp ho);unfold oD;ext;rw[Zj (v:=tx (L.getD o [])) (by rw[xu,kj,kh nofun];rfl)];ext;rfl
theorem M9(hm:1<=m/\m<=6)(hL:L.length=m)(hn:L.Nodup)(hp:os.Perm (aB m)):((Jj m).map λrow=>D.int (a.getD (vl (L.map (fv (plc L os) row))).toNat 0))=(Jc a os m (2^m)).map D.int:=by rw[<-Va,X6];unfold Jc;rw[X6];refine T5 λk hk=>?_;simp only[cB];rw[j6f hp hL hn (jr _ _ _)]
theorem j6g(hL:L.length=m)(hn:L.Nodup)(hp:os.Perm (aB m))(k:Nat):0<=Qw os m (j9 2 m (k:Int)) m/\Qw os m (j9 2 m (k:Int)) m<2^m:=by
 rw[j6f hp hL hn (jr _ _ _)];have:=Iz (r:=L.map (fv (plc L os) (j9 2 m (k:Int)))) λx hx=>by
  obtain⟨w,hw,rfl⟩:=Xa.mp hx;obtain⟨i,hi,e⟩:=dh (Cw hp hL w hw);have ew:w=(plc L os).getD i []:=by rw[kj,kh hi];exact e.symm
  rw[ew,Ei (Ug hp hL hn) (by rw[Vb hp,jr]) hi];exact Oq (Oj m _) i
 rw[xg,hL]at this;exact this
end
theorem Fb {n:Nat} {L:List (List Nat)} {A:List Int} (h1:L.length<=1000) (h2:A.length<=1000):evP 1000 G T (n+3) "_law_same" [qT L A,qT L A]=.val (.bl af):=by
 refine Kd jbj 2 ?_ ?_
 .have:=ja9 L;have:=O1 A;unfold qT;simp only[D.dep,D.depL];omega
 .unfold qT;simp only[J6];refine⟨by simp,Ul λd hd=>?_⟩;simp only[xn,cz,or_false]at hd;rcases hd with rfl|rfl
  .exact j94 h1
  .exact j61 h2
theorem Mj(L:List (List Nat)):qw (L.map tx)=af:=by
 induction L with
 |nil=>rfl
 |cons l L ih=>simp[qw,Jk,ih]
theorem j3w(l:List Int):qw (l.map D.int)=af:=by
 induction l with
 |nil=>rfl
 |cons x l ih=>simp[qw,Jk,ih]
theorem same_str {n:Nat} {x:aq}:evP 1000 G T (n+1) "_law_same" [.str x,.str x]=.val (.bl af):=Kd jbj 0 (by simp[D.dep]) (by simp[J6])
noncomputable def depth:Nat:=12
theorem jbb{L:List (List Nat)}{A:List Int}:Jk (qT L A)=af:=by unfold qT;simp only[Jk,qw,Mj,j3w,gN]
theorem j1f{Γ:aq->List D->Rc}{f:aq}{x d:D}(h:Jk d=af):Qe Γ f (aa (.a [.e x,.t d]))=rcW (Γ f [x,d]):=Ym (by simp only[vy,Rk.st,h,if_true])
theorem jjs{L:List (List Nat)}(h:∀l∈L,isW l=af):∀l∈L,Wd l:=λl hl=>by have:=h l hl;unfold isW at this;rw[X8,X8]at this;refine⟨h l hl,λc hc=>jdo (Xp.mp this.2 c hc),?_⟩;have:=of_decide_eq_true this.1.2;omega
theorem lawTrue:∀ns:List Int,ns.length<=63->evP 1000 G T (depth+1) "law" [.lst (ns.map D.int)]=.val (.bl af):=by
 intro ns hns;rw[jt (F:=j45) (by rfl) rfl];simp only[j45,j4g,enter,depth];have c3:evP 1000 G T 12 "_law_cell" [.lst (ns.map D.int),.int 3]=.val (.int (z8 ns 3)):=Vu (n:=11) (k:=3) Di (by decide);have c4:evP 1000 G T 12 "_law_cell" [.lst (ns.map D.int),.int 4]=.val (.int (z8 ns 4)):=Vu (n:=11) (k:=4) Di (by decide);obtain⟨L,⟨wn,wl,wi⟩,qe⟩:=j1q (n:=10) (ns:=ns) (a:=0) (most:=6) (by decide) (by decide);have qe:evP 1000 G T 12 "_law_question" [.lst (ns.map D.int),.int 0,.int 6]=_:=qe;have a01:=jf0 (n:=10) (ns:=ns) (a:=0) (most:=6) (by decide);have hm:=Ld (ns:=ns) (a:=0) (most:=6) (by decide);obtain⟨m,em⟩:∃m:Nat,m=Zr ns 0 6:=⟨_,rfl⟩
 have al':(U7 10 ns 0 6).length=2^m:=by simp[U7,<-em]
 rw[<-em]at hm wl;have ww:=jjs wi;have w8:∀l∈L,l.length<=8:=λl hl=>bd8 (ww l hl);generalize U7 10 ns 0 6=a at *;obtain⟨os,hp,eo⟩:=j8s (n:=11) (m:=m) (c:=z8 ns 4) hm;have p64:2^m<=64:=Xg (Pr (by decide) hm.2) (by decide);ext;erw[qe,c3];by_cases h:z8 ns 3%8=0
 .ext;rw[ql (l:=(a.map λ_=>(0:Int)).map D.int) (by rfl) (by rw[xg];omega) (by
   rw[X6]
   exact jy λx hx=>zf (by ext) (by ext;rfl)) (.inl rfl)]
  have HA:(a.map λ_=>(0:Int)).length=2^m:=by rw[xg,al']
  have H01:∀x∈(a.map λ_=>(0:Int)),x=0\/x=1:=λx hx=>by obtain⟨_,_,rfl⟩:=Xa.mp hx;exact .inl rfl
  generalize (a.map λ_=>(0:Int))=a2 at *;ext;have os_l:os.length=m:=by rw[hp.length_eq,Xh]
  have ts:evP 1000 G T 12 "_law_text" [.tup (L.map tx),.tup (a2.map D.int)]=.val (.str (sL (jn (zu L a2 m)))):=K9 (n:=10) hm wl HA H01 w8;have sh:evP 1000 G T 12 "question_shown" [.tup [.tup (L.map tx),.tup (a2.map D.int)]]=.val (.str (sL (jn (zu L a2 m)))):=Nz (n:=8) hm wl HA w8;have q1:evP 1000 G T 12 "question_read" [.str (sL (jn (zu L a2 m))),.tup (L.map tx)]=.val (.tup [.tup (L.map tx),.tup (a2.map D.int)]):=j5f (n:=0) (.inl rfl) hm wl ww wn HA H01;have q2:evP 1000 G T 12 "question_read" [.str (sL (jn (zu L a2 m))),.lst ((plc L os).map tx)]=.val (qT (plc L os) (Jc a2 os m (2^m))):=by
   rw[qr (n:=0) (L':=plc L os) (.inr rfl) hm wl (Vb hp) (λl hl=>by
    obtain⟨o,ho,rfl⟩:=Xa.mp hl
    exact ww _ (getD_mem (by have:=Xc.mp (hp.mem_iff.mp ho);omega))) (Ug hp wl wn) (Cw hp wl) HA H01,M9 hm wl wn hp]
   rfl
  have od:evP 1000 G T 12 "_law_ordered" [.tup (L.map tx),.tup (a2.map D.int),.lst (os.map oD)]=.val (qT (plc L os) (Jc a2 os m (2^m))):=Mi (n:=10) hm wl wn HA hp λk hk=>j6g wl wn hp k;have s1:evP 1000 G T 12 "_law_same" [.tup [.tup (L.map tx),.tup (a2.map D.int)],.tup [.tup (L.map tx),.tup (a2.map D.int)]]=.val (.bl af):=Fb (n:=9) nofun nofun
  have s2:evP 1000 G T 12 "_law_same" [qT (plc L os) (Jc a2 os m (2^m)),qT (plc L os) (Jc a2 os m (2^m))]=.val (.bl af):=Fb (n:=9) (by rw[Vb hp];omega) (by simp[Jc];omega);have s3:evP 1000 G T 12 "_law_same" [.str (sL (jn (zu L a2 m))),.str (sL (jn (zu L a2 m)))]=.val (.bl af):=same_str (n:=11);rw[c4];ext;rw[show(L.length:Int)=(m:Int)from by rw[wl],eo];ext;erw[ts,sh,s3,q1,s1];rw[ql (l:=(plc L os).map tx) (by rfl) (by rw[xg];omega) ?_ (.inr (Mj _))]
  .ext;rw[q2];ext;rw[Oo (xs:=[.e (.tup (L.map tx)),.e (.tup (a2.map D.int)),.w (os.map oD)]) rfl];simp only[xx,cA,d_e,d_w];rw[od,j3j];ext;rw[j1f jbb,s2];ext;erw[sh,s3]
  .unfold plc;rw[X6];refine jy λo ho=>zf (by ext) ?_;have:=Xc.mp (hp.mem_iff.mp ho);unfold oD;ext;rw[Zj (v:=tx (L.getD o [])) (by rw[xu,kj,kh nofun];rfl)];ext;rfl
 .have HA:=al';have H01:=a01;ext;have os_l:os.length=m:=by rw[hp.length_eq,Xh]
  have ts:evP 1000 G T 12 "_law_text" [.tup (L.map tx),.tup (a.map D.int)]=.val (.str (sL (jn (zu L a m)))):=K9 (n:=10) hm wl HA H01 w8;have sh:evP 1000 G T 12 "question_shown" [.tup [.tup (L.map tx),.tup (a.map D.int)]]=.val (.str (sL (jn (zu L a m)))):=Nz (n:=8) hm wl HA w8;have q1:evP 1000 G T 12 "question_read" [.str (sL (jn (zu L a m))),.tup (L.map tx)]=.val (.tup [.tup (L.map tx),.tup (a.map D.int)]):=j5f (n:=0) (.inl rfl) hm wl ww wn HA H01;have q2:evP 1000 G T 12 "question_read" [.str (sL (jn (zu L a m))),.lst ((plc L os).map tx)]=.val (qT (plc L os) (Jc a os m (2^m))):=by
   rw[qr (n:=0) (L':=plc L os) (.inr rfl) hm wl (Vb hp) (λl hl=>by
    obtain⟨o,ho,rfl⟩:=Xa.mp hl
    exact ww _ (getD_mem (by have:=Xc.mp (hp.mem_iff.mp ho);omega))) (Ug hp wl wn) (Cw hp wl) HA H01,M9 hm wl wn hp]
   rfl
  have od:evP 1000 G T 12 "_law_ordered" [.tup (L.map tx),.tup (a.map D.int),.lst (os.map oD)]=.val (qT (plc L os) (Jc a os m (2^m))):=Mi (n:=10) hm wl wn HA hp λk hk=>j6g wl wn hp k;have s1:evP 1000 G T 12 "_law_same" [.tup [.tup (L.map tx),.tup (a.map D.int)],.tup [.tup (L.map tx),.tup (a.map D.int)]]=.val (.bl af):=Fb (n:=9) nofun nofun
  have s2:evP 1000 G T 12 "_law_same" [qT (plc L os) (Jc a os m (2^m)),qT (plc L os) (Jc a os m (2^m))]=.val (.bl af):=Fb (n:=9) (by rw[Vb hp];omega) (by simp[Jc];omega);have s3:evP 1000 G T 12 "_law_same" [.str (sL (jn (zu L a m))),.str (sL (jn (zu L a m)))]=.val (.bl af):=same_str (n:=11);rw[c4];ext;rw[show(L.length:Int)=(m:Int)from by rw[wl],eo];ext;erw[ts,sh,s3,q1,s1];rw[ql (l:=(plc L os).map tx) (by rfl) (by rw[xg];omega) ?_ (.inr (Mj _))]
  .ext;rw[q2];ext;rw[Oo (xs:=[.e (.tup (L.map tx)),.e (.tup (a.map D.int)),.w (os.map oD)]) rfl];simp only[xx,cA,d_e,d_w];rw[od,j3j];ext;rw[j1f jbb,s2];ext;erw[sh,s3]
  .unfold plc;rw[X6];refine jy λo ho=>zf (by ext) ?_;have:=Xc.mp (hp.mem_iff.mp ho);unfold oD;ext;rw[Zj (v:=tx (L.getD o [])) (by rw[xu,kj,kh nofun];rfl)];ext;rfl
end K14
end
open PySem PySem.W PyProof.Rows
local macro_rules | `(tactic| walk_at "lf") => `(tactic| (refine' L2.lf_mk ?a ?l ?c ?k; (case a => k_is); (case l => k_is); (case c => k_is); (case k => k_is)))
local macro_rules | `(tactic| walk_at "lm") => `(tactic| (refine' L2.lm_mk ?a ?i ?l ?c ?k; (case a => k_is); (case i => k_is); (case l => k_is); (case c => k_is); (case k => k_is)))
set_option Elab.async false
namespace PySem.W.Fast
def tw4296656310067976968:=0
def tw12305528376548919703:=0
def tw14357138454625695201:=0
def tw5065730105109676823:=0
def tw12718109682646368375:=0
def tw7258658349761763111:=0
def tw9975949545138618956:=0
def tw15670539602619552978:=0
def tw16783520082825849768:=0
def tw8358008304334729793:=0
def tw15805798176502879795:=0
def tw10195439328221636141:=0
def tw15878496167523683238:=0
def tw2494226169755002160:=0
def tw15384228055858225080:=0
def tw17007373940170249196:=0
def tw10455633967077130420:=0
def tw7580233140240009280:=0
def tw8482916716322554129:=0
def tw10808304040351996502:=0
def tw6540996075817998379:=0
def tw467256363580406280:=0
def tw4295388495321360382:=0
def tw8959205012636337348:=0
def tw1091693570348317213:=0
def tw11692063995761173880:=0
def tw9657144388329684156:=0
def tw421084512192415245:=0
def tw14361878595983621568:=0
def tw6267978887495891562:=0
def tw5299608780788682624:=0
def tw11647605068742741127:=0
def tw8831448464000770016:=0
def tw15808142594017805563:=0
def tw16620823120308904137:=0
def tw7054413218735103157:=0
def tw11231112542134604490:=0
def tw11885345867939413049:=0
def tw367409968182925101:=0
def tw11216731104812184768:=0
def tw14983879725750497895:=0
def tw4986746391068470500:=0
def tw16896945904162947369:=0
def tw5125208057060255792:=0
def tw4896083351871948200:=0
def tw16105901081605517868:=0
def tw12565980497935127827:=0
def tw12559485448425980115:=0
def tw9113050407419207616:=0
def tw4495231980797351747:=0
def tw1282697750660505241:=0
def tw13430719194697531477:=0
def tw6616098782202802635:=0
def tw18331832836844435186:=0
def tw15893657954086672685:=0
def tw12065251836073506540:=0
def tw8247875747123256306:=0
def tw11903292025692228097:=0
def tw7411609541034752188:=0
def tw7967798657292163159:=0
def tw2522486000467084608:=0
def tw16385821680378482416:=0
def tw14194133664841779718:=0
def tw14656085590856557128:=0
def tw11746908465390750125:=0
def tw15054450813178336720:=0
def tw5450348601177196262:=0
def tw3077559429534491105:=0
def tw13258805510189486751:=0
def tw2989206689103673062:=0
def tw18196668976455188758:=0
def tw15169734027862499455:=0
def tw12131676055223840918:=0
def tw12497272352257936038:=0
def tw6851041621409238576:=0
def tw15679291567023473240:=0
def tw97886968975600651:=0
def tw8693101119772280200:=0
def tw3440657533949785644:=0
def tw2816682821939120073:=0
def tw16827954195546064337:=0
def tw18116139409620205114:=0
def tw2456346069545097156:=0
def tw7008717475518084536:=0
def tw15917068432548047750:=0
def tw15741207339997340322:=0
def tw1242180661153737715:=0
def tw16747735959949281922:=0
def tw6858181625120173777:=0
def tw14237783007918436385:=0
def tw12731162869862558225:=0
def tw11196469988579377528:=0
def tw16953446267421113351:=0
def tw11677407657901647756:=0
def tw7296839227232098121:=0
def tw7257063796044095429:=0
def tw11828187682744063510:=0
def tw3400753400314560691:=0
def tw4296619646619923461:=0
def tw10853706139783009671:=0
def tw13095730681607928894:=0
def tw17093132567013545329:=0
def tw16337144465554403479:=0
def tw1605825990413976635:=0
def tw17658849727997847410:=0
def tw14127483407444211823:=0
def tw14498052514909751565:=0
def tw14734076914542780607:=0
def tw2798937457144050385:=0
end PySem.W.Fast
set_option maxRecDepth 100000 in
set_option maxHeartbeats 0 in
theorem PySem.Challenge.cw_leastasks_k14_whole_shown_and_read_holds : PySem.Challenge.rw_leastasks_k14_whole_shown_and_read.Holds := by
  w_on; o_law; k_head; (case hw => w_witness2)
  k_fill
  refine L2.walkL (l := PySem.Challenge.rw_leastasks_k14_whole_shown_and_read) (k := L2.lv (K14.depth + 1)) (x := "_law_script") (by decide) rfl rfl (ts := []) (fun w h Y => ⟨PySem.W.kIn_of Y, fun _ h => nomatch h⟩) ?tz ?F
  case tz => intro w; kernel_rfl
  case F =>
    intro w mg fa h KX Gn hmg tz
    refine' K14.head KX Gn hmg ?h0 ?h1 ?h2 ?h3 ?h4 ?h5 ?h6 ?h7 ?h8 ?h9 ?h10 ?h11 ?h12 ?h13 ?h14 ?h15 ?h16 ?h17 ?h18 ?h19 ?h20 ?h21 ?h22 ?h23 ?h24 ?h25 ?h26 ?h27 ?h28 ?h29 ?h30 ?h31 ?h32 ?h33 ?h34 ?h35 ?h36 ?bz tz ?gn0 ?gn1 ?gn2 ?gn3 ?ga4l ?gn4 ?ga7l ?gn5 ?ga17l ?gn6 ?ga20l ?gn7 ?gn8 ?gn9 ?gn10 ?ga26l ?gn11 ?ga32l ?ga35l ?ga38l ?ga41l ?ga44l ?ga47l ?ga31l ?gn12 ?exa ?hpc K14.lawTrue
    (case h0 => walk_at "lf")
    (case h1 => walk_at "lf")
    (case h2 => walk_at "lf")
    (case h3 => walk_at "lf")
    (case h4 => walk_at "lf")
    (case h5 => walk_at "lf")
    (case h6 => walk_at "lf")
    (case h7 => walk_at "lf")
    (case h8 => walk_at "lf")
    (case h9 => walk_at "lf")
    (case h10 => walk_at "lf")
    (case h11 => walk_at "lf")
    (case h12 => walk_at "lf")
    (case h13 => walk_at "lf")
    (case h14 => walk_at "lf")
    (case h15 => walk_at "lf")
    (case h16 => walk_at "lf")
    (case h17 => walk_at "lf")
    (case h18 => walk_at "lf")
    (case h19 => walk_at "lf")
    (case h20 => walk_at "lf")
    (case h21 => walk_at "lf")
    (case h22 => walk_at "lf")
    (case h23 => walk_at "lf")
    (case h24 => walk_at "lf")
    (case h25 => walk_at "lf")
    (case h26 => walk_at "lf")
    (case h27 => walk_at "lf")
    (case h28 => walk_at "lf")
    (case h29 => walk_at "lf")
    (case h30 => walk_at "lf")
    (case h31 => walk_at "lf")
    (case h32 => walk_at "lf")
    (case h33 => walk_at "lf")
    (case h34 => walk_at "lf")
    (case h35 => walk_at "lf")
    (case h36 => walk_at "lf")
    (case gn0 => k_is)
    (case gn1 => k_is)
    (case gn2 => k_is)
    (case gn3 => k_is)
    (case gn4 => k_is)
    (case gn5 => k_is)
    (case gn6 => k_is)
    (case gn7 => k_is)
    (case gn8 => k_is)
    (case gn9 => k_is)
    (case gn10 => k_is)
    (case gn11 => k_is)
    (case gn12 => k_is)
    (case ga31l => k_is)
    (case ga47l => k_is)
    (case ga44l => k_is)
    (case ga41l => k_is)
    (case ga38l => k_is)
    (case ga35l => k_is)
    (case ga32l => k_is)
    (case ga26l => k_is)
    (case ga20l => k_is)
    (case ga17l => k_is)
    (case ga7l => k_is)
    (case ga4l => k_is)
    (case bz => kernel_rfl)
    (case exa => kernel_rfl)
    (case hpc => (refine' L2.PcH.mk ?at_ ?pg ?hd ?po ?sa ?mk_ ?kc ?nS ?nP ?mI ?mA ?mT ?mL; (case at_ => k_is); (case pg => k_is); (case hd => k_is); (case po => k_is); (case sa => k_is); (case mk_ => k_is); (case kc => k_is); (case nS => k_is); (case nP => k_is); (case mI => walk_at "lm"); (case mA => walk_at "lm"); (case mT => walk_at "lm"); (case mL => walk_at "lm")))
#print axioms PySem.Challenge.cw_leastasks_k14_whole_shown_and_read_holds